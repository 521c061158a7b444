import PyProof.Rows.All
import Wide.All
import OpenK.AllK
import Wide.FinOn
import Open.SpecLaws
import KE.OsGo
import HandS.ForSpec
import HandS.ForMost
import HandS.Walk
import HandS.Strs
import HandS.SetFor
import KE.DatumOrd
import HandS.SortKw
import HandS.Conv
import PyProof.AutoSeq1
import HandS.More
import PySem.Challenge.RW_decisions_s01_answers
set_option Elab.async false
/-! The mathematics: strictly rising lists, cells, what is decided. No Python here. -/
namespace DM
open Wf07

theorem ext_rising : ∀ {a b : List Nat}, a.Pairwise (· < ·) → b.Pairwise (· < ·) → (∀ x, x ∈ a ↔ x ∈ b) → a = b
  | [], [], _, _, _ => rfl
  | [], y :: b, _, _, h => absurd ((h y).2 (List.mem_cons_self ..)) (by simp)
  | x :: a, [], _, _, h => absurd ((h x).1 (List.mem_cons_self ..)) (by simp)
  | x :: a, y :: b, ha, hb, h => by
    have ha' := List.pairwise_cons.mp ha
    have hb' := List.pairwise_cons.mp hb
    have e : x = y := by
      have h1 := (h x).1 (List.mem_cons_self ..)
      have h2 := (h y).2 (List.mem_cons_self ..)
      rcases List.mem_cons.mp h1 with h1 | h1
      · exact h1
      · rcases List.mem_cons.mp h2 with h2 | h2
        · exact h2.symm
        · have := hb'.1 x h1
          have := ha'.1 y h2
          omega
    subst e
    have : a = b := ext_rising ha'.2 hb'.2 fun z => by
      constructor
      · intro hz
        rcases List.mem_cons.mp ((h z).1 (List.mem_cons_of_mem _ hz)) with e | e
        · subst e
          exact absurd (ha'.1 z hz) (by omega)
        · exact e
      · intro hz
        rcases List.mem_cons.mp ((h z).2 (List.mem_cons_of_mem _ hz)) with e | e
        · subst e
          exact absurd (hb'.1 z hz) (by omega)
        · exact e
    rw [this]

theorem mem_put {x a : Nat} : ∀ {l : List Nat}, x ∈ put a l ↔ x = a ∨ x ∈ l
  | [] => by simp [put]
  | b :: l => by
    unfold put
    split
    · simp
    · split
      · rename_i h
        subst h
        simp
      · rw [List.mem_cons, mem_put (l := l), List.mem_cons]
        constructor
        · rintro (h | h | h)
          · exact .inr (.inl h)
          · exact .inl h
          · exact .inr (.inr h)
        · rintro (h | h | h)
          · exact .inr (.inl h)
          · exact .inl h
          · exact .inr (.inr h)
theorem put_rising {a : Nat} : ∀ {l : List Nat}, l.Pairwise (· < ·) → (put a l).Pairwise (· < ·)
  | [], _ => by simp [put]
  | b :: l, h => by
    have h' := List.pairwise_cons.mp h
    unfold put
    split
    · rename_i c
      refine List.pairwise_cons.mpr ⟨fun z hz => ?_, h⟩
      rcases List.mem_cons.mp hz with e | e
      · omega
      · have := h'.1 z e
        omega
    · split
      · exact h
      · refine List.pairwise_cons.mpr ⟨fun z hz => ?_, put_rising h'.2⟩
        rcases mem_put.mp hz with e | e
        · omega
        · exact h'.1 z e

/-- a rule as the program lets it in, with n values -/
structure Good (n : Nat) (r : Rule) : Prop where
  len : r.ranges.length = n
  ok : ∀ p ∈ r.ranges, p.1 ≤ p.2 ∧ p.2 ≤ 100
  says : r.says ≤ 1000

def stepE (i : Nat) (s : List Nat) (r : Rule) : List Nat := match r.ranges[i]? with
  | some p => put (p.2 + 1) (put p.1 s)
  | none => s
def twoOf (i : Nat) (r : Rule) : List Nat := match r.ranges[i]? with
  | some p => [p.1, p.2 + 1]
  | none => []
/-- what the program puts into its list of places -/
def starts (rs : List Rule) (i : Nat) : List Nat := [0, 101] ++ rs.flatMap (twoOf i)
theorem stepE_rising {i : Nat} {s : List Nat} {r : Rule} (h : s.Pairwise (· < ·)) : (stepE i s r).Pairwise (· < ·) := by
  unfold stepE
  split
  · exact put_rising (put_rising h)
  · exact h
theorem mem_stepE {i x : Nat} {s : List Nat} {r : Rule} : x ∈ stepE i s r ↔ x ∈ s ∨ x ∈ twoOf i r := by
  unfold stepE twoOf
  split
  · rw [mem_put, mem_put]
    simp only [List.mem_cons, List.not_mem_nil, or_false]
    constructor
    · rintro (h | h | h)
      · exact .inr (.inr h)
      · exact .inr (.inl h)
      · exact .inl h
    · rintro (h | h | h)
      · exact .inr (.inr h)
      · exact .inr (.inl h)
      · exact .inl h
  · simp
theorem raw_rising {i : Nat} : ∀ {rs : List Rule} {s : List Nat}, s.Pairwise (· < ·) → (rs.foldl (stepE i) s).Pairwise (· < ·)
  | [], _, h => h
  | _ :: rs, _, h => raw_rising (rs := rs) (stepE_rising h)
theorem mem_raw {i x : Nat} : ∀ {rs : List Rule} {s : List Nat}, x ∈ rs.foldl (stepE i) s ↔ x ∈ s ∨ x ∈ rs.flatMap (twoOf i)
  | [], _ => by simp
  | r :: rs, s => by
    rw [List.foldl_cons, mem_raw (rs := rs), mem_stepE, List.flatMap_cons, List.mem_append, or_assoc]
theorem edges_eq (most : Nat) (rs : List Rule) (i : Nat) : edges most rs i = (rs.foldl (stepE i) [0]).filter fun a => decide (a ≤ most) := rfl
theorem edges_rising (rs : List Rule) (i : Nat) : (edges 100 rs i).Pairwise (· < ·) := by
  rw [edges_eq]
  exact List.Pairwise.filter _ (raw_rising (by simp))
theorem edges_le {rs : List Rule} {i x : Nat} (h : x ∈ edges 100 rs i) : x ≤ 100 := by
  rw [edges_eq] at h
  exact of_decide_eq_true (List.mem_filter.mp h).2
theorem mem_edges {rs : List Rule} {i x : Nat} : x ∈ edges 100 rs i ↔ (x = 0 ∨ x ∈ rs.flatMap (twoOf i)) ∧ x ≤ 100 := by
  rw [edges_eq, List.mem_filter, mem_raw]
  simp
theorem starts_le {n i : Nat} {rs : List Rule} (g : ∀ r ∈ rs, Good n r) {x : Nat} (h : x ∈ rs.flatMap (twoOf i)) : x ≤ 101 := by
  obtain ⟨r, hr, hx⟩ := List.mem_flatMap.mp h
  unfold twoOf at hx
  split at hx
  · rename_i p hp
    have := (g r hr).ok p (List.mem_of_getElem? hp)
    simp at hx
    omega
  · simp at hx
/-- sorted, each once: the specification's places and the one behind the last -/
theorem edges_is {n i : Nat} {rs : List Rule} {ns : List Nat} (g : ∀ r ∈ rs, Good n r) (hr : ns.Pairwise (· < ·)) (hm : ∀ x, x ∈ ns ↔ x ∈ starts rs i) : ns = edges 100 rs i ++ [101] := by
  refine ext_rising hr ?_ fun x => ?_
  · refine List.pairwise_append.mpr ⟨edges_rising rs i, by simp, fun a ha b hb => ?_⟩
    have := edges_le ha
    simp at hb
    omega
  · rw [hm x]
    unfold starts
    rw [List.mem_append, List.mem_append, mem_edges]
    simp only [List.mem_cons, List.not_mem_nil, or_false]
    constructor
    · rintro ((h | h) | h)
      · exact .inl ⟨.inl h, by omega⟩
      · exact .inr h
      · have := starts_le g h
        by_cases c : x = 101
        · exact .inr c
        · exact .inl ⟨.inr h, by omega⟩
    · rintro (⟨h | h, _⟩ | h)
      · exact .inl (.inl h)
      · exact .inr h
      · exact .inl (.inr h)
theorem edges_head (rs : List Rule) (i : Nat) : 0 ∈ edges 100 rs i := mem_edges.mpr ⟨.inl rfl, by omega⟩
theorem edges_ne (rs : List Rule) (i : Nat) : edges 100 rs i ≠ [] := fun h => by
  have := edges_head rs i
  rw [h] at this
  simp at this

/-! spans -/
def adj : List Nat → List (Nat × Nat)
  | a :: b :: l => (a, b - 1) :: adj (b :: l)
  | _ => []
def spanOf (e : Nat × Nat) : Nat × Nat := (e.1, e.1 + e.2 - 1)
theorem adj_widths : ∀ {es : List Nat}, es.Pairwise (· < ·) → (∀ x ∈ es, x ≤ 100) → adj (es ++ [101]) = (widths 100 es).map spanOf
  | [], _, _ => rfl
  | [a], _, hl => by
    have := hl a (by simp)
    show [(a, 101 - 1)] = [(a, a + (100 + 1 - a) - 1)]
    congr 2
    omega
  | a :: b :: l, h, hl => by
    have h' := List.pairwise_cons.mp h
    have := h'.1 b (by simp)
    have ih := adj_widths h'.2 fun x hx => hl x (List.mem_cons_of_mem _ hx)
    show (a, b - 1) :: adj ((b :: l) ++ [101]) = (a, a + (b - a) - 1) :: (widths 100 (b :: l)).map spanOf
    rw [ih]
    congr 2
    omega
theorem adj_length : ∀ l : List Nat, (adj l).length = l.length - 1
  | [] => rfl
  | [_] => rfl
  | a :: b :: l => by
    show (adj (b :: l)).length + 1 = _
    rw [adj_length (b :: l)]
    simp
theorem adj_get : ∀ (l : List Nat) (k a b : Nat), l[k]? = some a → l[k + 1]? = some b → (adj l)[k]? = some (a, b - 1)
  | [], _, _, _, h, _ => by simp at h
  | [_], _, _, _, _, h => by simp at h
  | x :: y :: l, 0, a, b, h, h' => by
    simp at h h'
    subst h h'
    rfl
  | x :: y :: l, k + 1, a, b, h, h' => adj_get (y :: l) k a b (by simpa using h) (by simpa using h')
theorem widths_pos : ∀ {es : List Nat}, es.Pairwise (· < ·) → (∀ x ∈ es, x ≤ 100) → ∀ e ∈ widths 100 es, 0 < e.2 ∧ e.1 + e.2 ≤ 101
  | [], _, _, e, h => by simp [widths] at h
  | [a], _, hl, e, h => by
    have := hl a (by simp)
    simp [widths] at h
    subst h
    simp
    omega
  | a :: b :: l, h, hl, e, he => by
    have h' := List.pairwise_cons.mp h
    have := h'.1 b (by simp)
    have := hl b (by simp)
    rcases List.mem_cons.mp he with he | he
    · subst he
      simp
      omega
    · exact widths_pos h'.2 (fun x hx => hl x (List.mem_cons_of_mem _ hx)) e he

/-! cells -/
abbrev Ws (rs : List Rule) (i : Nat) : List (Nat × Nat) := widths 100 (edges 100 rs i)
def prodR : List (List (Nat × Nat)) → List (List (Nat × Nat))
  | [] => [[]]
  | w :: ws => w.flatMap fun e => (prodR ws).map (e :: ·)
def longer (acc : List (List (Nat × Nat))) (w : List (Nat × Nat)) : List (List (Nat × Nat)) := acc.flatMap fun c => w.map fun s => c ++ [s]
theorem longer_all : ∀ (ws : List (List (Nat × Nat))) (acc : List (List (Nat × Nat))), ws.foldl longer acc = acc.flatMap fun c => (prodR ws).map (c ++ ·)
  | [], acc => by
    show acc = acc.flatMap fun c => [c ++ []]
    induction acc with
    | nil => rfl
    | cons x r ih => rw [List.flatMap_cons, ← ih]; simp
  | w :: ws, acc => by
    rw [List.foldl_cons, longer_all ws]
    unfold longer
    rw [List.flatMap_assoc]
    congr 1
    funext c
    rw [List.flatMap_map]
    show _ = List.map (c ++ ·) (w.flatMap fun e => (prodR ws).map (e :: ·))
    rw [List.map_flatMap]
    congr 1
    funext s
    rw [List.map_map]
    congr 1
    funext t
    simp
def mulW (c : List (Nat × Nat)) : Nat := c.foldr (fun e a => e.2 * a) 1
def toCell (c : List (Nat × Nat)) : Point × Nat := (c.map (·.1), mulW c)
theorem fold_cells (f : Nat → List (Nat × Nat)) : ∀ (l : List Nat), l.reverse.foldl (fun l i => (f i).flatMap fun e => l.map fun c => ((e.1 :: c.1 : Point), e.2 * c.2)) [(([] : Point), 1)] = (prodR (l.map f)).map toCell
  | [] => rfl
  | i :: l => by
    rw [List.reverse_cons, List.foldl_append, fold_cells f l]
    show ((f i).flatMap fun e => ((prodR (l.map f)).map toCell).map fun c => (e.1 :: c.1, e.2 * c.2)) = ((f i).flatMap fun e => (prodR (l.map f)).map (e :: ·)).map toCell
    rw [List.map_flatMap]
    congr 1
    funext e
    rw [List.map_map, List.map_map]
    rfl
/-- the specification's cells are the product of the places' widths -/
theorem cells_is (rs : List Rule) (n : Nat) : cells 100 rs n = (prodR ((List.range n).map (Ws rs))).map toCell := fold_cells (Ws rs) (List.range n)
/-- cells as the program has them: of each value first and last -/
def spansOf (rs : List Rule) (i : Nat) : List (Nat × Nat) := (Ws rs i).map spanOf
def pcells (rs : List Rule) (n : Nat) : List (List (Nat × Nat)) := ((List.range n).map (spansOf rs)).foldl longer [[]]
theorem prodR_map (g : Nat × Nat → Nat × Nat) : ∀ ws : List (List (Nat × Nat)), prodR (ws.map (List.map g)) = (prodR ws).map (List.map g)
  | [] => rfl
  | w :: ws => by
    show ((w.map g).flatMap fun e => (prodR (ws.map (List.map g))).map (e :: ·)) = (w.flatMap fun e => (prodR ws).map (e :: ·)).map (List.map g)
    rw [List.flatMap_map, List.map_flatMap, prodR_map g ws]
    congr 1
    funext e
    rw [List.map_map, List.map_map]
    rfl
theorem pcells_is (rs : List Rule) (n : Nat) : pcells rs n = (prodR ((List.range n).map (Ws rs))).map (List.map spanOf) := by
  unfold pcells
  rw [longer_all]
  have e : (List.range n).map (spansOf rs) = ((List.range n).map (Ws rs)).map (List.map spanOf) := by
    rw [List.map_map]
    rfl
  rw [e, prodR_map]
  simp
def sizeOf' (c : List (Nat × Nat)) : Nat := c.foldl (fun a s => a * (s.2 - s.1 + 1)) 1
theorem mem_prodR : ∀ {ws : List (List (Nat × Nat))} {c : List (Nat × Nat)}, c ∈ prodR ws → ∀ e ∈ c, ∃ w ∈ ws, e ∈ w
  | [], c, h, e, he => by
    simp [prodR] at h
    subst h
    simp at he
  | w :: ws, c, h, e, he => by
    obtain ⟨x, hx, h⟩ := List.mem_flatMap.mp h
    obtain ⟨d, hd, rfl⟩ := List.mem_map.mp h
    rcases List.mem_cons.mp he with he | he
    · subst he
      exact ⟨w, by simp, hx⟩
    · obtain ⟨w', h1, h2⟩ := mem_prodR hd e he
      exact ⟨w', by simp [h1], h2⟩
theorem cell_good {rs : List Rule} {n : Nat} {c : List (Nat × Nat)} (h : c ∈ prodR ((List.range n).map (Ws rs))) : ∀ e ∈ c, 0 < e.2 ∧ e.1 + e.2 ≤ 101 := fun e he => by
  obtain ⟨w, hw, he⟩ := mem_prodR h e he
  obtain ⟨i, _, rfl⟩ := List.mem_map.mp hw
  exact widths_pos (edges_rising rs i) (fun x hx => edges_le hx) e he
theorem size_acc : ∀ (c : List (Nat × Nat)) (a : Nat), (∀ e ∈ c, 0 < e.2) → (c.map spanOf).foldl (fun a s => a * (s.2 - s.1 + 1)) a = a * mulW c
  | [], a, _ => by simp [mulW]
  | e :: c, a, h => by
    have h0 := h e (by simp)
    rw [List.map_cons, List.foldl_cons, size_acc c _ fun e he => h e (by simp [he])]
    show a * (e.1 + e.2 - 1 - e.1 + 1) * mulW c = a * (e.2 * mulW c)
    have : e.1 + e.2 - 1 - e.1 + 1 = e.2 := by omega
    rw [this, Nat.mul_assoc]
theorem first_spanOf (c : List (Nat × Nat)) : (c.map spanOf).map (·.1) = c.map (·.1) := by
  rw [List.map_map]
  rfl
/-- the specification's cells, read off the program's -/
theorem cells_of (rs : List Rule) (n : Nat) : cells 100 rs n = (pcells rs n).map fun c => ((c.map (·.1) : Point), sizeOf' c) := by
  rw [cells_is, pcells_is, List.map_map]
  refine List.map_congr_left fun c hc => ?_
  have h := cell_good hc
  show (c.map (·.1), mulW c) = ((c.map spanOf).map (·.1), sizeOf' (c.map spanOf))
  rw [first_spanOf]
  unfold sizeOf'
  rw [size_acc c 1 fun e he => (h e he).1, Nat.one_mul]
theorem pcell_good {rs : List Rule} {n : Nat} {c : List (Nat × Nat)} (h : c ∈ pcells rs n) : ∀ s ∈ c, s.1 ≤ s.2 ∧ s.2 ≤ 100 := fun s hs => by
  rw [pcells_is] at h
  obtain ⟨d, hd, rfl⟩ := List.mem_map.mp h
  obtain ⟨e, he, rfl⟩ := List.mem_map.mp hs
  have := cell_good hd e he
  show e.1 ≤ e.1 + e.2 - 1 ∧ e.1 + e.2 - 1 ≤ 100
  omega
theorem prodR_len : ∀ {ws : List (List (Nat × Nat))} {c : List (Nat × Nat)}, c ∈ prodR ws → c.length = ws.length
  | [], c, h => by
    simp [prodR] at h
    subst h
    rfl
  | w :: ws, c, h => by
    obtain ⟨x, _, h⟩ := List.mem_flatMap.mp h
    obtain ⟨d, hd, rfl⟩ := List.mem_map.mp h
    simp [prodR_len hd]
theorem pcell_len {rs : List Rule} {n : Nat} {c : List (Nat × Nat)} (h : c ∈ pcells rs n) : c.length = n := by
  rw [pcells_is] at h
  obtain ⟨d, hd, rfl⟩ := List.mem_map.mp h
  rw [List.length_map, prodR_len hd]
  simp
theorem pairs_get : ∀ (r : List Nat) (i a b : Nat), r[2 * i]? = some a → r[2 * i + 1]? = some b → (pairs r)[i]? = some (a, b)
  | [], i, _, _, h, _ => by simp at h
  | [_], i, _, _, _, h => by simp at h
  | x :: y :: r, 0, a, b, h, h' => by
    simp at h h'
    subst h h'
    rfl
  | x :: y :: r, i + 1, a, b, h, h' => by
    have e : 2 * (i + 1) = 2 * i + 1 + 1 := by omega
    rw [e] at h h'
    exact pairs_get r i a b (by simpa using h) (by simpa using h')
theorem pairs_len : ∀ (r : List Nat) (n : Nat), r.length = 2 * n → (pairs r).length = n
  | [], n, h => by
    have e : n = 0 := by simp at h; omega
    subst e
    rfl
  | [_], n, h => by
    simp at h
    omega
  | x :: y :: r, n, h => by
    show (pairs r).length + 1 = n
    rw [pairs_len r (n - 1) (by simp at h; omega)]
    simp at h
    omega
/-- a rising list of whole numbers that are none below 0, as one of naturals -/
theorem nats_of {S : List Nat} : ∀ (ns : List Int), ns.Pairwise (· < ·) → (∀ k, k ∈ ns ↔ k ∈ S.map fun (n : Nat) => (n : Int)) → ∃ ms : List Nat, ns = ms.map (fun (n : Nat) => (n : Int)) ∧ ms.Pairwise (· < ·) ∧ ∀ x, x ∈ ms ↔ x ∈ S := fun ns hr hm => by
  have nn : ∀ k ∈ ns, 0 ≤ k := fun k hk => by
    obtain ⟨n, _, e⟩ := List.mem_map.mp ((hm k).1 hk)
    omega
  have e : ns = (ns.map Int.toNat).map (fun (n : Nat) => (n : Int)) := by
    rw [List.map_map]
    conv => lhs; rw [← List.map_id ns]
    refine List.map_congr_left fun k hk => ?_
    have := nn k hk
    show k = ((k.toNat : Nat) : Int)
    omega
  refine ⟨ns.map Int.toNat, e, ?_, fun x => ?_⟩
  · rw [List.pairwise_map]
    exact hr.imp_of_mem fun {a b} ha hb h => by
      have := nn a ha
      have := nn b hb
      omega
  · constructor
    · intro hx
      obtain ⟨k, hk, rfl⟩ := List.mem_map.mp hx
      obtain ⟨n, hn, e⟩ := List.mem_map.mp ((hm k).1 hk)
      have : k.toNat = n := by omega
      rw [this]
      exact hn
    · intro hx
      have : (x : Int) ∈ ns := (hm x).2 (List.mem_map.mpr ⟨x, hx, rfl⟩)
      exact List.mem_map.mpr ⟨x, this, by omega⟩
theorem twoOf_some {i : Nat} {r : Rule} {p : Nat × Nat} (h : r.ranges[i]? = some p) : twoOf i r = [p.1, p.2 + 1] := by
  unfold twoOf
  rw [h]
theorem two_len {i : Nat} {rs : List Rule} : (rs.flatMap (twoOf i)).length ≤ 2 * rs.length := by
  induction rs with
  | nil => simp
  | cons r rs ih =>
    have : (twoOf i r).length ≤ 2 := by
      unfold twoOf
      split <;> simp
    rw [List.flatMap_cons, List.length_append, List.length_cons]
    omega
theorem starts_len {i : Nat} {rs : List Rule} : (starts rs i).length ≤ 2 + 2 * rs.length := by
  have := two_len (i := i) (rs := rs)
  unfold starts
  rw [List.length_append]
  simp only [List.length_cons, List.length_nil]
  omega
/-- the program's spans, from its sorted places -/
theorem adj_spans {n i : Nat} {rs : List Rule} {ms : List Nat} (g : ∀ r ∈ rs, Good n r) (hr : ms.Pairwise (· < ·)) (hm : ∀ x, x ∈ ms ↔ x ∈ starts rs i) : adj ms = spansOf rs i := by
  rw [edges_is g hr hm]
  exact adj_widths (edges_rising rs i) fun x hx => edges_le hx
theorem put_len {a : Nat} : ∀ {l : List Nat}, (put a l).length ≤ l.length + 1
  | [] => by simp [put]
  | b :: l => by
    have := put_len (a := a) (l := l)
    unfold put
    split
    · simp
    · split
      · simp
      · simp only [List.length_cons]
        omega
theorem stepE_len {i : Nat} {s : List Nat} {r : Rule} : (stepE i s r).length ≤ s.length + 2 := by
  unfold stepE
  split
  · rename_i p _
    have := put_len (a := p.2 + 1) (l := put p.1 s)
    have := put_len (a := p.1) (l := s)
    omega
  · omega
theorem raw_len {i : Nat} : ∀ {rs : List Rule} {s : List Nat}, (rs.foldl (stepE i) s).length ≤ s.length + 2 * rs.length
  | [], s => by simp
  | r :: rs, s => by
    have := raw_len (i := i) (rs := rs) (s := stepE i s r)
    have := stepE_len (i := i) (s := s) (r := r)
    rw [List.foldl_cons, List.length_cons]
    omega
theorem widths_len : ∀ es : List Nat, (widths 100 es).length = es.length
  | [] => rfl
  | [_] => rfl
  | a :: b :: l => by
    show (widths 100 (b :: l)).length + 1 = _
    rw [widths_len (b :: l)]
    rfl
theorem spans_len (rs : List Rule) (i : Nat) : (spansOf rs i).length ≤ 1 + 2 * rs.length := by
  unfold spansOf
  rw [List.length_map, widths_len, edges_eq]
  have := List.length_filter_le (fun a => decide (a ≤ 100)) (rs.foldl (stepE i) [0])
  have := raw_len (i := i) (rs := rs) (s := [0])
  simp only [List.length_cons, List.length_nil] at this
  omega
theorem pcells_succ (rs : List Rule) (n : Nat) : pcells rs (n + 1) = longer (pcells rs n) (spansOf rs n) := by
  unfold pcells
  rw [List.range_succ, List.map_append, List.foldl_append]
  rfl
theorem longer_len (cs : List (List (Nat × Nat))) (ss : List (Nat × Nat)) : (longer cs ss).length = cs.length * ss.length := by
  unfold longer
  induction cs with
  | nil => simp
  | cons c cs ih => rw [List.flatMap_cons, List.length_append, ih, List.length_map, List.length_cons, Nat.succ_mul, Nat.add_comm]
theorem pcells_len (rs : List Rule) (h : rs.length ≤ 12) : ∀ n, (pcells rs n).length ≤ 25 ^ n
  | 0 => by
    show 1 ≤ 1
    omega
  | n + 1 => by
    rw [pcells_succ, longer_len, Nat.pow_succ]
    have := spans_len rs n
    exact Nat.mul_le_mul (pcells_len rs h n) (by omega)
/-! what is decided -/
def decideL (way : Nat) (sd : List Nat) : Word := match sd with
  | [] => .nothing
  | n :: l => if way = 0 then .says n else if way = 1 then (if l.all (fun m => m == n) = true then .says n else .clash) else if way = 2 then .says (l.foldl max n) else .says (Wf07.sum (n :: l))
theorem decides_eq (t : Table) (x : Point) : t.decides x = decideL t.way (t.said x) := rfl
theorem foldl_max_ge : ∀ (l : List Nat) (n : Nat), n ≤ l.foldl max n ∧ ∀ x ∈ l, x ≤ l.foldl max n
  | [], n => ⟨Nat.le_refl _, by simp⟩
  | a :: l, n => by
    obtain ⟨h1, h2⟩ := foldl_max_ge l (max n a)
    rw [List.foldl_cons]
    refine ⟨by omega, fun x hx => ?_⟩
    rcases List.mem_cons.mp hx with e | e
    · omega
    · exact h2 x e
theorem foldl_max_mem : ∀ (l : List Nat) (n : Nat), l.foldl max n ∈ n :: l
  | [], n => by simp
  | a :: l, n => by
    rw [List.foldl_cons]
    have h := foldl_max_mem l (max n a)
    rcases List.mem_cons.mp h with e | e
    · rw [e]
      rcases Nat.le_total n a with h | h
      · rw [Nat.max_eq_right h]
        simp
      · rw [Nat.max_eq_left h]
        simp
    · simp [e]
abbrev ci (l : List Nat) : List Int := l.map fun (n : Nat) => (n : Int)
theorem max_is {n : Nat} {l : List Nat} {m : Int} (hm : m ∈ ci (n :: l)) (hle : ∀ x ∈ ci (n :: l), x ≤ m) : m = ((l.foldl max n : Nat) : Int) := by
  obtain ⟨k, hk, rfl⟩ := List.mem_map.mp hm
  have h1 : ((l.foldl max n : Nat) : Int) ≤ k := hle _ (List.mem_map.mpr ⟨_, foldl_max_mem l n, rfl⟩)
  obtain ⟨h2, h3⟩ := foldl_max_ge l n
  rcases List.mem_cons.mp hk with e | e
  · subst e
    omega
  · have := h3 k e
    omega
theorem same_is {n : Nat} {l : List Nat} {m M : Int} (hm : m ∈ ci (n :: l)) (hle : ∀ x ∈ ci (n :: l), m ≤ x) (hM : M ∈ ci (n :: l)) (hge : ∀ x ∈ ci (n :: l), x ≤ M) : (m = M) ↔ l.all (fun k => k == n) = true := by
  rw [List.all_eq_true]
  constructor
  · intro e k hk
    have h1 := hle (k : Int) (List.mem_map.mpr ⟨k, by simp [hk], rfl⟩)
    have h2 := hge (k : Int) (List.mem_map.mpr ⟨k, by simp [hk], rfl⟩)
    have h3 := hle (n : Int) (List.mem_map.mpr ⟨n, by simp, rfl⟩)
    have h4 := hge (n : Int) (List.mem_map.mpr ⟨n, by simp, rfl⟩)
    exact beq_iff_eq.mpr (by omega)
  · intro h
    have all : ∀ k ∈ n :: l, k = n := fun k hk => by
      rcases List.mem_cons.mp hk with e | e
      · exact e
      · exact beq_iff_eq.mp (h k e)
    obtain ⟨a, ha, rfl⟩ := List.mem_map.mp hm
    obtain ⟨b, hb, rfl⟩ := List.mem_map.mp hM
    rw [all a ha, all b hb]
theorem sum_acc : ∀ (l : List Nat) (a : Nat), l.foldl (fun a b => a + b) a = a + l.foldl (fun a b => a + b) 0
  | [], a => by simp
  | x :: l, a => by
    rw [List.foldl_cons, List.foldl_cons, sum_acc l (a + x), sum_acc l (0 + x)]
    omega
theorem sum_cons (n : Nat) (l : List Nat) : Wf07.sum (n :: l) = n + Wf07.sum l := by
  unfold Wf07.sum
  rw [List.foldl_cons, sum_acc]
  omega
theorem sum_is : ∀ l : List Nat, (ci l).sum = (Wf07.sum l : Int)
  | [] => rfl
  | n :: l => by
    show ((n : Int) :: ci l).sum = _
    rw [sum_cons, List.sum_cons, sum_is l]
    omega
/-! which rules hold -/
theorem hits_iff (t : Table) (x : Point) : t.hits x = (List.range t.rules.length).filter fun i => match t.rules[i]? with
  | some r => r.holds x
  | none => false := rfl
/-- hits, rule by rule -/
def hitsFrom (x : Point) : Nat → List Rule → List Nat
  | _, [] => []
  | k, r :: rs => if r.holds x = true then k :: hitsFrom x (k + 1) rs else hitsFrom x (k + 1) rs
def saidOf (x : Point) (rs : List Rule) : List Nat := rs.filterMap fun r => if r.holds x = true then some r.says else none
theorem filter_from (p : Nat → Bool) (q : Nat → Rule → Bool) : ∀ (rs : List Rule) (k : Nat), (∀ i r, rs[i]? = some r → p (k + i) = q (k + i) r) → (List.range' k rs.length).filter p = ((rs.zipIdx k).filter fun e => q e.2 e.1).map (·.2)
  | [], _, _ => rfl
  | r :: rs, k, h => by
    have ih := filter_from p q rs (k + 1) fun i r' hr => by
      have := h (i + 1) r' (by simpa using hr)
      rw [show k + 1 + i = k + (i + 1) by omega]
      exact this
    have h0 : p k = q k r := h 0 r rfl
    rw [List.length_cons, List.range'_succ, List.zipIdx_cons, List.filter_cons, List.filter_cons, ih, h0]
    split <;> simp_all
theorem hits_zip (t : Table) (x : Point) : t.hits x = ((t.rules.zipIdx).filter fun e => e.1.holds x).map (·.2) := by
  rw [hits_iff, List.range_eq_range']
  exact filter_from _ (fun _ r => r.holds x) t.rules 0 fun i r hr => by
    rw [Nat.zero_add, hr]
theorem said_zip : ∀ (x : Point) (rs : List Rule) (k : Nat), saidOf x rs = ((rs.zipIdx k).filter fun e => e.1.holds x).map (·.1.says)
  | _, [], _ => rfl
  | x, r :: rs, k => by
    have ih := said_zip x rs (k + 1)
    unfold saidOf at ih ⊢
    rw [List.filterMap_cons, List.zipIdx_cons, List.filter_cons]
    cases h : r.holds x
    · simpa using ih
    · simpa using ih
/-- what the rules that hold say, by their numbers -/
theorem said_hits (t : Table) (x : Point) : t.said x = (t.hits x).map fun i => ((t.rules[i]?).map Rule.says).getD 0 := by
  rw [hits_zip, List.map_map, show t.said x = saidOf x t.rules from rfl, said_zip x t.rules 0]
  refine List.map_congr_left fun e he => ?_
  have := (List.mem_zipIdx_iff_getElem?.mp (List.mem_filter.mp he).1)
  show e.1.says = ((t.rules[e.2]?).map Rule.says).getD 0
  rw [this]
  rfl
theorem hits_nil (t : Table) (x : Point) : t.hits x = [] ↔ t.said x = [] := by
  rw [said_hits]
  constructor
  · intro h
    rw [h]
    rfl
  · intro h
    exact List.map_eq_nil_iff.mp h
theorem hits_lt {t : Table} {x : Point} {i : Nat} (h : i ∈ t.hits x) : i < t.rules.length := by
  rw [hits_iff] at h
  exact List.mem_range.mp (List.mem_filter.mp h).1
theorem decides_nothing (t : Table) (x : Point) : (t.decides x == Word.nothing) = decide ((t.hits x).length = 0) := by
  rw [decides_eq]
  cases h : t.said x with
  | nil =>
    rw [(hits_nil t x).mpr h]
    rfl
  | cons a l =>
    have h1 : t.hits x ≠ [] := fun e => by
      rw [(hits_nil t x).mp e] at h
      cases h
    have h2 : (t.hits x).length ≠ 0 := fun e => h1 (List.eq_nil_of_length_eq_zero e)
    rw [decide_eq_false h2]
    unfold decideL
    dsimp only
    split
    · rfl
    · split
      · split <;> rfl
      · split <;> rfl
/-- the rules that hold among the first i -/
def hitsTo (t : Table) (x : Point) (i : Nat) : List Nat := (((t.rules.take i).zipIdx).filter fun e => e.1.holds x).map (·.2)
theorem hitsTo_all (t : Table) (x : Point) {i : Nat} (h : t.rules.length ≤ i) : hitsTo t x i = t.hits x := by
  unfold hitsTo
  rw [List.take_of_length_le h, hits_zip]
theorem hitsTo_succ {t : Table} {x : Point} {i : Nat} {r : Rule} (h : t.rules[i]? = some r) : hitsTo t x (i + 1) = if r.holds x = true then hitsTo t x i ++ [i] else hitsTo t x i := by
  have hi : i < t.rules.length := (List.getElem?_eq_some_iff.mp h).1
  unfold hitsTo
  rw [List.take_add_one, h]
  show (((t.rules.take i ++ [r]).zipIdx).filter fun e => e.1.holds x).map (·.2) = _
  rw [List.zipIdx_append, List.filter_append, List.map_append]
  have e : (t.rules.take i).length = i := by
    rw [List.length_take]
    omega
  rw [e]
  show _ ++ (([(r, 0 + i)] : List (Rule × Nat)).filter fun e => e.1.holds x).map (·.2) = _
  cases c : r.holds x
  · simp [c]
  · simp [c]
theorem hitsTo_len (t : Table) (x : Point) (i : Nat) : (hitsTo t x i).length ≤ t.rules.length := by
  unfold hitsTo
  rw [List.length_map]
  refine Nat.le_trans (List.length_filter_le _ _) ?_
  rw [List.length_zipIdx, List.length_take]
  omega
/-! counted over the program's cells -/
def firstOf' (c : List (Nat × Nat)) : Point := c.map (·.1)
def wanted (rs : List Rule) (n : Nat) (f : Point → Bool) : List (List (Nat × Nat)) := (pcells rs n).filter fun c => f (firstOf' c)
theorem sum_filter {α : Type} (p : α → Bool) (g : α → Nat) : ∀ l : List α, Wf07.sum (l.map fun c => if p c = true then g c else 0) = Wf07.sum ((l.filter p).map g)
  | [] => rfl
  | a :: l => by
    rw [List.map_cons, sum_cons, sum_filter p g l, List.filter_cons]
    cases p a
    · simp
    · simp [sum_cons]
theorem count_is (n : Nat) (rs : List Rule) (f : Point → Bool) : count n rs f = Wf07.sum ((wanted rs n f).map sizeOf') := by
  unfold count wanted
  rw [show MOST = 100 from rfl, cells_of, List.map_map]
  exact sum_filter (fun c => f (firstOf' c)) sizeOf' (pcells rs n)
theorem find_head {α : Type} (p : α → Bool) : ∀ l : List α, l.find? p = (l.filter p).head?
  | [] => rfl
  | a :: l => by
    rw [List.find?_cons, List.filter_cons]
    cases h : p a
    · simpa [h] using find_head p l
    · simp [h]
theorem first_is (n : Nat) (rs : List Rule) (f : Point → Bool) : firstOf n rs f = ((wanted rs n f).head?).map firstOf' := by
  unfold firstOf wanted
  rw [show MOST = 100 from rfl, cells_of, List.find?_map, ← find_head, Option.map_map]
  rfl
theorem told_is (n : Nat) (rs : List Rule) (f : Point → Bool) : toldPoint (firstOf n rs f) (count n rs f) = match wanted rs n f with
    | [] => ok 0
    | c :: l => ⟨(Wf07.sum ((c :: l).map sizeOf') : Nat), firstOf' c⟩ := by
  rw [first_is, count_is]
  cases wanted rs n f with
  | nil => rfl
  | cons c l => rfl
theorem without_is (t : Table) (i : Nat) : t.without i = { t with rules := t.rules.eraseIdx i } := by
  unfold Table.without
  rw [List.eraseIdx_eq_take_drop_succ]
end DM

set_option Elab.async false
/-! nearest and overlaps, over the program's cells. No Python here. -/
namespace DM
open Wf07
theorem prodR_at : ∀ {ws : List (List (Nat × Nat))} {c : List (Nat × Nat)}, c ∈ prodR ws → ∀ {i : Nat} {e : Nat × Nat}, c[i]? = some e → ∃ w, ws[i]? = some w ∧ e ∈ w
  | [], c, h, i, e, he => by
    simp [prodR] at h
    subst h
    simp at he
  | w :: ws, c, h, i, e, he => by
    obtain ⟨x, hx, h⟩ := List.mem_flatMap.mp h
    obtain ⟨d, hd, rfl⟩ := List.mem_map.mp h
    cases i with
    | zero =>
      cases he
      exact ⟨w, rfl, hx⟩
    | succ i =>
      obtain ⟨v, h1, h2⟩ := prodR_at hd (i := i) (e := e) (by simpa using he)
      exact ⟨v, by simpa using h1, h2⟩
theorem prodR_mem : ∀ {ws : List (List (Nat × Nat))} {c : List (Nat × Nat)}, c.length = ws.length → (∀ (i : Nat) (e : Nat × Nat) (w : List (Nat × Nat)), c[i]? = some e → ws[i]? = some w → e ∈ w) → c ∈ prodR ws
  | [], [], _, _ => by simp [prodR]
  | w :: ws, e :: c, hl, h => by
    refine List.mem_flatMap.mpr ⟨e, h 0 e w rfl rfl, List.mem_map.mpr ⟨c, prodR_mem (by simpa using hl) fun i f v h1 h2 => h (i + 1) f v (by simpa using h1) (by simpa using h2), rfl⟩⟩
theorem widths_fst : ∀ es : List Nat, (widths 100 es).map (·.1) = es
  | [] => rfl
  | [_] => rfl
  | a :: b :: l => by
    show a :: (widths 100 (b :: l)).map (·.1) = _
    rw [widths_fst (b :: l)]
theorem find_first : ∀ {l : List (Nat × Nat)}, (l.map (·.1)).Pairwise (· < ·) → ∀ {e : Nat × Nat}, e ∈ l → l.find? (fun x => x.1 == e.1) = some e
  | [], _, e, h => by simp at h
  | a :: l, hp, e, h => by
    rw [List.map_cons, List.pairwise_cons] at hp
    rw [List.find?_cons]
    rcases List.mem_cons.mp h with z | z
    · subst z
      simp
    · have lt := hp.1 e.1 (List.mem_map.mpr ⟨e, z, rfl⟩)
      have : (a.1 == e.1) = false := beq_eq_false_iff_ne.mpr (by omega)
      rw [this]
      exact find_first hp.2 z
theorem ws_find {rs : List Rule} {i : Nat} {e : Nat × Nat} (h : e ∈ Ws rs i) : (Ws rs i).find? (fun x => x.1 == e.1) = some e := by
  refine find_first ?_ h
  rw [widths_fst]
  exact edges_rising rs i
/-- brought into a cell -/
def clampC (c : List (Nat × Nat)) (x : Point) : Point := (List.range c.length).map fun i => max (c.getD i (0, 0)).1 (min (x.getD i 0) (c.getD i (0, 0)).2)
theorem pcell_at {rs : List Rule} {n : Nat} {c : List (Nat × Nat)} (h : c ∈ pcells rs n) {i : Nat} {s : Nat × Nat} (hs : c[i]? = some s) : ∃ e, e ∈ Ws rs i ∧ s = spanOf e := by
  rw [pcells_is] at h
  obtain ⟨d, hd, rfl⟩ := List.mem_map.mp h
  rw [List.getElem?_map] at hs
  cases he : d[i]? with
  | none => rw [he] at hs; cases hs
  | some e =>
    rw [he] at hs
    cases hs
    obtain ⟨w, h1, h2⟩ := prodR_at hd he
    rw [List.getElem?_map] at h1
    cases hi : (List.range n)[i]? with
    | none => rw [hi] at h1; cases h1
    | some j =>
      rw [hi] at h1
      cases h1
      have : j = i := by
        obtain ⟨hl, e⟩ := List.getElem?_eq_some_iff.mp hi
        simpa using e.symm
      subst this
      exact ⟨e, h2, rfl⟩
theorem nearIn_is {rs : List Rule} {n : Nat} {c : List (Nat × Nat)} (h : c ∈ pcells rs n) (x : Point) : nearIn 100 rs (firstOf' c) x = clampC c x := by
  unfold nearIn clampC firstOf'
  rw [List.length_map]
  refine List.map_congr_left fun i hi => ?_
  have hi' := List.mem_range.mp hi
  have hs : c[i]? = some c[i] := List.getElem?_eq_getElem hi'
  obtain ⟨e, he, e2⟩ := pcell_at h hs
  have pos := widths_pos (edges_rising rs i) (fun x hx => edges_le hx) e he
  have e1 : c.getD i (0, 0) = spanOf e := by
    rw [List.getD_eq_getElem?_getD, hs, e2]
    rfl
  have e3 : (c.map (·.1)).getD i 0 = e.1 := by
    rw [List.getD_eq_getElem?_getD, List.getElem?_map, hs, e2]
    rfl
  rw [e1]
  dsimp only
  rw [e3, show (widths 100 (edges 100 rs i)).find? (fun x => x.1 == e.1) = some e from ws_find he]
  rfl
/-- the better one of two -/
def pick (x : Point) (a : Option Point) (y : Point) : Option Point := match a with
  | none => some y
  | some b => if far y x < far b x ∨ (far y x = far b x ∧ less y b = true) then some y else some b
theorem nearest_is (n : Nat) (rs : List Rule) (f : Point → Bool) (x : Point) : nearest n rs f x = ((wanted rs n f).map fun c => clampC c x).foldl (pick x) none := by
  have e : ((cells MOST rs n).filter fun c => f c.1).map (fun c => nearIn MOST rs c.1 x) = (wanted rs n f).map fun c => clampC c x := by
    unfold wanted
    rw [show MOST = 100 from rfl, cells_of, List.filter_map, List.map_map]
    refine List.map_congr_left fun c hc => ?_
    exact nearIn_is (List.mem_filter.mp hc).1 x
  unfold nearest
  rw [e]
  rfl
/-! two rules that meet -/
theorem holds_iff {r : Rule} {x : Point} (_ : r.ranges.length = x.length) : r.holds x = true ↔ ∀ (i : Nat) (p : Nat × Nat) (v : Nat), r.ranges[i]? = some p → x[i]? = some v → p.1 ≤ v ∧ v ≤ p.2 := by
  unfold Rule.holds
  rw [List.all_eq_true]
  constructor
  · intro h i p v hp hv
    have := h (p, v) (List.mem_of_getElem? (i := i) (by rw [List.getElem?_zip_eq_some]; exact ⟨hp, hv⟩))
    rw [Bool.and_eq_true] at this
    exact ⟨of_decide_eq_true this.1, of_decide_eq_true this.2⟩
  · intro h pv hpv
    obtain ⟨i, hi⟩ := List.mem_iff_getElem?.mp hpv
    rw [List.getElem?_zip_eq_some] at hi
    have := h i pv.1 pv.2 hi.1 hi.2
    rw [Bool.and_eq_true]
    exact ⟨decide_eq_true this.1, decide_eq_true this.2⟩
theorem edge_of {rs : List Rule} {r : Rule} {i : Nat} {p : Nat × Nat} (hr : r ∈ rs) (hp : r.ranges[i]? = some p) (h : p.1 ≤ 100) : p.1 ∈ edges 100 rs i :=
  mem_edges.mpr ⟨.inr (List.mem_flatMap.mpr ⟨r, hr, by rw [twoOf_some hp]; simp⟩), h⟩
/-- a point whose values are all places of change is a cell's first -/
theorem cell_at {rs : List Rule} {n : Nat} {x : Point} (hl : x.length = n) (h : ∀ (i v : Nat), x[i]? = some v → v ∈ edges 100 rs i) : ∃ c ∈ pcells rs n, firstOf' c = x := by
  have key : ∀ i, i < n → ∃ e : Nat × Nat, e ∈ Ws rs i ∧ x[i]? = some e.1 := fun i hi => by
    have hx : x[i]? = some (x[i]'(by omega)) := List.getElem?_eq_getElem _
    have := h i _ hx
    rw [← widths_fst (edges 100 rs i)] at this
    obtain ⟨e, he, e1⟩ := List.mem_map.mp this
    exact ⟨e, he, by rw [hx, ← e1]⟩
  -- one of each place
  have build : ∀ k, k ≤ n → ∃ d : List (Nat × Nat), d.length = k ∧ ∀ (i : Nat) (e : Nat × Nat), d[i]? = some e → e ∈ Ws rs i ∧ x[i]? = some e.1 := by
    intro k
    induction k with
    | zero => exact fun _ => ⟨[], rfl, by simp⟩
    | succ k ih =>
      intro hk
      obtain ⟨d, hd, hh⟩ := ih (by omega)
      obtain ⟨e, he1, he2⟩ := key k (by omega)
      refine ⟨d ++ [e], by simp [hd], fun i g hg => ?_⟩
      by_cases c : i < d.length
      · rw [List.getElem?_append_left c] at hg
        exact hh i g hg
      · rw [List.getElem?_append_right (by omega)] at hg
        have : i - d.length = 0 := by
          have := (List.getElem?_eq_some_iff.mp hg).1
          simp at this
          omega
        rw [this] at hg
        cases hg
        have : i = k := by omega
        rw [this]
        exact ⟨he1, he2⟩
  obtain ⟨d, hd, hh⟩ := build n (Nat.le_refl _)
  refine ⟨d.map spanOf, ?_, ?_⟩
  · rw [pcells_is]
    refine List.mem_map.mpr ⟨d, prodR_mem (by simp [hd]) fun i e w h1 h2 => ?_, rfl⟩
    rw [List.getElem?_map] at h2
    cases hi : (List.range n)[i]? with
    | none => rw [hi] at h2; cases h2
    | some j =>
      rw [hi] at h2
      cases h2
      have : j = i := by
        obtain ⟨hl, e⟩ := List.getElem?_eq_some_iff.mp hi
        simpa using e.symm
      rw [this]
      exact (hh i e h1).1
  · unfold firstOf'
    rw [first_spanOf]
    apply List.ext_getElem?
    intro i
    rw [List.getElem?_map]
    cases he : d[i]? with
    | none =>
      have : x.length ≤ i := by
        have := List.getElem?_eq_none_iff.mp he
        omega
      rw [List.getElem?_eq_none_iff.mpr this]
      rfl
    | some e => exact (hh i e he).2.symm
/-- two ranges have a value together -/
def meet (p q : Nat × Nat) : Bool := decide (max p.1 q.1 ≤ min p.2 q.2)
theorem meet_is {rs : List Rule} {n : Nat} {a b : Rule} (g : ∀ r ∈ rs, Good n r) (ha : a ∈ rs) (hb : b ∈ rs) : (∃ c ∈ pcells rs n, a.holds (firstOf' c) = true ∧ b.holds (firstOf' c) = true) ↔ ∀ (i : Nat) (p q : Nat × Nat), a.ranges[i]? = some p → b.ranges[i]? = some q → meet p q = true := by
  have ga := g a ha
  have gb := g b hb
  constructor
  · rintro ⟨c, hc, h1, h2⟩ i p q hp hq
    have hcl : (firstOf' c).length = n := by
      unfold firstOf'
      rw [List.length_map, pcell_len hc]
    have hi : i < n := by
      have := (List.getElem?_eq_some_iff.mp hp).1
      rw [ga.len] at this
      exact this
    have hx : (firstOf' c)[i]? = some ((firstOf' c)[i]'(by omega)) := List.getElem?_eq_getElem _
    have b1 := (holds_iff (by rw [ga.len, hcl])).mp h1 i p _ hp hx
    have b2 := (holds_iff (by rw [gb.len, hcl])).mp h2 i q _ hq hx
    exact decide_eq_true (by omega)
  · intro h
    -- the point of the greater firsts
    have hx : ∃ x : Point, x.length = n ∧ ∀ (i v : Nat), x[i]? = some v → ∃ p q, a.ranges[i]? = some p ∧ b.ranges[i]? = some q ∧ v = max p.1 q.1 := by
      refine ⟨(a.ranges.zip b.ranges).map fun pq => max pq.1.1 pq.2.1, ?_, fun i v hv => ?_⟩
      · rw [List.length_map, List.length_zip, ga.len, gb.len, Nat.min_self]
      · rw [List.getElem?_map] at hv
        cases hz : (a.ranges.zip b.ranges)[i]? with
        | none => rw [hz] at hv; cases hv
        | some pq =>
          rw [hz] at hv
          cases hv
          obtain ⟨p, q⟩ := pq
          rw [List.getElem?_zip_eq_some] at hz
          exact ⟨p, q, hz.1, hz.2, rfl⟩
    obtain ⟨x, hxl, hx⟩ := hx
    obtain ⟨c, hc, e⟩ := cell_at (rs := rs) hxl fun i v hv => by
      obtain ⟨p, q, hp, hq, rfl⟩ := hx i v hv
      have o1 := ga.ok p (List.mem_of_getElem? hp)
      have o2 := gb.ok q (List.mem_of_getElem? hq)
      rcases Nat.le_total p.1 q.1 with z | z
      · rw [Nat.max_eq_right z]
        exact edge_of hb hq (by omega)
      · rw [Nat.max_eq_left z]
        exact edge_of ha hp (by omega)
    refine ⟨c, hc, ?_, ?_⟩
    · rw [e]
      refine (holds_iff (by rw [ga.len, hxl])).mpr fun i p v hp hv => ?_
      obtain ⟨p', q, hp', hq, rfl⟩ := hx i v hv
      rw [hp] at hp'
      cases hp'
      have := of_decide_eq_true (h i p q hp hq)
      omega
    · rw [e]
      refine (holds_iff (by rw [gb.len, hxl])).mpr fun i q v hq hv => ?_
      obtain ⟨p, q', hp, hq', rfl⟩ := hx i v hv
      rw [hq] at hq'
      cases hq'
      have := of_decide_eq_true (h i p q hp hq)
      omega
/-! found or not -/
theorem first_some (n : Nat) (rs : List Rule) (f : Point → Bool) : (firstOf n rs f).isSome = true ↔ ∃ c ∈ pcells rs n, f (firstOf' c) = true := by
  rw [first_is]
  unfold wanted
  cases h : (pcells rs n).filter fun c => f (firstOf' c) with
  | nil =>
    constructor
    · intro z
      cases z
    · rintro ⟨c, hc, hf⟩
      have : c ∈ (pcells rs n).filter fun c => f (firstOf' c) := List.mem_filter.mpr ⟨hc, hf⟩
      rw [h] at this
      cases this
  | cons c l =>
    refine ⟨fun _ => ?_, fun _ => rfl⟩
    have : c ∈ (pcells rs n).filter fun c => f (firstOf' c) := by
      rw [h]
      simp
    exact ⟨c, (List.mem_filter.mp this).1, (List.mem_filter.mp this).2⟩
theorem first_none (n : Nat) (rs : List Rule) (f : Point → Bool) : (firstOf n rs f).isNone = (pcells rs n).all fun c => !f (firstOf' c) := by
  rw [Bool.eq_iff_iff]
  have h := first_some n rs f
  rw [List.all_eq_true]
  cases e : firstOf n rs f with
  | none =>
    rw [e] at h
    refine ⟨fun _ c hc => ?_, fun _ => rfl⟩
    cases hf : f (firstOf' c) with
    | false => rfl
    | true => exact absurd (h.mpr ⟨c, hc, hf⟩) (by simp)
  | some x =>
    rw [e] at h
    refine ⟨(fun z => by cases z), fun z => ?_⟩
    obtain ⟨c, hc, hf⟩ := h.mp rfl
    have := z c hc
    rw [hf] at this
    cases this
theorem hits_has (t : Table) (x : Point) (i : Nat) : (t.hits x).contains i = match t.rules[i]? with | some r => r.holds x | none => false := by
  rw [Bool.eq_iff_iff, List.contains_iff_mem, hits_iff, List.mem_filter, List.mem_range]
  constructor
  · exact fun h => h.2
  · intro h
    refine ⟨?_, h⟩
    cases e : t.rules[i]? with
    | none => rw [e] at h; cases h
    | some r => exact (List.getElem?_eq_some_iff.mp e).1
/-- two rules of a table overlap just if their ranges meet at each value -/
theorem overlap_is {t : Table} {n i j : Nat} {a b : Rule} (g : ∀ r ∈ t.rules, Good n r) (ha : t.rules[i]? = some a) (hb : t.rules[j]? = some b) :
    (firstOf n t.rules fun x => (t.hits x).contains i && (t.hits x).contains j).isSome = (a.ranges.zip b.ranges).all fun pq => meet pq.1 pq.2 := by
  have ia := List.mem_of_getElem? ha
  have ib := List.mem_of_getElem? hb
  rw [Bool.eq_iff_iff, first_some]
  have e : ∀ x, ((t.hits x).contains i && (t.hits x).contains j) = (a.holds x && b.holds x) := fun x => by
    rw [hits_has, hits_has, ha, hb]
  have m := meet_is g ia ib
  constructor
  · rintro ⟨c, hc, hf⟩
    rw [e, Bool.and_eq_true] at hf
    rw [List.all_eq_true]
    intro pq hpq
    obtain ⟨k, hk⟩ := List.mem_iff_getElem?.mp hpq
    rw [List.getElem?_zip_eq_some] at hk
    exact m.mp ⟨c, hc, hf⟩ k pq.1 pq.2 hk.1 hk.2
  · intro h
    rw [List.all_eq_true] at h
    obtain ⟨c, hc, h1, h2⟩ := m.mpr fun k p q hp hq => h (p, q) (List.mem_of_getElem? (i := k) (by rw [List.getElem?_zip_eq_some]; exact ⟨hp, hq⟩))
    exact ⟨c, hc, by rw [e, h1, h2]; rfl⟩
end DM

set_option Elab.async false
/-! idle, counts, overlaps, nearest as the program goes about them. No Python here. -/
namespace DM
open Wf07
theorem word_inj : ∀ {a b : Word}, Wf07.word a = Wf07.word b → a = b
  | .says n, .says m, h => by
    have : (n : Int) = (m : Int) := h
    have : n = m := by omega
    rw [this]
  | .says n, .nothing, h => by
    have : (n : Int) = -6 := h
    omega
  | .says n, .clash, h => by
    have : (n : Int) = -9 := h
    omega
  | .nothing, .says m, h => by
    have : (-6 : Int) = (m : Int) := h
    omega
  | .clash, .says m, h => by
    have : (-9 : Int) = (m : Int) := h
    omega
  | .nothing, .nothing, _ => rfl
  | .clash, .clash, _ => rfl
  | .nothing, .clash, h => absurd (show (-6 : Int) = -9 from h) (by decide)
  | .clash, .nothing, h => absurd (show (-9 : Int) = -6 from h) (by decide)
theorem word_beq (a b : Word) : (a == b) = decide (Wf07.word a = Wf07.word b) := by
  rw [Bool.eq_iff_iff, beq_iff_eq, decide_eq_true_iff]
  exact ⟨congrArg _, word_inj⟩
theorem word_bne (a b : Word) : (a != b) = decide (Wf07.word a ≠ Wf07.word b) := by
  have h := word_beq a b
  unfold bne
  rw [h]
  by_cases c : Wf07.word a = Wf07.word b
  · rw [decide_eq_true c, decide_eq_false (fun z => z c)]
    rfl
  · rw [decide_eq_false c, decide_eq_true c]
    rfl
/-! what is told of cells -/
def toldC : List (List (Nat × Nat)) → Ans
  | [] => ok 0
  | c :: l => ⟨(Wf07.sum ((c :: l).map sizeOf') : Nat), firstOf' c⟩
theorem toldC_is (n : Nat) (rs : List Rule) (f : Point → Bool) : toldPoint (firstOf n rs f) (count n rs f) = toldC (wanted rs n f) := by
  rw [told_is]
  cases wanted rs n f <;> rfl
theorem sum_snoc (l : List Nat) (a : Nat) : Wf07.sum (l ++ [a]) = Wf07.sum l + a := by
  unfold Wf07.sum
  rw [List.foldl_append]
  rfl
/-! counts -/
def cntTo (cs : List (List (Nat × Nat))) (f : List (Nat × Nat) → Bool) (i : Nat) : Nat := Wf07.sum (((cs.take i).filter f).map sizeOf')
theorem cntTo_succ {cs : List (List (Nat × Nat))} {f : List (Nat × Nat) → Bool} {i : Nat} {c : List (Nat × Nat)} (h : cs[i]? = some c) : cntTo cs f (i + 1) = if f c = true then cntTo cs f i + sizeOf' c else cntTo cs f i := by
  unfold cntTo
  rw [List.take_add_one, h]
  show Wf07.sum (((cs.take i ++ [c]).filter f).map sizeOf') = _
  rw [List.filter_append, List.map_append]
  cases e : f c
  · simp [e]
  · rw [if_pos rfl]
    have : [c].filter f = [c] := by simp [e]
    rw [this]
    exact sum_snoc _ _
theorem cntTo_all (n : Nat) (rs : List Rule) (f : Point → Bool) : cntTo (pcells rs n) (fun c => f (firstOf' c)) (pcells rs n).length = count n rs f := by
  rw [count_is]
  unfold cntTo wanted
  rw [List.take_length]
/-! idle -/
theorem said_without_zip (x : Point) : ∀ (rs : List Rule) (k i : Nat), ((rs.zipIdx k).filter fun e => e.1.holds x && (e.2 != k + i)).map (·.1.says) = saidOf x (rs.eraseIdx i)
  | [], _, _ => rfl
  | r :: rs, k, 0 => by
    rw [List.zipIdx_cons, List.filter_cons]
    have h0 : (r.holds x && (k != k + 0)) = false := by simp
    show ((if (r.holds x && (k != k + 0)) = true then _ else _) : List (Rule × Nat)).map (·.1.says) = saidOf x rs
    rw [h0, if_neg Bool.false_ne_true, said_zip x rs (k + 1)]
    congr 1
    refine List.filter_congr fun e he => ?_
    have h1 : k + 1 ≤ e.2 := by
      have := List.mem_zipIdx_iff_le_and_getElem?_sub.mp he
      exact this.1
    have h2 : (e.2 != k + 0) = true := by
      simp
      omega
    rw [h2, Bool.and_true]
  | r :: rs, k, i + 1 => by
    have ih := said_without_zip x rs (k + 1) i
    rw [List.zipIdx_cons, List.filter_cons]
    have h0 : (k != k + (i + 1)) = true := by
      simp
    show ((if (r.holds x && (k != k + (i + 1))) = true then _ else _) : List (Rule × Nat)).map (·.1.says) = saidOf x (r :: rs.eraseIdx i)
    have e : (rs.zipIdx (k + 1)).filter (fun e => e.1.holds x && (e.2 != k + (i + 1))) = (rs.zipIdx (k + 1)).filter (fun e => e.1.holds x && (e.2 != k + 1 + i)) := by
      rw [show k + (i + 1) = k + 1 + i by omega]
    rw [h0, Bool.and_true, e]
    unfold saidOf at ih ⊢
    rw [List.filterMap_cons]
    cases h : r.holds x
    · simpa using ih
    · simpa using ih
/-- what is said without a rule, by the numbers of those that hold -/
theorem said_without (t : Table) (x : Point) (i : Nat) : (t.without i).said x = ((t.hits x).filter fun w => w != i).map fun j => ((t.rules[j]?).map Rule.says).getD 0 := by
  rw [without_is]
  show saidOf x (t.rules.eraseIdx i) = _
  have h := said_without_zip x t.rules 0 i
  rw [← h, hits_zip, List.filter_map, List.filter_filter, List.map_map]
  have ef : (t.rules.zipIdx 0).filter (fun e => e.1.holds x && (e.2 != 0 + i)) = (t.rules.zipIdx 0).filter (fun a => ((fun w => w != i) ∘ fun x => x.2) a && a.1.holds x) := by
    refine List.filter_congr fun e _ => ?_
    show (e.1.holds x && (e.2 != 0 + i)) = ((e.2 != i) && e.1.holds x)
    rw [Nat.zero_add, Bool.and_comm]
  rw [ef]
  refine List.map_congr_left fun e he => ?_
  have := (List.mem_zipIdx_iff_getElem?.mp (List.mem_filter.mp he).1)
  show e.1.says = ((t.rules[e.2]?).map Rule.says).getD 0
  rw [this]
  rfl
/-- idle among the first j cells -/
def idleTo (t : Table) (cs : List (List (Nat × Nat))) (j : Nat) : List Nat := (List.range t.rules.length).filter fun i => (cs.take j).all fun c => (t.without i).decides (firstOf' c) == t.decides (firstOf' c)
theorem idleTo_zero (t : Table) (cs : List (List (Nat × Nat))) : idleTo t cs 0 = List.range t.rules.length := by
  unfold idleTo
  rw [List.filter_eq_self]
  intro a _
  rfl
theorem idleTo_succ {t : Table} {cs : List (List (Nat × Nat))} {j : Nat} {c : List (Nat × Nat)} (h : cs[j]? = some c) : idleTo t cs (j + 1) = (idleTo t cs j).filter fun i => (t.without i).decides (firstOf' c) == t.decides (firstOf' c) := by
  unfold idleTo
  rw [List.filter_filter]
  refine List.filter_congr fun i _ => ?_
  rw [List.take_add_one, h]
  show ((cs.take j ++ [c]).all _) = _
  rw [List.all_append, Bool.and_comm]
  congr 1
  simp
theorem idleTo_all (t : Table) (n : Nat) : idleTo t (pcells t.rules n) (pcells t.rules n).length = (List.range t.rules.length).filter (t.idle n) := by
  unfold idleTo
  refine List.filter_congr fun i _ => ?_
  rw [List.take_length]
  unfold Table.idle
  rw [first_none]
  congr 1
  funext c
  unfold bne
  rw [Bool.not_not, Bool.eq_iff_iff, beq_iff_eq, beq_iff_eq]
  exact ⟨Eq.symm, Eq.symm⟩
theorem idleTo_lt {t : Table} {cs : List (List (Nat × Nat))} {j i : Nat} (h : i ∈ idleTo t cs j) : i < t.rules.length := List.mem_range.mp (List.mem_filter.mp h).1
theorem idleTo_len (t : Table) (cs : List (List (Nat × Nat))) (j : Nat) : (idleTo t cs j).length ≤ t.rules.length := by
  unfold idleTo
  refine Nat.le_trans (List.length_filter_le _ _) ?_
  rw [List.length_range]
  exact Nat.le_refl _
/-! overlaps -/
def meets (rs : List Rule) (i j : Nat) : Bool := match rs[i]?, rs[j]? with
  | some a, some b => (a.ranges.zip b.ranges).all fun pq => meet pq.1 pq.2
  | _, _ => false
def ovRow (rs : List Rule) (i k : Nat) : List (Nat × Nat) := ((List.range k).filter fun j => decide (i < j) && meets rs i j).map fun j => (i, j)
def ovTo (rs : List Rule) (k : Nat) : List (Nat × Nat) := (List.range k).flatMap fun i => ovRow rs i rs.length
theorem ovRow_none (rs : List Rule) (i : Nat) : ovRow rs i (i + 1) = [] := by
  unfold ovRow
  rw [List.map_eq_nil_iff, List.filter_eq_nil_iff]
  intro j hj
  have := List.mem_range.mp hj
  rw [decide_eq_false (by omega)]
  simp
theorem ovRow_succ (rs : List Rule) {i k : Nat} (h : i < k) : ovRow rs i (k + 1) = if meets rs i k = true then ovRow rs i k ++ [(i, k)] else ovRow rs i k := by
  unfold ovRow
  rw [List.range_succ, List.filter_append, List.map_append]
  cases e : meets rs i k
  · simp [e]
  · simp [e, h]
theorem ovTo_succ (rs : List Rule) (k : Nat) : ovTo rs (k + 1) = ovTo rs k ++ ovRow rs k rs.length := by
  unfold ovTo
  rw [List.range_succ, List.flatMap_append]
  simp
theorem ovRow_len (rs : List Rule) (i k : Nat) : (ovRow rs i k).length ≤ k := by
  unfold ovRow
  rw [List.length_map]
  refine Nat.le_trans (List.length_filter_le _ _) ?_
  rw [List.length_range]
  exact Nat.le_refl _
theorem ovTo_len (rs : List Rule) : ∀ k, (ovTo rs k).length ≤ k * rs.length
  | 0 => by simp [ovTo]
  | k + 1 => by
    have := ovTo_len rs k
    have := ovRow_len rs k rs.length
    rw [ovTo_succ, List.length_append, Nat.succ_mul]
    omega
theorem flat_congr {α β : Type} {f g : α → List β} : ∀ {l : List α}, (∀ a ∈ l, f a = g a) → l.flatMap f = l.flatMap g
  | [], _ => rfl
  | a :: l, h => by
    rw [List.flatMap_cons, List.flatMap_cons, h a (by simp), flat_congr fun b hb => h b (by simp [hb])]
theorem ovTo_all {t : Table} {n : Nat} (g : ∀ r ∈ t.rules, Good n r) : ((List.range t.rules.length).flatMap fun i => ((List.range t.rules.length).filter fun j => decide (i < j) && (firstOf n t.rules fun x => (t.hits x).contains i && (t.hits x).contains j).isSome).map fun j => (i, j)) = ovTo t.rules t.rules.length := by
  unfold ovTo ovRow
  refine flat_congr fun i hi => ?_
  congr 1
  refine List.filter_congr fun j hj => ?_
  have hi' := List.mem_range.mp hi
  have hj' := List.mem_range.mp hj
  have ha : t.rules[i]? = some t.rules[i] := List.getElem?_eq_getElem hi'
  have hb : t.rules[j]? = some t.rules[j] := List.getElem?_eq_getElem hj'
  rw [overlap_is g ha hb]
  congr 1
  unfold meets
  rw [ha, hb]
/-! nearest -/
def keyOf (x y : Point) : List Nat := far y x :: y
def lexL : List Int → List Int → Bool
  | [], [] => false
  | [], _ :: _ => true
  | _ :: _, [] => false
  | x :: xs, y :: ys => if x = y then lexL xs ys else decide (x < y)
theorem lex_less : ∀ a b : List Nat, lexL (ci a) (ci b) = less a b
  | [], [] => rfl
  | [], _ :: _ => rfl
  | _ :: _, [] => rfl
  | x :: xs, y :: ys => by
    show (if (x : Int) = (y : Int) then lexL (ci xs) (ci ys) else decide ((x : Int) < (y : Int))) = (decide (x < y) || (x == y && less xs ys))
    rw [lex_less xs ys]
    by_cases c : x = y
    · rw [if_pos (by omega), decide_eq_false (by omega), beq_iff_eq.mpr c]
      simp
    · rw [if_neg (by omega), beq_eq_false_iff_ne.mpr c]
      simp
theorem lex_key (x y b : Point) : lexL (ci (keyOf x y)) (ci (keyOf x b)) = true ↔ (far y x < far b x ∨ (far y x = far b x ∧ less y b = true)) := by
  unfold keyOf
  rw [lex_less]
  show (decide (far y x < far b x) || (far y x == far b x && less y b)) = true ↔ _
  simp
theorem pick_key (x : Point) : ∀ (ys : List Point) (b : Point), ∃ r, ys.foldl (pick x) (some b) = some r ∧ (ys.map fun y => ci (keyOf x y)).foldl (fun a y => if lexL y a = true then y else a) (ci (keyOf x b)) = ci (keyOf x r)
  | [], b => ⟨b, rfl, rfl⟩
  | y :: ys, b => by
    have k := lex_key x y b
    by_cases c : far y x < far b x ∨ (far y x = far b x ∧ less y b = true)
    · obtain ⟨r, h1, h2⟩ := pick_key x ys y
      refine ⟨r, ?_, ?_⟩
      · rw [List.foldl_cons]
        show ys.foldl (pick x) (if far y x < far b x ∨ (far y x = far b x ∧ less y b = true) then some y else some b) = _
        rw [if_pos c]
        exact h1
      · rw [List.map_cons, List.foldl_cons, if_pos (k.mpr c)]
        exact h2
    · obtain ⟨r, h1, h2⟩ := pick_key x ys b
      refine ⟨r, ?_, ?_⟩
      · rw [List.foldl_cons]
        show ys.foldl (pick x) (if far y x < far b x ∨ (far y x = far b x ∧ less y b = true) then some y else some b) = _
        rw [if_neg c]
        exact h1
      · rw [List.map_cons, List.foldl_cons, if_neg (fun z => c (k.mp z))]
        exact h2
/-- the least of the keys is the key of the nearest -/
theorem nearest_key {n : Nat} {rs : List Rule} {f : Point → Bool} {x : Point} {c : List (Nat × Nat)} {l : List (List (Nat × Nat))} (h : wanted rs n f = c :: l) :
    ∃ r, Wf07.nearest n rs f x = some r ∧ (l.map fun c => ci (keyOf x (clampC c x))).foldl (fun a y => if lexL y a = true then y else a) (ci (keyOf x (clampC c x))) = ci (keyOf x r) := by
  obtain ⟨r, h1, h2⟩ := pick_key x (l.map fun c => clampC c x) (clampC c x)
  refine ⟨r, ?_, ?_⟩
  · rw [nearest_is, h]
    exact h1
  · rw [List.map_map] at h2
    exact h2
theorem nearest_no {n : Nat} {rs : List Rule} {f : Point → Bool} {x : Point} (h : wanted rs n f = []) : Wf07.nearest n rs f x = none := by
  rw [nearest_is, h]
  rfl
theorem clamp_len (c : List (Nat × Nat)) (x : Point) : (clampC c x).length = c.length := by
  unfold clampC
  rw [List.length_map, List.length_range]
theorem clamp_at {c : List (Nat × Nat)} {x : Point} {i v : Nat} {s : Nat × Nat} (hs : c[i]? = some s) (hx : x[i]? = some v) : (clampC c x)[i]? = some (max s.1 (min v s.2)) := by
  have hi := (List.getElem?_eq_some_iff.mp hs).1
  unfold clampC
  rw [List.getElem?_map, List.getElem?_range hi]
  show some (max (c.getD i (0, 0)).1 (min (x.getD i 0) (c.getD i (0, 0)).2)) = _
  rw [List.getD_eq_getElem?_getD, List.getD_eq_getElem?_getD, hs, hx]
  rfl
def farAt (p : Nat × Nat) : Nat := (p.1 - p.2) + (p.2 - p.1)
theorem far_is (x y : Point) : far x y = Wf07.sum ((x.zip y).map farAt) := rfl
end DM

set_option Elab.async false
set_option maxRecDepth 100000
/-! The request: one list of numbers, parted into calls. No Python here. -/
namespace DM
open Wf07
/-- a call as it stands in the list -/
inductive Flat : List Nat → Wf07.Call → Prop
  | begins (n a b : Nat) : Flat [0, n, a, b] (.begins n a b)
  | rule (k : Nat) (row : List Nat) : row.length ≤ 10 → Flat (1 :: k :: row.length :: row) (.rule k row)
  | drop (k i : Nat) : Flat [2, k, i] (.drop k i)
  | decides (k : Nat) (x : List Nat) : x.length ≤ 10 → Flat (3 :: k :: x.length :: x) (.decides k x)
  | gaps (k : Nat) : Flat [4, k] (.gaps k)
  | overlaps (k : Nat) : Flat [5, k] (.overlaps k)
  | idle (k : Nat) : Flat [6, k] (.idle k)
  | same : Flat [7] .same
  | counts (k : Nat) : Flat [8, k] (.counts k)
  | nearest (k s : Nat) (x : List Nat) : x.length ≤ 10 → Flat (9 :: k :: s :: x.length :: x) (.nearest k s x)
inductive Parsed : List Nat → List Wf07.Call → Prop
  | nil : Parsed [] []
  | cons {f l : List Nat} {c : Wf07.Call} {cs : List Wf07.Call} : Flat f c → Parsed l cs → Parsed (f ++ l) (c :: cs)
/-- what is answered, call by call -/
def outs : House → List Wf07.Call → List (List Int)
  | _, [] => []
  | m, c :: cs => Wf07Neutral.out (step m c).2 :: outs (step m c).1 cs
theorem nats_ci (l : List Nat) : Wf07Neutral.nats (ci l) = l := by
  unfold Wf07Neutral.nats ci
  rw [List.map_map]
  conv => rhs; rw [← List.map_id l]
  exact List.map_congr_left fun n _ => rfl
theorem row_is {l : List Nat} {x t : List Int} (h : PyFlat.row (ci l) = some (x, t)) : ∃ y s : List Nat, l = y.length :: (y ++ s) ∧ x = ci y ∧ t = ci s := by
  cases l with
  | nil => cases h
  | cons n r =>
    have h' : (if 0 ≤ (n : Int) ∧ (n : Int).toNat ≤ (ci r).length then some ((ci r).take (n : Int).toNat, (ci r).drop (n : Int).toNat) else none) = some (x, t) := h
    by_cases c : 0 ≤ (n : Int) ∧ (n : Int).toNat ≤ (ci r).length
    · rw [if_pos c] at h'
      have e := Option.some.inj h'
      have hn : n ≤ r.length := by
        have := c.2
        rw [List.length_map] at this
        exact this
      have h1 : (ci r).take n = x := congrArg Prod.fst e
      have h2 : (ci r).drop n = t := congrArg Prod.snd e
      refine ⟨r.take n, r.drop n, ?_, ?_, ?_⟩
      · rw [List.take_append_drop, List.length_take, Nat.min_eq_left hn]
      · rw [← h1]
        exact (List.map_take ..).symm
      · rw [← h2]
        exact (List.map_drop ..).symm
    · rw [if_neg c] at h'
      cases h'
theorem rows1 {l : List Nat} {xs : List (List Int)} {t : List Int} (h : PyFlat.rows 1 (ci l) = some (xs, t)) : ∃ y s : List Nat, l = y.length :: (y ++ s) ∧ xs = [ci y] ∧ t = ci s := by
  unfold PyFlat.rows at h
  split at h
  · cases h
  · rename_i x s hr
    obtain ⟨y, u, e1, e2, e3⟩ := row_is hr
    have h' : some ([x], s) = some (xs, t) := h
    have e := Option.some.inj h'
    refine ⟨y, u, e1, ?_, ?_⟩
    · rw [← e2]
      exact (congrArg Prod.fst e).symm
    · rw [← e3]
      exact (congrArg Prod.snd e).symm
theorem call_open {p : Nat} {r : List Nat} {c : List (List Int)} {t : List Int} (h : PyFlat.call PyWf07.shape (ci (p :: r)) = some (c, t)) :
    ∃ n k, PyWf07.shape (p : Int) = some (n, k) ∧ n ≤ r.length ∧ ∃ xs, PyFlat.rows k (ci (r.drop n)) = some (xs, t) ∧ c = ((p : Int) :: ci (r.take n)) :: xs := by
  have h' : (match PyWf07.shape (p : Int) with | none => none | some (n, k) => if (ci r).length < n then none else match PyFlat.rows k ((ci r).drop n) with | none => none | some (xs, t) => some (((p : Int) :: (ci r).take n) :: xs, t)) = some (c, t) := h
  cases hs : PyWf07.shape (p : Int) with
  | none =>
    rw [hs] at h'
    cases h'
  | some nk =>
    obtain ⟨n, k⟩ := nk
    rw [hs] at h'
    dsimp only at h'
    by_cases hlt : (ci r).length < n
    · rw [if_pos hlt] at h'
      cases h'
    · rw [if_neg hlt] at h'
      rw [List.length_map] at hlt
      cases hr : PyFlat.rows k ((ci r).drop n) with
      | none =>
        rw [hr] at h'
        cases h'
      | some xt =>
        obtain ⟨xs, s⟩ := xt
        rw [hr] at h'
        have e := Option.some.inj h'
        have e1 : (((p : Int) :: (ci r).take n) :: xs) = c := congrArg Prod.fst e
        have e2 : s = t := congrArg Prod.snd e
        refine ⟨n, k, rfl, by omega, xs, ?_, ?_⟩
        · rw [← e2, show ci (r.drop n) = (ci r).drop n from List.map_drop ..]
          exact hr
        · rw [← e1, show ci (r.take n) = (ci r).take n from List.map_take ..]
theorem shape_is {p n k : Nat} (h : PyWf07.shape (p : Int) = some (n, k)) : (p = 0 ∧ n = 3 ∧ k = 0) ∨ (p = 1 ∧ n = 1 ∧ k = 1) ∨ (p = 2 ∧ n = 2 ∧ k = 0) ∨ (p = 3 ∧ n = 1 ∧ k = 1) ∨ (p = 4 ∧ n = 1 ∧ k = 0) ∨ (p = 5 ∧ n = 1 ∧ k = 0) ∨ (p = 6 ∧ n = 1 ∧ k = 0) ∨
    (p = 7 ∧ n = 0 ∧ k = 0) ∨ (p = 8 ∧ n = 1 ∧ k = 0) ∨ (p = 9 ∧ n = 2 ∧ k = 1) := by
  unfold PyWf07.shape at h
  repeat' split at h
  all_goals first | (cases h; done) | (cases h; omega)
theorem one_of {r : List Nat} (h : 1 ≤ r.length) : ∃ a t, r = a :: t := by
  cases r with
  | nil => simp at h
  | cons a t => exact ⟨a, t, rfl⟩
theorem two_of {r : List Nat} (h : 2 ≤ r.length) : ∃ a b t, r = a :: b :: t := by
  obtain ⟨a, r, rfl⟩ := one_of (show 1 ≤ r.length by omega)
  obtain ⟨b, r, rfl⟩ := one_of (show 1 ≤ r.length by simp at h; omega)
  exact ⟨a, b, r, rfl⟩
theorem three_of {r : List Nat} (h : 3 ≤ r.length) : ∃ a b c t, r = a :: b :: c :: t := by
  obtain ⟨a, b, r, rfl⟩ := two_of (show 2 ≤ r.length by omega)
  obtain ⟨c, r, rfl⟩ := one_of (show 1 ≤ r.length by simp at h; omega)
  exact ⟨a, b, c, r, rfl⟩
theorem few {g : Bool} {y : List Nat} (h : (g && PyInside.lists [(0, 4294967295, 0, 10)] [ci y]) = true) : y.length ≤ 10 := by
  have h' : (g && (decide (0 ≤ (ci y).length) && decide ((ci y).length ≤ 10) && (ci y).all (PyInside.within 0 4294967295) && true)) = true := h
  simp only [Bool.and_eq_true, decide_eq_true_eq, List.length_map] at h'
  exact h'.2.1.1.2
/-- one call, read off the list's front -/
theorem call_is {l : List Nat} {c : List (List Int)} {t : List Int} (h : PyFlat.call PyWf07.shape (ci l) = some (c, t)) (hb : PyInside.call PyWf07.bound c = true) :
    ∃ (f s : List Nat) (x : Wf07.Call), l = f ++ s ∧ t = ci s ∧ Flat f x ∧ Wf07Neutral.callOf (PyWf07.whole c) = some x := by
  cases l with
  | nil => cases h
  | cons p r =>
    obtain ⟨n, k, hs, hn, xs, hr, rfl⟩ := call_open h
    rcases shape_is hs with e | e | e | e | e | e | e | e | e | e <;> obtain ⟨rfl, rfl, rfl⟩ := e
    · obtain ⟨a, b, c, r, rfl⟩ := three_of hn
      cases hr
      exact ⟨[0, a, b, c], r, .begins a b c, rfl, rfl, .begins a b c, rfl⟩
    · obtain ⟨a, r, rfl⟩ := one_of hn
      obtain ⟨y, s, e1, rfl, rfl⟩ := rows1 hr
      have e1 : r = y.length :: (y ++ s) := e1
      subst e1
      refine ⟨1 :: a :: y.length :: y, s, .rule a y, rfl, rfl, .rule a y ?_, ?_⟩
      · exact few (g := PyInside.each [(0, 4294967295)] [(a : Int)]) hb
      · show some (Wf07.Call.rule a (Wf07Neutral.nats (ci y))) = _
        rw [nats_ci]
    · obtain ⟨a, b, r, rfl⟩ := two_of hn
      cases hr
      exact ⟨[2, a, b], r, .drop a b, rfl, rfl, .drop a b, rfl⟩
    · obtain ⟨a, r, rfl⟩ := one_of hn
      obtain ⟨y, s, e1, rfl, rfl⟩ := rows1 hr
      have e1 : r = y.length :: (y ++ s) := e1
      subst e1
      refine ⟨3 :: a :: y.length :: y, s, .decides a y, rfl, rfl, .decides a y ?_, ?_⟩
      · exact few (g := PyInside.each [(0, 4294967295)] [(a : Int)]) hb
      · show some (Wf07.Call.decides a (Wf07Neutral.nats (ci y))) = _
        rw [nats_ci]
    · obtain ⟨a, r, rfl⟩ := one_of hn
      cases hr
      exact ⟨[4, a], r, .gaps a, rfl, rfl, .gaps a, rfl⟩
    · obtain ⟨a, r, rfl⟩ := one_of hn
      cases hr
      exact ⟨[5, a], r, .overlaps a, rfl, rfl, .overlaps a, rfl⟩
    · obtain ⟨a, r, rfl⟩ := one_of hn
      cases hr
      exact ⟨[6, a], r, .idle a, rfl, rfl, .idle a, rfl⟩
    · cases hr
      exact ⟨[7], r, .same, rfl, rfl, .same, rfl⟩
    · obtain ⟨a, r, rfl⟩ := one_of hn
      cases hr
      exact ⟨[8, a], r, .counts a, rfl, rfl, .counts a, rfl⟩
    · obtain ⟨a, b, r, rfl⟩ := two_of hn
      obtain ⟨y, s, e1, rfl, rfl⟩ := rows1 hr
      have e1 : r = y.length :: (y ++ s) := e1
      subst e1
      refine ⟨9 :: a :: b :: y.length :: y, s, .nearest a b y, rfl, rfl, .nearest a b y ?_, ?_⟩
      · exact few (g := PyInside.each [(0, 4294967295), (0, 4294967295)] [(a : Int), (b : Int)]) hb
      · show some (Wf07.Call.nearest a b (Wf07Neutral.nats (ci y))) = _
        rw [nats_ci]
theorem played_cons {c : List (List Int)} {x : Wf07.Call} (h : Wf07Neutral.callOf (PyWf07.whole c) = some x) (m : House) (cs : List (List (List Int))) :
    PyFlat.played Wf07Neutral.step m ((c :: cs).map PyWf07.whole) = Wf07Neutral.out (step m x).2 :: PyFlat.played Wf07Neutral.step (step m x).1 (cs.map PyWf07.whole) := by
  have e : Wf07Neutral.step m (PyWf07.whole c) = ((step m x).1, Wf07Neutral.out (step m x).2) := by
    unfold Wf07Neutral.step
    rw [h]
  show (Wf07Neutral.step m (PyWf07.whole c)).2 :: PyFlat.played Wf07Neutral.step (Wf07Neutral.step m (PyWf07.whole c)).1 (cs.map PyWf07.whole) = _
  rw [e]
theorem calls_is : ∀ (f : Nat) (l : List Nat) (raw : List (List (List Int))), PyFlat.calls PyWf07.shape f (ci l) = some raw → PyInside.calls PyWf07.bound raw = true →
    ∃ cs, Parsed l cs ∧ ∀ m, PyFlat.played Wf07Neutral.step m (raw.map PyWf07.whole) = outs m cs := by
  intro f
  induction f with
  | zero =>
    intro l raw h _
    cases l with
    | nil =>
      cases h
      exact ⟨[], .nil, fun _ => rfl⟩
    | cons p r => cases h
  | succ f ih =>
    intro l raw h hb
    cases l with
    | nil =>
      cases h
      exact ⟨[], .nil, fun _ => rfl⟩
    | cons p r =>
      have h' : (match PyFlat.call PyWf07.shape (ci (p :: r)) with | none => none | some (c, t) => match PyFlat.calls PyWf07.shape f t with | none => none | some cs => some (c :: cs)) = some raw := h
      cases hc : PyFlat.call PyWf07.shape (ci (p :: r)) with
      | none =>
        rw [hc] at h'
        cases h'
      | some ct =>
        obtain ⟨c, t⟩ := ct
        rw [hc] at h'
        dsimp only at h'
        cases hcs : PyFlat.calls PyWf07.shape f t with
        | none =>
          rw [hcs] at h'
          cases h'
        | some cs' =>
          rw [hcs] at h'
          cases Option.some.inj h'
          have hb' : (PyInside.call PyWf07.bound c && PyInside.calls PyWf07.bound cs') = true := hb
          rw [Bool.and_eq_true] at hb'
          obtain ⟨g, s, x, e, rfl, hf, hx⟩ := call_is hc hb'.1
          obtain ⟨cs, hp, ho⟩ := ih s cs' hcs hb'.2
          refine ⟨x :: cs, e ▸ .cons hf hp, fun m => ?_⟩
          rw [played_cons hx, ho]
          rfl
/-- what is asked: calls, and what is due is their answers -/
theorem asked_is {l : List Nat} (h : PyWf07.answers_asked (ci l) = true) : ∃ cs, Parsed l cs ∧ PyWf07.answers (ci l) = PyFlat.told (outs init cs) ∧ (PyWf07.answers (ci l)).length ≤ 10000000 := by
  unfold PyWf07.answers_asked at h
  cases hc : PyFlat.calls PyWf07.shape (ci l).length (ci l) with
  | none =>
    rw [hc] at h
    cases h
  | some raw =>
    rw [hc] at h
    simp only [Bool.and_eq_true] at h
    obtain ⟨⟨⟨_, hb⟩, _⟩, hs⟩ := h
    obtain ⟨cs, hp, ho⟩ := calls_is _ l raw hc hb
    refine ⟨cs, hp, ?_, of_decide_eq_true hs⟩
    unfold PyWf07.answers PyWf07.calls
    rw [hc]
    exact congrArg PyFlat.told (ho init)
theorem told_cons (a : List Int) (r : List (List Int)) : PyFlat.told (a :: r) = (a.length : Int) :: (a ++ PyFlat.told r) := by
  unfold PyFlat.told
  rw [List.flatMap_cons]
  rfl
end DM

set_option Elab.async false
set_option linter.all false
set_option maxRecDepth 100000
set_option maxHeartbeats 2000000
namespace DC
open PySem PySem.Spec PyProof.Rows L2
/-! ### the text -/
def top (i : Nat) : Stmt := PySem.Challenge.pw_decisions_s01_answers.main.body.getD i (.Pass ⟨0, 0, 0, 0⟩)

/-! ### lists side by side -/
def All2 {α β : Type} (R : α → β → Prop) : List α → List β → Prop
  | [], [] => True
  | a :: l, b :: m => R a b ∧ All2 R l m
  | _, _ => False
theorem All2.mono {α β : Type} {R S : α → β → Prop} (h : ∀ a b, R a b → S a b) : ∀ {l : List α} {m : List β}, All2 R l m → All2 S l m
  | [], [], _ => trivial
  | _ :: _, _ :: _, ⟨a, b⟩ => ⟨h _ _ a, b.mono h⟩
theorem All2.len {α β : Type} {R : α → β → Prop} : ∀ {l : List α} {m : List β}, All2 R l m → l.length = m.length
  | [], [], _ => rfl
  | _ :: _, _ :: _, ⟨_, b⟩ => congrArg (· + 1) b.len
theorem All2.get {α β : Type} {R : α → β → Prop} : ∀ {l : List α} {m : List β}, All2 R l m → ∀ {i : Nat} {b : β}, m[i]? = some b → ∃ a, l[i]? = some a ∧ R a b
  | [], [], _, i, b, h => by simp at h
  | x :: l, y :: m, ⟨r, _⟩, 0, b, h => by
    cases h
    exact ⟨x, rfl, r⟩
  | x :: l, y :: m, ⟨_, r⟩, i + 1, b, h => by
    obtain ⟨a, h1, h2⟩ := r.get (i := i) (b := b) h
    exact ⟨a, h1, h2⟩
theorem All2.get' {α β : Type} {R : α → β → Prop} : ∀ {l : List α} {m : List β}, All2 R l m → ∀ {i : Nat} {a : α}, l[i]? = some a → ∃ b, m[i]? = some b ∧ R a b
  | [], [], _, i, b, h => by simp at h
  | x :: l, y :: m, ⟨r, _⟩, 0, b, h => by
    cases h
    exact ⟨y, rfl, r⟩
  | x :: l, y :: m, ⟨_, r⟩, i + 1, b, h => by
    obtain ⟨a, h1, h2⟩ := r.get' (i := i) (a := b) h
    exact ⟨a, h1, h2⟩
theorem All2.app {α β : Type} {R : α → β → Prop} : ∀ {l : List α} {m : List β} {l' : List α} {m' : List β}, All2 R l m → All2 R l' m' → All2 R (l ++ l') (m ++ m')
  | [], [], _, _, _, h => h
  | _ :: _, _ :: _, _, _, ⟨a, b⟩, h => ⟨a, b.app h⟩
theorem All2.snoc {α β : Type} {R : α → β → Prop} {l : List α} {m : List β} {a : α} {b : β} (h : All2 R l m) (r : R a b) : All2 R (l ++ [a]) (m ++ [b]) := h.app ⟨r, trivial⟩
theorem All2.erase {α β : Type} {R : α → β → Prop} : ∀ {l : List α} {m : List β}, All2 R l m → ∀ i : Nat, All2 R (l.eraseIdx i) (m.eraseIdx i)
  | [], [], _, _ => trivial
  | _ :: _, _ :: _, ⟨_, b⟩, 0 => b
  | _ :: _, _ :: _, ⟨a, b⟩, i + 1 => ⟨a, b.erase i⟩
theorem All2.mem {α β : Type} {R : α → β → Prop} : ∀ {l : List α} {m : List β}, All2 R l m → ∀ a ∈ l, ∃ b ∈ m, R a b
  | [], [], _, a, h => by simp at h
  | x :: l, y :: m, ⟨r, s⟩, a, h => by
    rcases List.mem_cons.mp h with e | e
    · subst e
      exact ⟨y, by simp, r⟩
    · obtain ⟨b, h1, h2⟩ := s.mem a e
      exact ⟨b, by simp [h1], h2⟩
theorem take_more {α : Type} : ∀ {l : List α} {i : Nat} {x : α}, l[i]? = some x → l.take (i + 1) = l.take i ++ [x] := fun {l i x} h => by
  rw [List.take_add_one, h]
  rfl

/-! ### the heap -/
abbrev vi (l : List Nat) : List V := l.map fun (n : Nat) => V.int (n : Int)
theorem vi_ints (l : List Nat) : vi l = (l.map fun (n : Nat) => (n : Int)).map V.int := by
  rw [List.map_map]
  rfl
theorem vi_get {l : List Nat} {i : Nat} {v : V} (h : (vi l)[i]? = some v) : ∃ n, l[i]? = some n ∧ v = .int (n : Int) := by
  rw [List.getElem?_map] at h
  cases e : l[i]? with
  | none => rw [e] at h; cases h
  | some n => rw [e] at h; exact ⟨n, rfl, (Option.some.inj h).symm⟩
theorem refs_get {l : List Addr} {i : Nat} {v : V} (h : (l.map V.ref)[i]? = some v) : ∃ n, l[i]? = some n ∧ v = .ref n := by
  rw [List.getElem?_map] at h
  cases e : l[i]? with
  | none => rw [e] at h; cases h
  | some n => rw [e] at h; exact ⟨n, rfl, (Option.some.inj h).symm⟩
theorem upd_keep {H : Hp} {a b : Addr} {o u : HO} (h : H b = some u) (n : b ≠ a) : upd H a o b = some u := (upd_ne n).trans h
theorem same_upd {H0 H : Hp} {a : Addr} {o : HO} (s : Same H0 H) (n : H0 a = none) : Same H0 (upd H a o) := fun b u e => upd_keep (s b u e) (ne_of_none e n)
theorem same_new {H : Hp} {a : Addr} {o : HO} (n : H a = none) : Same H (upd H a o) := same_upd (Same.refl H) n
/-- a tuple of two numbers -/
def PairAt (H : Hp) (t : Addr) (p : Nat × Nat) : Prop := H t = some (.tup [.int (p.1 : Int), .int (p.2 : Int)])
/-- a list of such tuples -/
def SpansAt (H : Hp) (l : Addr) (ps : List (Nat × Nat)) : Prop := ∃ ts : List Addr, H l = some (.lst (ts.map V.ref)) ∧ All2 (PairAt H) ts ps
theorem SpansAt.same {H H' : Hp} {l : Addr} {ps : List (Nat × Nat)} (s : Same H H') : SpansAt H l ps → SpansAt H' l ps := fun ⟨ts, h, a⟩ => ⟨ts, s _ _ h, a.mono fun t p q => s t _ q⟩
/-- a rule -/
def ruleF (r : Wf07.Rule) (l : Addr) : List (Str × V) := [("says", .int (r.says : Int)), ("ranges", .ref l)]
def RuleAt (CR : Addr) (H : Hp) (a : Addr) (r : Wf07.Rule) : Prop := ∃ dx l, H a = some (.ins CR dx (ruleF r l)) ∧ SpansAt H l r.ranges
theorem RuleAt.same {CR : Addr} {H H' : Hp} {a : Addr} {r : Wf07.Rule} (s : Same H H') : RuleAt CR H a r → RuleAt CR H' a r := fun ⟨dx, l, h, q⟩ => ⟨dx, l, s _ _ h, q.same s⟩
theorem lk_here {k : Str} {v : V} {r : List (Str × V)} : List.lookup k ((k, v) :: r) = some v := by
  have e : (k == k) = true := beq_self_eq_true k
  simp only [List.lookup, e]
theorem lk_past {k g : Str} {v : V} {r : List (Str × V)} (h : (k == g) = false) : List.lookup k ((g, v) :: r) = List.lookup k r := by
  simp only [List.lookup, h]
theorem put_here {f : Str} {v x : V} {r : List (Str × V)} : putF f v ((f, x) :: r) = (f, v) :: r := if_pos rfl
theorem put_past {f g : Str} {v x : V} {r : List (Str × V)} (h : ¬ g = f) : putF f v ((g, x) :: r) = (g, x) :: putF f v r := if_neg h
theorem ruleF_says (r : Wf07.Rule) (l : Addr) : (ruleF r l).lookup ("says" : Str) = some (.int (r.says : Int)) := lk_here
theorem ruleF_ranges (r : Wf07.Rule) (l : Addr) : (ruleF r l).lookup ("ranges" : Str) = some (.ref l) := (lk_past (by decide +kernel)).trans lk_here
theorem ruleF_meets (r : Wf07.Rule) (l : Addr) : (ruleF r l).lookup ("meets" : Str) = none := (lk_past (by decide +kernel)).trans ((lk_past (by decide +kernel)).trans rfl)
theorem ruleF_holds (r : Wf07.Rule) (l : Addr) : (ruleF r l).lookup ("holds" : Str) = none := (lk_past (by decide +kernel)).trans ((lk_past (by decide +kernel)).trans rfl)
/-- a number of the module's top -/
def IntC (mg : Str → Option Value) (x : Str) (n : Int) : Prop := ∃ t, mg x = some (.int n t)
theorem pe_const {X : Cx} {x : Str} {n : Int} {pos : Pos} (h : IntC X.mg x n) (hg : Gl X x := by rfl) (hd : (x == ("__debug__" : Str)) = false := by decide) : PE X (.Name x pos) (tC (.int n)) := by
  obtain ⟨t, h⟩ := h
  exact pe_glob hg h ⟨_, rfl⟩ hd
/-- an if whose test is known -/
theorem ifT {c : Bool} {A B : Prop} (hc : c = true) (h : A) : if c = true then A else B := by
  rw [if_pos hc]
  exact h
theorem ifF {c : Bool} {A B : Prop} (hc : c = false) (h : B) : if c = true then A else B := by
  rw [hc, if_neg Bool.false_ne_true]
  exact h
/-- a comprehension without a test whose items are known ahead -/
theorem lc_pure {J : It} {n : Nat} {G : Hp → Prop} {Y : Nat → Hp → V → Hp → Prop} (w : Walk J n G Y) {g : TG} {te : TE} {vs : List Nat} {σ : L2.St} {H : Hp} {D : Addr} {Qd : Hp → Prop} (ys : List V) (hn : ys.length = n) (hz : n < sizeLine) (hD : H D = none)
    (hG : ∀ H', Same H H' → G H')
    (hs : ∀ i x H1 H1', i < n → Same H H1 → Y i H1 x H1' → ∀ Nx : V → Hp → Prop, (∀ y H4, Same H1 H4 → ys[i]? = some y → Nx y H4) → g x (wipe σ vs) H1' fun σ2 H2 => wipe σ2 vs = wipe σ vs ∧ te σ2 H2 Nx)
    (hd : ∀ H', Same H H' → H' D = some (.lst ys) → Qd H') :
    ∃ W : Nat → Nat → Hp → Prop, (∃ m, W 0 m (upd H D (.lst []))) ∧ ∀ i m H, W i m H →
      (J.stop i H ∧ Qd H) ∨ (J.go i H ∧ ∃ Nx : Hp → Prop, (∀ H', Nx H' → ∃ m', m' < m ∧ W (i + 1) m' H') ∧ ∀ x H', J.yld i H x H' → g x (wipe σ vs) H' fun σ2 H2 => wipe σ2 vs = wipe σ vs ∧ tYes σ2 H2 fun b H3 =>
        if b = true then te σ2 H3 fun y H4 => ∃ acc, H4 D = some (.lst acc) ∧ acc.length < sizeLine ∧ Nx (upd H4 D (.lst (acc ++ [y]))) else Nx H3) := by
  refine lc_it w (fun i H' => Same H H' ∧ H' D = some (.lst (ys.take i))) ⟨same_new hD, upd_same⟩ (fun i H' _ h => hG H' h.1) ?_ ?_
  · rintro i x H1 H1' hi ⟨s1, hD1⟩ hY
    refine hs i x H1 H1' hi s1 hY _ fun y H4 s4 hy => ⟨_, s4 _ _ hD1, ?_, same_upd (s1.trans s4) hD, ?_⟩
    · rw [List.length_take]
      omega
    · rw [upd_same, take_more hy]
  · rintro H1 ⟨s1, hD1⟩
    refine hd H1 s1 ?_
    rw [hD1, ← hn, List.take_length]
/-! ### defs by their names: where they stand, how they are called, what they promise -/
structure Fn (P : Program) (w : World) (K : PySem.W.Frag) (mg : Str → Option Value) (base : Heap) (k : Nat) (x : Str) (ps : List Str) (sp : Sp) : Prop where
  ex : ∃ (f : Addr) (fd : FuncData), mg x = some (.ref f) ∧ FnOk P w K mg base CX0 k f fd ps sp ∧ Binds K fd ps [] ∧ PySem.W.keepIn K (.ref f) = true
structure Me (P : Program) (w : World) (K : PySem.W.Frag) (mg : Str → Option Value) (base : Heap) (k : Nat) (C : Addr) (m : Str) (ps : List Str) (sp : Sp) : Prop where
  cl : Cls K C
  ex : ∃ (f : Addr) (fd : FuncData), Meth K C m f ∧ FnOk P w K mg base CX0 k f fd ps sp ∧ Binds K fd ps []
structure Ma (P : Program) (w : World) (K : PySem.W.Frag) (mg : Str → Option Value) (base : Heap) (k : Nat) (x : Str) (C : Addr) (ps : List Str) (sp : Sp) : Prop where
  gC : mg x = some (.ref C)
  ex : ∃ (f : Addr) (fd : FuncData), Mk K C f ∧ FnOk P w K mg base CX0 k f fd ps sp ∧ Binds K fd ps []
section
variable {X : Cx} {k : Nat} {x m : Str} {C : Addr} {ps : List Str} {sp : Sp} {o e : Expr} {es : List Expr} {ta : TE} {t : TA} {p pos apos : Pos} {pl : Sem Bool}
theorem pe_fn (c : Fn X.prog X.w X.K X.mg X.base k x ps sp) (hr : Room k X.A) (ha : PA X (e :: es) t) (hg : Gl X x := by rfl) (hdb : (x == ("__debug__" : Str)) = false := by decide)
    (he : starEach (e :: es) X.env = (false, eval e X.env) :: starEach es X.env := by rfl) (hpl : (backTo pos (starEach es X.env)).any (·.1) = false := by rfl) : PE X (.Call (.Name x p) (e :: es) [] pos) (tCall sp [] E0 t) := by
  obtain ⟨f, fd, hm, G, hb, hk⟩ := c.ex
  exact pe_call G hr hg hm hk hb .nil pass0 ha hdb he hpl
theorem pe_me (c : Me X.prog X.w X.K X.mg X.base k C m ps sp) (hr : Room k X.A) (ho : PE X o ta) (ha : PA X (e :: es) t)
    (hst : starEach (e :: es) X.env = (false, eval e X.env) :: starEach es X.env := by rfl) (hpl : (backTo pos (starEach es X.env)).any (·.1) = false := by rfl)
    (ht : eval (.Call (.Attribute o m apos) (e :: es) [] pos) X.env = (do let ov ← eval o X.env; standAt apos.atName; let (f, first) ← holding [ov] (getMethod ov m pl); callWith pos f first (backTo pos (starEach (e :: es) X.env)) (backToKw pos (keywordEach [] X.env))) := by rfl) : PE X (.Call (.Attribute o m apos) (e :: es) [] pos) (tMeth C m sp [] E0 ta t) := by
  obtain ⟨f, fd, hm, G, hb⟩ := c.ex
  exact pe_meth ho c.cl hm G hr hb .nil pass0 ha hst hpl ht
theorem pe_ma (c : Ma X.prog X.w X.K X.mg X.base k x C ps sp) (hr : Room (k + 1) X.A) (ha : PA X (e :: es) t) (hg : Gl X x := by rfl) (hdb : (x == ("__debug__" : Str)) = false := by decide)
    (he : starEach (e :: es) X.env = (false, eval e X.env) :: starEach es X.env := by rfl) (hpl : (backTo pos (starEach es X.env)).any (·.1) = false := by rfl) : PE X (.Call (.Name x p) (e :: es) [] pos) (tMake C sp [] E0 t) := by
  obtain ⟨f, fd, hm, G, hb⟩ := c.ex
  exact pe_make hm G hr hg c.gC hb .nil pass0 ha hdb he hpl
end
end DC

set_option Elab.async false
set_option linter.all false
set_option maxRecDepth 100000
set_option maxHeartbeats 2000000
namespace DC
open PySem PySem.Spec PyProof.Rows L2
abbrev sRInit : Stmt := inClass (top 11) 0
abbrev sHolds : Stmt := inClass (top 11) 1
abbrev sMeets : Stmt := inClass (top 11) 2
abbrev sIsPoint : Stmt := top 12
abbrev sIsRange : Stmt := top 13
abbrev sIsRule : Stmt := top 14
abbrev sRangesIn : Stmt := top 15
abbrev sRuleFrom : Stmt := top 16
/-- what the top has of rules.py -/
structure TR (K : PySem.W.Frag) (mg : Str → Option Value) (CR : Addr) : Prop where
  cl : Cls K CR
  nSays : NoAttr K CR "says"
  nRanges : NoAttr K CR "ranges"
  gC : mg "Rule" = some (.ref CR)
  hiV : IntC mg "HIGHEST_VALUE" 100
  hiN : IntC mg "HIGHEST_NUMBER" 1000
  all : mg "all" = none
  zip : mg "zip" = none
  len : mg "len" = none
  range : mg "range" = none
def spRInit (CR : Addr) : Sp := fun vs H Q _ => ∃ (p dx l : Addr) (n : Nat) (r : Wf07.Rule), vs = [.ref p, .int (r.says : Int), .ref l] ∧ H p = some (.ins CR dx []) ∧
  ∀ H' : Hp, H' p = some (.ins CR dx (ruleF r l)) → (∀ b o, H b = some o → b ≠ p → H' b = some o) → Q .non H'
def spHolds (K : PySem.W.Frag) (CR : Addr) : Sp := fun vs H Q _ => ∃ (a p : Addr) (r : Wf07.Rule) (x : List Nat), vs = [.ref a, .ref p] ∧ RuleAt CR H a r ∧ SqL K H p (vi x) ∧ r.ranges.length = x.length ∧
  x.length ≤ 1000 ∧ ∀ H', Same H H' → Q (.bl (r.holds x)) H'
section
variable {P : Program} {w : World} {K : PySem.W.Frag} {mg : Str → Option Value} {base : Heap} {CR : Addr} {f : Addr} {fd : FuncData}
theorem scHolds : FnScope ["self", "point", "span", "value"] ["self", "point"] (defScope sHolds) := ⟨rfl, rfl, rfl, by decide +kernel, rfl, by decide +kernel, by decide +kernel⟩
def inR (p : (Nat × Nat) × Nat) : Bool := decide (p.1.1 ≤ p.2) && decide (p.2 ≤ p.1.2)
theorem holds_no {r : Wf07.Rule} {x : List Nat} {i : Nat} {q : (Nat × Nat) × Nat} (h : (r.ranges.zip x)[i]? = some q) (hq : inR q = false) : r.holds x = false := by
  cases e : r.holds x with
  | false => rfl
  | true =>
    have h2 : inR q = true := List.all_eq_true.mp e q (List.mem_of_getElem? h)
    rw [hq] at h2
    cases h2
theorem ok_holds (F : Fun K "holds" "Rule.holds" sHolds f fd) (T : TR K mg CR) : FnOk P w K mg base CX0 1 f fd ["self", "point"] (spHolds K CR) := by
  refine F.ok scHolds (fun vs H Q E h => ?_) (fun cdv A outer s H vs Q E hr h => ?_)
  · obtain ⟨a, p, r, x, rfl, _⟩ := h
    rfl
  · refine ⟨_, pss_cons (ps_for PassesOwn.never rfl (pi_zip (by rfl) T.zip (pa_cons (pe_fld (pv 0) rfl) (pa_cons (pv 1) pa_nil)))
        (pg_tup rfl (pgs_cons (pg_name (i := 2) scHolds.nd rfl (.inl rfl)) (pgs_cons (pg_name (i := 3) scHolds.nd rfl (.inl rfl)) pgs_nil)))
        (pss_one (ps_if (pt_not (pt_chain op_le op_le (pe_ix ix_tup (pv 2) pe_int (fun _ _ => rfl)) (pv 3) (pe_ix ix_tup (pv 2) pe_int (fun _ _ => rfl)))) (pss_one (ps_ret pe_bl)) pss_nil)))
      (pss_one (ps_ret pe_bl)), ?_⟩
    obtain ⟨a, p, r, x, rfl, ⟨dx, l, ha, ts, hl, h2⟩, hx, hlen, hbig, k⟩ := h
    have hn : x.length = min (ts.map V.ref).length (vi x).length := by
      rw [List.length_map, List.length_map, h2.len, hlen, Nat.min_self]
    refine ⟨_, rfl, a, CR, dx, _, _, rfl, ha, T.cl, T.nRanges, ruleF_ranges r l, _, rfl, l, p, _, _, rfl, SqL.of hl, hx, for_it (walk_zip hn)
      (fun i σ H' => (∃ v2 v3 : Option V, σ = [some (.ref a), some (.ref p), v2, v3]) ∧ Same H H' ∧ ((r.ranges.zip x).take i).all inR = true) ⟨⟨none, none, rfl⟩, Same.refl _, rfl⟩ (fun i σ H' _ h => ⟨h.2.1.seq (SqL.of hl), h.2.1.seq hx⟩) ?_ ?_⟩
    · rintro i v σ H1 H1' hi ⟨⟨v2, v3, rfl⟩, s1, hall⟩ ⟨Tt, y, z, rfl, nT, rfl, hy, hz⟩
      obtain ⟨t, ht, rfl⟩ := refs_get hy
      obtain ⟨n, hn', rfl⟩ := vi_get hz
      obtain ⟨q, hq, hp⟩ := h2.get' ht
      have s2 : Same H (upd H1 Tt (.tup [V.ref t, V.int (n : Int)])) := s1.trans (same_new nT)
      have hpt : PairAt (upd H1 Tt (.tup [V.ref t, V.int (n : Int)])) t q := s2 t _ hp
      have hz2 : (r.ranges.zip x)[i]? = some (q, n) := by
        rw [List.getElem?_zip_eq_some]
        exact ⟨hq, hn'⟩
      have bad : inR (q, n) = false → Q (.bl false) (upd H1 Tt (.tup [V.ref t, V.int (n : Int)])) := fun e => by
        have k' := k _ s2
        rw [holds_no hz2 e] at k'
        exact k'
      refine ⟨Tt, _, rfl, SqT.of upd_same, rfl, _, _, rfl, _, _, rfl, rfl, ?_⟩
      refine ⟨_, rfl, t, _, 0, _, rfl, rfl, SqT.of hpt, rfl, _, rfl, _, _, rfl, rfl, _, rfl, ?_⟩
      by_cases c : (q.1 : Int) ≤ (n : Int)
      · refine ifT (decide_eq_true c) ?_
        refine ⟨_, rfl, t, _, 1, _, rfl, rfl, SqT.of hpt, rfl, _, _, rfl, rfl, _, rfl, ?_⟩
        by_cases c2 : (n : Int) ≤ (q.2 : Int)
        · refine ifF (by rw [decide_eq_true c2]; rfl) ⟨⟨_, _, rfl⟩, s2, ?_⟩
          rw [take_more hz2, List.all_append, hall, Bool.true_and]
          show ((decide (q.1 ≤ n) && decide (n ≤ q.2)) && true) = true
          rw [decide_eq_true (show q.1 ≤ n by omega), decide_eq_true (show n ≤ q.2 by omega)]
          rfl
        · refine ifT (by rw [decide_eq_false c2]; rfl) (bad ?_)
          show (decide (q.1 ≤ n) && decide (n ≤ q.2)) = false
          rw [decide_eq_false (show ¬ n ≤ q.2 by omega), Bool.and_false]
      · refine ifF (decide_eq_false c) ⟨_, rfl, bad ?_⟩
        show (decide (q.1 ≤ n) && decide (n ≤ q.2)) = false
        rw [decide_eq_false (show ¬ q.1 ≤ n by omega), Bool.false_and]
    · rintro σ H1 ⟨_, s1, hall⟩
      have e : r.holds x = true := by
        rw [List.take_of_length_le (by rw [List.length_zip, hlen, Nat.min_self]; exact Nat.le_refl _)] at hall
        exact hall
      have k' := k _ s1
      rw [e] at k'
      exact k'
/-! ### meets -/
abbrev rMax2 : List V → Hp → VK → Prop := fun xs H Q => ∃ i j, xs = [.int i, .int j] ∧ Q (.int (if j > i then j else i)) H
abbrev rMin2 : List V → Hp → VK → Prop := fun xs H Q => ∃ i j, xs = [.int i, .int j] ∧ Q (.int (if j < i then j else i)) H
abbrev nMeets : List Str := ["self", "other", "span", "against"]
theorem scMeets : FnScope nMeets ["self", "other"] (defScope sMeets) := ⟨rfl, rfl, rfl, by decide +kernel, rfl, by decide +kernel, by decide +kernel⟩
def meetV (pq : (Nat × Nat) × (Nat × Nat)) : Bool := DM.meet pq.1 pq.2
def spMeets (CR : Addr) : Sp := fun vs H Q _ => ∃ (a b : Addr) (r q : Wf07.Rule), vs = [.ref a, .ref b] ∧ RuleAt CR H a r ∧ RuleAt CR H b q ∧ r.ranges.length = q.ranges.length ∧
  r.ranges.length ≤ 1000 ∧ ∀ H', Same H H' → Q (.bl ((r.ranges.zip q.ranges).all meetV)) H'
theorem ok_meets (F : Fun K "meets" "Rule.meets" sMeets f fd) (T : TR K mg CR) (mMax : mg "max" = none) (mMin : mg "min" = none) : FnOk P w K mg base CX0 1 f fd ["self", "other"] (spMeets CR) := by
  refine F.ok scMeets (fun vs H Q E h => ?_) (fun cdv A outer s H vs Q E hr h => ?_)
  · obtain ⟨a, b, r, q, rfl, _⟩ := h
    rfl
  · refine ⟨_, pss_one (ps_ret (pe_callB (cr_all rfl) (by rfl) T.all (by decide +kernel) (pa_cons
      (pe_lc (own := [("span", 2), ("against", 3)]) (g := gTup K 2 (gCons (gName 2) (gCons (gName 3) gNil))) (tt := tYes)
        (te := tOp (rI0 fun i j => .bl (decide (i ≤ j))) (tCB rMax2 (tCons (tOp (rIxT K) (tVar 2) (tC (.int 0))) (tCons (tOp (rIxT K) (tVar 3) (tC (.int 0))) tNil))) (tCB rMin2 (tCons (tOp (rIxT K) (tVar 2) (tC (.int 1))) (tCons (tOp (rIxT K) (tVar 3) (tC (.int 1))) tNil))))
        (by rfl) scMeets.nd (pi_zip (by rfl) T.zip (pa_cons (pe_fld (pv 0) rfl) (pa_cons (pe_fld (pv 1) rfl) pa_nil)))
        (blkOk_by (own := [("span", 2), ("against", 3)]) (N := nMeets) (sc := defScope sMeets) (by decide +kernel))
        (fun _ _ _ _ _ => by exact pg_tup rfl (pgs_cons (pg_name (i := 2) scMeets.nd rfl (.inl rfl)) (pgs_cons (pg_name (i := 3) scMeets.nd rfl (.inl rfl)) pgs_nil)))
        (fun _ _ _ _ _ => pts_nil)
        (fun _ _ _ _ _ => by
          refine pe_cmpR op_le ?_ ?_ (nomark _)
          · exact pe_callB (call_max2 rfl) (by rfl) mMax (by decide +kernel) (pa_cons (pe_ix ix_tup (pv 2) pe_int (fun _ _ => rfl)) (pa_cons (pe_ix ix_tup (pv 3) pe_int (fun _ _ => rfl)) pa_nil))
          · exact pe_callB (call_min2 rfl) (by rfl) mMin (by decide +kernel) (pa_cons (pe_ix ix_tup (pv 2) pe_int (fun _ _ => rfl)) (pa_cons (pe_ix ix_tup (pv 3) pe_int (fun _ _ => rfl)) pa_nil)))) pa_nil))), ?_⟩
    obtain ⟨a, b, r, q, rfl, ⟨dx, l, ha, ts, hl, h2⟩, ⟨dx', l', ha', ts', hl', h2'⟩, hlen, hbig, k⟩ := h
    have hn : (r.ranges.zip q.ranges).length = min (ts.map V.ref).length (ts'.map V.ref).length := by
      rw [List.length_map, List.length_map, h2.len, h2'.len, List.length_zip]
    refine ⟨_, rfl, a, CR, dx, _, _, rfl, ha, T.cl, T.nRanges, ruleF_ranges r l, _, rfl, b, CR, dx', _, _, rfl, ha', T.cl, T.nRanges, ruleF_ranges q l', l, l', _, _, rfl, SqL.of hl, SqL.of hl', fun D hD => ?_⟩
    refine lc_pure (walk_zip hn) (((r.ranges.zip q.ranges).map meetV).map V.bl) (by rw [List.length_map, List.length_map]) (by rw [List.length_zip, sizeLine_eq]; omega) hD (fun H' s1 => ⟨s1.seq (SqL.of hl), s1.seq (SqL.of hl')⟩) ?_ ?_
    · rintro i v H1 H1' hi s1 ⟨Tt, y, z, rfl, nT, rfl, hy, hz⟩ Nx hNx
      obtain ⟨t, ht, rfl⟩ := refs_get hy
      obtain ⟨t', ht', rfl⟩ := refs_get hz
      obtain ⟨u, hu, hp⟩ := h2.get' ht
      obtain ⟨u', hu', hp'⟩ := h2'.get' ht'
      have s2 : Same H1 (upd H1 Tt (.tup [V.ref t, V.ref t'])) := same_new nT
      have hpt : PairAt (upd H1 Tt (.tup [V.ref t, V.ref t'])) t u := s2 t _ (s1 _ _ hp)
      have hpt' : PairAt (upd H1 Tt (.tup [V.ref t, V.ref t'])) t' u' := s2 t' _ (s1 _ _ hp')
      refine ⟨Tt, _, rfl, SqT.of upd_same, rfl, _, _, rfl, _, _, rfl, rfl, rfl, ?_⟩
      refine ⟨_, rfl, t, _, 0, _, rfl, rfl, SqT.of hpt, rfl, _, rfl, t', _, 0, _, rfl, rfl, SqT.of hpt', rfl, _, _, rfl, _, rfl, t, _, 1, _, rfl, rfl, SqT.of hpt, rfl, _, rfl, t', _, 1, _, rfl, rfl, SqT.of hpt', rfl, _, _, rfl, _, _, rfl, rfl, hNx _ _ s2 ?_⟩
      have hz2 : (r.ranges.zip q.ranges)[i]? = some (u, u') := by
        rw [List.getElem?_zip_eq_some]
        exact ⟨hu, hu'⟩
      rw [List.getElem?_map, List.getElem?_map, hz2]
      show some (V.bl (decide (max u.1 u'.1 ≤ min u.2 u'.2))) = some (V.bl (decide (_ ≤ _)))
      congr 2
      refine decide_eq_decide.mpr ?_
      split <;> split <;> omega
    · intro H1 s1 hD1
      refine ⟨D, (r.ranges.zip q.ranges).map meetV, rfl, SqL.of hD1, ?_⟩
      have e : ((r.ranges.zip q.ranges).map meetV).all id = (r.ranges.zip q.ranges).all meetV := by
        rw [List.all_map]
        rfl
      rw [e]
      exact k _ s1
theorem scIsPoint : FnScope ["row", "width", "value"] ["row", "width"] (defScope sIsPoint) := ⟨rfl, rfl, rfl, by decide +kernel, rfl, by decide +kernel, by decide +kernel⟩
def spIsPoint (K : PySem.W.Frag) : Sp := fun vs H Q _ => ∃ (p : Addr) (n : Nat) (x : List Nat), vs = [.ref p, .int (n : Int)] ∧ SqL K H p (vi x) ∧ x.length ≤ 1000 ∧
  ∀ H', Same H H' → Q (.bl (x.length == n && x.all fun a => decide (a ≤ 100))) H'
theorem ok_isPoint (F : Fun K "is_point" "is_point" sIsPoint f fd) (T : TR K mg CR) : FnOk P w K mg base CX0 1 f fd ["row", "width"] (spIsPoint K) := by
  refine F.ok scIsPoint (fun vs H Q E h => ?_) (fun cdv A outer s H vs Q E hr h => ?_)
  · obtain ⟨p, n, x, rfl, _⟩ := h
    rfl
  · refine ⟨_, pss_one (ps_ret (pe_and (pe_cmpR op_eq (pe_callB call_len_seq (by rfl) T.len PySem.boot_len (pa_cons (pv 0) pa_nil)) (pv 1) (nomark _))
      (pe_one (pe_callB (cr_all rfl) (by rfl) T.all (by decide +kernel) (pa_cons
        (pe_lc (own := [("value", 2)]) (g := gName 2) (tt := tYes) (te := tOp (rI0 fun i j => .bl (decide (i ≤ j))) (tVar 2) (tC (.int 100)))
          (by rfl) scIsPoint.nd (pi_list (pv 0)) (blkOk_by (own := [("value", 2)]) (N := ["row", "width", "value"]) (sc := defScope sIsPoint) (by decide +kernel))
          (fun _ _ _ _ _ => by exact pg_name (i := 2) scIsPoint.nd rfl (.inl rfl)) (fun _ _ _ _ _ => pts_nil)
          (fun _ _ _ _ _ => by exact pe_cmpR op_le (pv 2) (pe_const T.hiV) (nomark _))) pa_nil))))), ?_⟩
    obtain ⟨p, n, x, rfl, hx, hbig, k⟩ := h
    refine ⟨_, rfl, p, _, rfl, .inl hx, _, rfl, rfl, _, rfl, ?_⟩
    by_cases c : x.length = n
    · refine ifT (decide_eq_true (by rw [List.length_map, c])) ?_
      refine ⟨_, rfl, p, rfl, ⟨_, hx⟩, fun D hD => ?_⟩
      refine lc_pure walk_list ((x.map fun a => decide (a ≤ 100)).map V.bl) (by simp) (by rw [List.length_map, sizeLine_eq]; omega) hD (fun H' s1 => s1.seq hx) ?_ ?_
      · rintro i v H1 H1' hi s1 ⟨rfl, hv⟩ Nx hNx
        obtain ⟨m, hm, rfl⟩ := vi_get hv
        refine ⟨rfl, _, rfl, _, _, rfl, rfl, hNx _ _ (Same.refl _) ?_⟩
        rw [List.getElem?_map, List.getElem?_map, hm]
        show some (V.bl (decide (m ≤ 100))) = some (V.bl (decide ((m : Int) ≤ 100)))
        congr 2
        exact decide_eq_decide.mpr (by omega)
      · intro H1 s1 hD1
        refine ⟨D, x.map fun a => decide (a ≤ 100), rfl, SqL.of hD1, ?_⟩
        have e : (x.length == n && x.all fun a => decide (a ≤ 100)) = (x.map fun a => decide (a ≤ 100)).all id := by
          rw [List.all_map, c, beq_self_eq_true, Bool.true_and]
          rfl
        rw [← e]
        exact k _ s1
    · refine ifF (decide_eq_false (by rw [List.length_map]; intro h; cases h; exact c rfl)) ?_
      have e : (x.length == n && x.all fun a => decide (a ≤ 100)) = false := by
        rw [beq_eq_false_iff_ne.mpr c, Bool.false_and]
      rw [← e]
      exact k _ (Same.refl _)
theorem scIsRange : FnScope ["span"] ["span"] (defScope sIsRange) := ⟨rfl, rfl, rfl, by decide +kernel, rfl, by decide +kernel, by decide +kernel⟩
def okP (p : Nat × Nat) : Bool := decide (p.1 ≤ p.2) && decide (p.2 ≤ 100)
def spIsRange : Sp := fun vs H Q _ => ∃ (t : Addr) (p : Nat × Nat), vs = [.ref t] ∧ PairAt H t p ∧ Q (.bl (okP p)) H
theorem ok_isRange (F : Fun K "is_range" "is_range" sIsRange f fd) (T : TR K mg CR) : FnOk P w K mg base CX0 1 f fd ["span"] spIsRange := by
  refine F.ok scIsRange (fun vs H Q E h => ?_) (fun cdv A outer s H vs Q E hr h => ?_)
  · obtain ⟨t, p, rfl, _⟩ := h
    rfl
  · refine ⟨_, pss_one (ps_ret (pe_chain op_le op_le (pe_ix ix_tup (pv 0) pe_int (fun _ _ => rfl)) (pe_ix ix_tup (pv 0) pe_int (fun _ _ => rfl)) (pe_const T.hiV))), ?_⟩
    obtain ⟨t, p, rfl, ht, k⟩ := h
    refine ⟨_, rfl, t, _, 0, _, rfl, rfl, SqT.of ht, rfl, _, rfl, t, _, 1, _, rfl, rfl, SqT.of ht, rfl, _, _, rfl, rfl, _, rfl, ?_⟩
    by_cases c : p.1 ≤ p.2
    · refine ifT (decide_eq_true (by omega)) ⟨_, _, rfl, rfl, ?_⟩
      have e : okP p = decide ((p.2 : Int) ≤ 100) := by
        unfold okP
        rw [decide_eq_true c, Bool.true_and]
        exact decide_eq_decide.mpr (by omega)
      rw [e] at k
      exact k
    · refine ifF (decide_eq_false (by omega)) ?_
      have e : okP p = false := by
        unfold okP
        rw [decide_eq_false c, Bool.false_and]
      rw [← e]
      exact k
theorem scRangesIn : FnScope ["row", "at"] ["row"] (defScope sRangesIn) := ⟨rfl, rfl, rfl, by decide +kernel, rfl, by decide +kernel, by decide +kernel⟩
def spRangesIn (K : PySem.W.Frag) : Sp := fun vs H Q _ => ∃ (p : Addr) (n c : Nat) (r : List Nat), vs = [.ref p] ∧ SqL K H p (vi (c :: r)) ∧ r.length = 2 * n ∧ n ≤ 3 ∧
  ∀ H' l, Same H H' → H l = none → SpansAt H' l (Wf07.pairs r) → Q (.ref l) H'
theorem rg3 : ∀ n : Nat, n ≤ 3 → RgC 1 ((2 * n + 1 : Nat) : Int) 2 n
  | 0, _ => ⟨by decide, by decide, by decide, by decide⟩
  | 1, _ => ⟨by decide, by decide, by decide, by decide⟩
  | 2, _ => ⟨by decide, by decide, by decide, by decide⟩
  | 3, _ => ⟨by decide, by decide, by decide, by decide⟩
  | _ + 4, h => absurd h (by omega)
theorem vi_at {l : List Nat} {i v : Nat} {z : Int} (h : l[i]? = some v) (e : z = (i : Int)) : atI (vi l) z = some (.int (v : Int)) := by
  rw [e]
  refine atI_nat ?_
  rw [List.getElem?_map, h]
  rfl
theorem ok_rangesIn (F : Fun K "ranges_in" "ranges_in" sRangesIn f fd) (T : TR K mg CR) : FnOk P w K mg base CX0 1 f fd ["row"] (spRangesIn K) := by
  refine F.ok scRangesIn (fun vs H Q E h => ?_) (fun cdv A outer s H vs Q E hr h => ?_)
  · obtain ⟨p, n, c, r, rfl, _⟩ := h
    rfl
  · refine ⟨_, pss_one (ps_ret (pe_lc (own := [("at", 1)]) (g := gName 1) (tt := tYes)
        (te := tTup (tCons (tOp (rIxL K) (tVar 0) (tVar 1)) (tCons (tOp (rIxL K) (tVar 0) (tOp (rI0 fun i j => .int (i + j)) (tVar 1) (tC (.int 1)))) tNil)))
        (by rfl) scRangesIn.nd (pi_range3 (by rfl) T.range (pa_cons pe_int (pa_cons (pe_callB call_len_seq (by rfl) T.len PySem.boot_len (pa_cons (pv 0) pa_nil)) (pa_cons pe_int pa_nil))))
        (blkOk_by (own := [("at", 1)]) (N := ["row", "at"]) (sc := defScope sRangesIn) (by decide +kernel))
        (fun _ _ _ _ _ => by exact pg_name (i := 1) scRangesIn.nd rfl (.inl rfl)) (fun _ _ _ _ _ => pts_nil)
        (fun _ _ _ _ _ => by exact pe_tup (pa_cons (pe_ix ix_list (pv 0) (pv 1) (fun _ _ => rfl)) (pa_cons (pe_ix ix_list (pv 0) (pe_op op_add (pv 1) pe_int) (fun _ _ => rfl)) pa_nil))))), ?_⟩
    obtain ⟨p, n, c, r, rfl, hx, hlen, hn, k⟩ := h
    have hL : (vi (c :: r)).length = 2 * n + 1 := by
      rw [List.length_map, List.length_cons, hlen]
    refine ⟨_, rfl, p, _, rfl, .inl hx, 1, _, 2, n, rfl, (by rw [hL]; exact rg3 n hn), fun D hD => ?_⟩
    refine lc_it walk_rangeC (fun i H' => Same H H' ∧ ∃ ts : List Addr, H' D = some (.lst (ts.map V.ref)) ∧ All2 (PairAt H') ts ((Wf07.pairs r).take i)) ⟨same_new hD, [], upd_same, trivial⟩ (fun _ _ _ _ => trivial) ?_ ?_
    · rintro i v H0 H1 hi ⟨s1, ts, hD1, h2⟩ ⟨rfl, rfl⟩
      have hy1 : 2 * i < r.length := by omega
      have hy2 : 2 * i + 1 < r.length := by omega
      have g1 : r[2 * i]? = some r[2 * i] := List.getElem?_eq_getElem hy1
      have g2 : r[2 * i + 1]? = some r[2 * i + 1] := List.getElem?_eq_getElem hy2
      refine ⟨rfl, _, rfl, _, rfl, p, _, _, _, rfl, rfl, s1.seq hx, vi_at (i := 2 * i + 1) (v := r[2 * i]) (by simpa using g1) (by omega), _, rfl, _, rfl, _, _, rfl, rfl, p, _, _, _, rfl, rfl, s1.seq hx,
        vi_at (i := 2 * i + 1 + 1) (v := r[2 * i + 1]) (by simpa using g2) (by omega), (by show 2 ≤ sizeLine; decide), fun t ht => ?_⟩
      have s2 : Same H1 (upd H1 t (.tup [.int (r[2 * i] : Int), .int (r[2 * i + 1] : Int)])) := same_new ht
      have hDt : D ≠ t := ne_of_none hD1 ht
      refine ⟨_, s2 _ _ hD1, ?_, same_upd (s1.trans s2) hD, ts ++ [t], ?_, ?_⟩
      · rw [List.length_map, h2.len, List.length_take, sizeLine_eq]
        omega
      · rw [upd_same, List.map_append]
        rfl
      · rw [take_more (DM.pairs_get r i _ _ g1 g2)]
        refine All2.snoc (h2.mono fun a b q => ?_) ?_
        · have q' := s2 _ _ q
          exact upd_keep q' (ne_of q' (s2 _ _ hD1) (by intro z; cases z))
        · exact upd_keep upd_same hDt.symm
    · rintro H1 ⟨s1, ts, hD1, h2⟩
      refine k H1 D s1 hD ⟨ts, hD1, ?_⟩
      rw [List.take_of_length_le (by rw [DM.pairs_len r n hlen]; exact Nat.le_refl _)] at h2
      exact h2
theorem scIsRule : FnScope ["row", "width", "span"] ["row", "width"] (defScope sIsRule) := ⟨rfl, rfl, rfl, by decide +kernel, rfl, by decide +kernel, by decide +kernel⟩
def spIsRule (K : PySem.W.Frag) : Sp := fun vs H Q _ => ∃ (p : Addr) (n : Nat) (x : List Nat), vs = [.ref p, .int (n : Int)] ∧ SqL K H p (vi x) ∧ n ≤ 3 ∧
  ∀ H', Same H H' → Q (.bl (Wf07.rule? n x).isSome) H'
theorem rule_iff (n c : Nat) (r : List Nat) : (Wf07.rule? n (c :: r)).isSome = (decide (r.length = 2 * n) && decide (c ≤ 1000) && (Wf07.pairs r).all okP) := by
  unfold Wf07.rule?
  dsimp only
  split
  · rename_i h
    obtain ⟨h1, h2, h3⟩ := h
    rw [decide_eq_true h1, decide_eq_true (show c ≤ 1000 from h2)]
    exact h3.symm
  · rename_i h
    cases e : (decide (r.length = 2 * n) && decide (c ≤ 1000) && (Wf07.pairs r).all okP) with
    | false => rfl
    | true =>
      rw [Bool.and_eq_true, Bool.and_eq_true] at e
      exact absurd ⟨of_decide_eq_true e.1.1, of_decide_eq_true e.1.2, e.2⟩ h
theorem ok_isRule (F : Fun K "is_rule" "is_rule" sIsRule f fd) (T : TR K mg CR) (cR : Fn P w K mg base 1 "ranges_in" ["row"] (spRangesIn K)) (cI : Fn P w K mg base 1 "is_range" ["span"] spIsRange) :
    FnOk P w K mg base CX0 2 f fd ["row", "width"] (spIsRule K) := by
  refine F.ok scIsRule (fun vs H Q E h => ?_) (fun cdv A outer s H vs Q E hr h => ?_)
  · obtain ⟨p, n, x, rfl, _⟩ := h
    rfl
  · refine ⟨_, pss_cons (ps_if (PW.pt (pw_or (pt_cmpR op_ne (pe_callB call_len_seq (by rfl) T.len PySem.boot_len (pa_cons (pv 0) pa_nil)) (pe_op op_add pe_int (pe_op op_mul pe_int (pv 1))) (nomark _))
        (pw_or1 (pt_cmpR op_gt (pe_ix ix_list (pv 0) pe_int (fun _ _ => rfl)) (pe_const T.hiN) (nomark _))))) (pss_one (ps_ret pe_bl)) pss_nil)
      (pss_one (ps_ret (pe_callB (cr_all rfl) (by rfl) T.all (by decide +kernel) (pa_cons
        (pe_lc (own := [("span", 2)]) (g := gName 2) (tt := tYes) (te := tCall spIsRange [] E0 (tCons (tVar 2) tNil))
          (by rfl) scIsRule.nd (pi_list (pe_fn cR hr (pa_cons (pv 0) pa_nil))) (blkOk_by (own := [("span", 2)]) (N := ["row", "width", "span"]) (sc := defScope sIsRule) (by decide +kernel))
          (fun _ _ _ _ _ => by exact pg_name (i := 2) scIsRule.nd rfl (.inl rfl)) (fun _ _ _ _ _ => pts_nil)
          (fun _ _ _ _ _ => by exact pe_fn cI hr (pa_cons (pv 2) pa_nil))) pa_nil)))), ?_⟩
    obtain ⟨p, n, x, rfl, hx, hn, k⟩ := h
    refine ⟨_, rfl, p, _, rfl, .inl hx, _, rfl, _, _, rfl, rfl, .inl ⟨by decide, by decide⟩, _, _, rfl, rfl, rfl, _, rfl, ?_⟩
    by_cases c : x.length = 1 + 2 * n
    · obtain ⟨h0, r, rfl⟩ : ∃ h0 r, x = h0 :: r := by
        cases x with
        | nil => simp at c; omega
        | cons a b => exact ⟨a, b, rfl⟩
      have hl : r.length = 2 * n := by
        rw [List.length_cons] at c
        omega
      refine ifF (by rw [List.length_map, c]; simp) ?_
      refine ⟨_, rfl, p, _, 0, _, rfl, rfl, hx, vi_at (i := 0) (v := h0) rfl rfl, _, _, rfl, rfl, _, rfl, ?_⟩
      by_cases c2 : h0 ≤ 1000
      · refine ifF (decide_eq_false (by omega)) ?_
        refine ⟨_, rfl, p, n, h0, r, rfl, hx, hl, hn, fun H1 l s1 nl ⟨ts, hL, h2⟩ => ⟨l, rfl, ⟨_, SqL.of hL⟩, fun D hD => ?_⟩⟩
        refine lc_pure walk_list (((Wf07.pairs r).map okP).map V.bl) (by simp [h2.len]) (by rw [List.length_map, h2.len, DM.pairs_len r n hl, sizeLine_eq]; omega) hD (fun H' s2 => s2.seq (SqL.of hL)) ?_ ?_
        · rintro i v H0 H2 hi s2 ⟨rfl, hv⟩ Nx hNx
          obtain ⟨t, ht, rfl⟩ := refs_get hv
          obtain ⟨q, hq, hp⟩ := h2.get' ht
          refine ⟨rfl, _, rfl, t, q, rfl, s2 _ _ hp, hNx _ _ (Same.refl _) ?_⟩
          rw [List.getElem?_map, List.getElem?_map, hq]
          rfl
        · intro H2 s2 hD2
          refine ⟨D, (Wf07.pairs r).map okP, rfl, SqL.of hD2, ?_⟩
          have e : (Wf07.rule? n (h0 :: r)).isSome = ((Wf07.pairs r).map okP).all id := by
            rw [rule_iff, decide_eq_true hl, decide_eq_true c2, List.all_map]
            rfl
          rw [← e]
          exact k _ (s1.trans s2)
      · refine ifT (decide_eq_true (by omega)) ?_
        have e : (Wf07.rule? n (h0 :: r)).isSome = false := by
          rw [rule_iff, decide_eq_false c2, Bool.and_false, Bool.false_and]
        have k' := k H (Same.refl _)
        rw [e] at k'
        exact k'
    · refine ifT ?_ ?_
      · rw [List.length_map]
        rw [decide_eq_false]
        · rfl
        · intro h
          have h := V.int.inj h
          omega
      · have e : (Wf07.rule? n x).isSome = false := by
          cases x with
          | nil => rfl
          | cons a r =>
            rw [rule_iff, decide_eq_false (by rw [List.length_cons] at c; omega), Bool.false_and, Bool.false_and]
        have k' := k H (Same.refl _)
        rw [e] at k'
        exact k'
theorem scRInit : FnScope ["self", "says", "ranges"] ["self", "says", "ranges"] (defScope sRInit) := ⟨rfl, rfl, rfl, by decide +kernel, rfl, by decide +kernel, by decide +kernel⟩
theorem ok_rInit (F : Fun K "__init__" "Rule.__init__" sRInit f fd) (T : TR K mg CR) : FnOk P w K mg base CX0 1 f fd ["self", "says", "ranges"] (spRInit CR) := by
  refine F.ok scRInit (fun vs H Q E h => ?_) (fun cdv A outer s H vs Q E hr h => ?_)
  · obtain ⟨p, dx, l, n, r, rfl, _⟩ := h
    rfl
  · refine ⟨_, pss_cons (ps_fld (pv 0) (pv 1) rfl) (pss_one (ps_fld (pv 0) (pv 2) rfl)), ?_⟩
    obtain ⟨p, dx, l, n, r, rfl, hp, k⟩ := h
    refine ⟨_, rfl, _, rfl, p, CR, dx, [], rfl, hp, T.cl, T.nSays, (by show 0 < 1000; decide), ?_⟩
    refine ⟨_, rfl, _, rfl, p, CR, dx, _, rfl, upd_same, T.cl, T.nRanges, (by show 1 < 1000; decide), ?_⟩
    exact k _ (Eq.trans upd_same (congrArg (fun q => some (HO.ins CR dx q)) ((put_past (by decide +kernel)).trans rfl))) fun b o e hb => by
      rw [upd_ne hb, upd_ne hb]
      exact e
theorem scRuleFrom : FnScope ["row"] ["row"] (defScope sRuleFrom) := ⟨rfl, rfl, rfl, by decide +kernel, rfl, by decide +kernel, by decide +kernel⟩
def spRuleFrom (K : PySem.W.Frag) (CR : Addr) : Sp := fun vs H Q _ => ∃ (p : Addr) (n : Nat) (x : List Nat) (r : Wf07.Rule), vs = [.ref p] ∧ SqL K H p (vi x) ∧ n ≤ 3 ∧ Wf07.rule? n x = some r ∧
  ∀ H' a dx l, Same H H' → H a = none → H l = none → H' a = some (.ins CR dx (ruleF r l)) → SpansAt H' l r.ranges → Q (.ref a) H'
theorem rule_some {n c : Nat} {r : List Nat} {q : Wf07.Rule} (h : Wf07.rule? n (c :: r) = some q) : r.length = 2 * n ∧ q = ⟨Wf07.pairs r, c⟩ ∧ DM.Good n q := by
  unfold Wf07.rule? at h
  dsimp only at h
  split at h
  · rename_i hc
    cases h
    refine ⟨hc.1, rfl, DM.pairs_len r n hc.1, fun p hp => ?_, hc.2.1⟩
    have := List.all_eq_true.mp hc.2.2 p hp
    rw [Bool.and_eq_true] at this
    exact ⟨of_decide_eq_true this.1, of_decide_eq_true this.2⟩
  · cases h
theorem ok_ruleFrom (F : Fun K "rule_from" "rule_from" sRuleFrom f fd) (cR : Fn P w K mg base 1 "ranges_in" ["row"] (spRangesIn K)) (cM : Ma P w K mg base 1 "Rule" CR ["self", "says", "ranges"] (spRInit CR)) :
    FnOk P w K mg base CX0 3 f fd ["row"] (spRuleFrom K CR) := by
  refine F.ok scRuleFrom (fun vs H Q E h => ?_) (fun cdv A outer s H vs Q E hr h => ?_)
  · obtain ⟨p, n, x, r, rfl, _⟩ := h
    rfl
  · refine ⟨_, pss_one (ps_ret (pe_ma cM hr (pa_cons (pe_ix ix_list (pv 0) pe_int (fun _ _ => rfl)) (pa_cons (pe_fn cR (hr.mono (by decide)) (pa_cons (pv 0) pa_nil)) pa_nil)))), ?_⟩
    obtain ⟨p, n, x, q, rfl, hx, hn, hq, k⟩ := h
    obtain ⟨c, r, rfl⟩ : ∃ c r, x = c :: r := by
      cases x with
      | nil => cases hq
      | cons a b => exact ⟨a, b, rfl⟩
    obtain ⟨hl, rfl, hg⟩ := rule_some hq
    refine ⟨_, rfl, p, _, 0, _, rfl, rfl, hx, vi_at (i := 0) (v := c) rfl rfl, _, rfl, p, n, c, r, rfl, hx, hl, hn, fun H1 l s1 nl hL => ?_⟩
    intro a dx na nd ne
    refine ⟨a, dx, l, 0, ⟨Wf07.pairs r, c⟩, rfl, upd_same, fun H2 ha kp => ⟨rfl, ?_⟩⟩
    have s2 : Same H1 H2 := Same.made na nd kp
    exact k H2 a dx l (s1.trans s2) (s1.free na) nl ha (hL.same s2)
end
end DC

set_option Elab.async false
set_option linter.all false
set_option maxRecDepth 100000
set_option maxHeartbeats 4000000
/-! set(xs) of a list of whole numbers, and sorted(set(xs)) -/
namespace DC
open PySem PySem.Spec PyProof.Rows L2
/-- a new set -/
abbrev nS (w : World) : Obj := { cls := .type "set", dict := none, data := .set #[] 0 (.fresh 0 0 (!w.params.followText "set-order")) }
section
variable {P : Program} {w : World} {A : Around} {E : Value → Shared → Prop} {s : Shared}
theorem set_of_list {l : Addr} {its : Array Value} (ns : List Int) {Q : Value → Shared → Prop} (calm : A.handled = none) (isL : s.heap.IsList l its) (isI : IntsAre its.toList ns) (room : ns.length + 1 < scanBound)
    (go : ∀ (h' : Heap) (tk c : Nat), SetR w h' s.heap.objs.size (fun j => decide (j ∈ ns)) c → c ≤ ns.length → (∀ b o, s.heap.get? b = some o → h'.get? b = some o) → Q (.ref s.heap.objs.size) { s with heap := h', toks := tk }) :
    wpAny (model P w) A (call (.type "set") [.ref l]) Q E s := by
  have sz : its.size = ns.length := by rw [← Array.length_toList]; exact IntsAre.length isI
  obtain ⟨c0, t0, mr⟩ := F.called_set.mro
  have f1 := F.called_set.made
  have f2 := F.called_set.sub
  refine wpAny_call (codeAny_of_tree ?_); show wpAny _ _ (callAny (.type "set") _) _ _ _
  refine wpAny_pure ⟨Code.quiet_builtin _ (by decide +kernel), codeAny_builtin F.entry_type_call ?_⟩; rw [Around.under_plain (weight_type_call_type "set" [.ref l] []) rfl]
  have f3 := F.called_set.notType
  have f4 := F.called_set.canCreate
  have f5 := F.typeCall_set_1 (.ref l); repeat (any_goals (first | assumption | wp_step))
  refine codeAny_mono (code_set_led1 (.ref l) (E := E) (Q₁ := fun ob s1 => ob = .ref s.heap.objs.size ∧ s1 = { s with heap := s.heap.push (nS w) }) ⟨rfl, rfl⟩) fun r s1 hr => ?_
  cases r with
  | error e => exact hr
  | ok fl =>
    cases fl with
    | ret ob =>
      obtain ⟨rfl, rfl⟩ := hr
      have g0 : (s.heap.push (nS w)).get? s.heap.objs.size = some (nS w) := Heap.get?_push_size _ rfl
      have ty : Shared.TypeIs { s with heap := s.heap.push (nS w) } (.ref s.heap.objs.size) "set" := ⟨_, g0, rfl⟩
      have f6 := F.called_set.init.lookup
      have f7 := F.called_set.init.bind (.ref s.heap.objs.size); repeat (any_goals (first | assumption | wp_step))
      refine codeAny_mono (codeAny_call_builtin (R := wants (fun r s2 => r = .none ∧ ∃ h' tk c, s2 = { s with heap := h', toks := tk } ∧ SetR w h' s.heap.objs.size (fun j => decide (j ∈ ns)) c ∧ c ≤ ns.length ∧ (∀ b o, s.heap.get? b = some o → h'.get? b = some o)) E)
        F.called_set.init.plain F.entry_set_init (check_set_init_1 ty ?_)) fun r2 s2 hr2 => ?_
      · obtain ⟨ol, e1, e2, nl, e3⟩ := isL
        obtain ⟨oc, od, oda, osl⟩ := ol
        simp only at e2 e3
        subst e2 e3
        have e4 : (s.heap.push (nS w)).get? l = some { cls := .type "list", dict := od, data := .seq its nl, slots := osl } := Heap.get?_push_of_some _ e1
        have f8 := F.sub_list_set
        have f9 := F.sub_list_frozenset
        have f10 : (Value.type "list" == Value.type "dict") = false := by decide
        have l1 : (s.heap.push (nS w)).IsList l its := ⟨_, e4, rfl, nl, rfl⟩
        unfold Builtin.«set.__init__» noKeywords Builtin.Frozenset.updateFrom
        generalize hPI : pyIter = PI
        wp_walk
        subst hPI
        refine wpAny_pyIter_list l1 (wpAny_bind (wpAny_runValue ?_))
        have ll : l < s.heap.objs.size := Heap.lt_size e1
        have calm3 : A.in1.in1.in1.handled = none := by simp [calm]
        have ne1 : l ≠ (s.heap.push (nS w)).objs.size := by
          rw [Heap.size_push]
          exact Nat.ne_of_lt (Nat.lt_succ_of_lt ll)
        have ne2 : s.heap.objs.size ∉ [(s.heap.push (nS w)).objs.size, l] := by
          rw [Heap.size_push]
          intro z
          rcases List.mem_cons.mp z with z | z
          · exact Nat.ne_of_lt (Nat.lt_succ_self _) z
          · exact Nat.ne_of_gt ll (List.mem_singleton.mp z)
        have vals : ∀ (i : Nat) (v : Value), its[i]? = some v → ∃ k t, ns[i]? = some k ∧ v = .int k t := fun i v hv => by
          have hi : i < ns.length := by rw [← sz]; exact (Array.getElem?_eq_some_iff.mp hv).1
          obtain ⟨t, e⟩ := PyProof.Rows.IntsAre.int_at isI i v (by rw [Array.getElem?_toList]; exact hv)
          refine ⟨ns[i], t, List.getElem?_eq_getElem hi, ?_⟩
          rw [e, List.getD_eq_getElem?_getD, List.getElem?_eq_getElem hi] <;> rfl
        refine set_update_ints ((Walks.list calm3 _ l ne1 its).toS) s.heap.objs.size ne2 ns sz room vals (its.size - 0) 0 _ (by omega) (Nat.zero_le _) ⟨⟨_, Heap.get?_push_size _ rfl, rfl, rfl⟩, (l1.push _)⟩ ?mA ?mB
        case mA => exact ⟨0, Nat.le_refl 0, setR_new_at (Heap.get?_push_of_some _ g0)⟩
        case mB =>
          intro s' c' hm hc' hS'
          obtain ⟨h', g2, d', tk', os'⟩ := s'
          have eg : g2 = s.gens := hm.gens
          have ed : d' = s.drawn := hm.drawn
          have eo : os' = s.os := hm.os
          subst eg ed eo
          show wpAny _ _ _ _ _ _
          refine wpAny_pure ?_
          show wpAny _ _ (ret Value.none) _ _ _
          rw [sz] at hc'
          refine wpAny_pure ⟨rfl, h', tk', c', rfl, hS', hc', fun b o e => ?_⟩
          have hb0 : b < s.heap.objs.size := Heap.lt_size e
          refine hm.heap b o (fun z => ?_) (Heap.get?_push_of_some _ (Heap.get?_push_of_some _ e))
          rw [Heap.size_push] at z
          rcases List.mem_cons.mp z with z | z
          · exact Nat.ne_of_lt hb0 z
          · exact Nat.ne_of_lt (Nat.lt_succ_of_lt hb0) (List.mem_singleton.mp z)
      · cases r2 with
        | error e => exact hr2
        | ok fl2 =>
          cases fl2 with
          | ret r =>
            obtain ⟨rfl, h', tk, c', rfl, hS', hc', hk'⟩ := hr2; repeat (any_goals (first | assumption | wp_step))
            exact go _ _ _ hS' hc' hk'
          | _ => exact hr2.elim
    | _ => exact hr.elim
end
section
variable {X : Cx}
/-- set(xs), xs a list of whole numbers -/
def rSetL (w : World) (K : PySem.W.Frag) : List V → Hp → VK → Prop := fun xs H Q => ∃ (l : Addr) (ns : List Int), xs = [V.ref l] ∧ SqL K H l (ns.map V.int) ∧ ns.length ≤ 1000 ∧
  ∀ p c, H p = none → c ≤ ns.length → Q (.ref p) (upd H p (SetO w p (fun j => decide (j ∈ ns)) c))
theorem cr_setL (hc : X.calm = true) : CallR X (.type "set") (rSetL X.w X.K) := by
  intro pins s σ H xs us Q I r h
  obtain ⟨l, ns, rfl, hq, hn, q⟩ := h
  rw [Vals.ref1 r]
  obtain ⟨its, rv, pl, hz⟩ := I.list hq
  refine set_of_list ns (I.ok.hd hc) pl.isList (by simpa using ints_of_vals rv) (by unfold scanBound; omega) fun h' tk c hS hc' hk => ?_
  exact ⟨.ref _, upd H s.heap.objs.size (SetO X.w s.heap.objs.size (fun j => decide (j ∈ ns)) c), I.laid (t' := tk) hk (Nat.le_refl _) (setO_new hS), rfl, q _ c (I.hok.fresh (Nat.le_refl _)) hc'⟩
end
end DC

set_option Elab.async false
set_option linter.all false
set_option maxRecDepth 100000
set_option maxHeartbeats 2000000
namespace DC
open PySem PySem.Spec PyProof.Rows L2
abbrev sSpans : Stmt := top 18
abbrev sCells : Stmt := top 19
abbrev sLengthened : Stmt := top 20
abbrev sFirstPoint : Stmt := top 21
abbrev sSize : Stmt := top 22
abbrev sNearPt : Stmt := top 23
abbrev sDist : Stmt := top 24
/-- what the top has of cells.py -/
structure TC (K : PySem.W.Frag) (mg : Str → Option Value) : Prop where
  sorted : mg "sorted" = none
  set : mg "set" = none
/-- a list of rules -/
def RulesAt (K : PySem.W.Frag) (CR : Addr) (H : Hp) (l : Addr) (rs : List Wf07.Rule) : Prop := ∃ as : List Addr, SqL K H l (as.map V.ref) ∧ All2 (RuleAt CR H) as rs
theorem RulesAt.same {K : PySem.W.Frag} {CR : Addr} {H H' : Hp} {l : Addr} {rs : List Wf07.Rule} (s : Same H H') : RulesAt K CR H l rs → RulesAt K CR H' l rs := fun ⟨as, h, a⟩ => ⟨as, s.seq h, a.mono fun _ _ q => q.same s⟩
section
variable {P : Program} {w : World} {K : PySem.W.Frag} {mg : Str → Option Value} {base : Heap} {CR : Addr} {f : Addr} {fd : FuncData}
abbrev nSpans : List Str := ["rules", "place", "starts", "rule", "k"]
theorem scSpans : FnScope nSpans ["rules", "place"] (defScope sSpans) := ⟨rfl, rfl, rfl, by decide +kernel, rfl, by decide +kernel, by decide +kernel⟩
def spSpans (K : PySem.W.Frag) (CR : Addr) : Sp := fun vs H Q _ => ∃ (l : Addr) (i n : Nat) (rs : List Wf07.Rule), vs = [.ref l, .int (i : Int)] ∧ RulesAt K CR H l rs ∧ i < n ∧ (∀ r ∈ rs, DM.Good n r) ∧ rs.length ≤ 12 ∧
  ∀ H' p, Same H H' → H p = none → SpansAt H' p (DM.spansOf rs i) → Q (.ref p) H'
theorem ok_spans (F : Fun K "spans" "spans" sSpans f fd) (T : TR K mg CR) (TC : TC K mg) : FnOk P w K mg base CX0 1 f fd ["rules", "place"] (spSpans K CR) := by
  refine F.ok scSpans (fun vs H Q E h => ?_) (fun cdv A outer s H vs Q E hr h => ?_)
  · obtain ⟨l, i, n, rs, rfl, _⟩ := h
    rfl
  · refine ⟨_, pss_cons (ps_set (i := 2) scSpans.nd rfl (Or.inr rfl) (pe_lst (pa_cons pe_int (pa_cons (pe_op op_add (pe_const T.hiV) pe_int) pa_nil))))
      (pss_cons (ps_for PassesOwn.never rfl (pi_list (pv 0)) (pg_name (i := 3) scSpans.nd rfl (Or.inl rfl))
        (pss_cons (ps_expr (pe_bm PySem.F.plainAttrs_list PySem.F.slot_list_append PySem.F.type_list_append mt_append (pv 2) (pa_cons (pe_ix ix_tup (pe_ix ix_list (pe_fld (pv 3) rfl) (pv 1) (fun _ _ => rfl)) pe_int (fun _ _ => rfl)) pa_nil)))
          (pss_one (ps_expr (pe_bm PySem.F.plainAttrs_list PySem.F.slot_list_append PySem.F.type_list_append mt_append (pv 2) (pa_cons (pe_op op_add (pe_ix ix_tup (pe_ix ix_list (pe_fld (pv 3) rfl) (pv 1) (fun _ _ => rfl)) pe_int (fun _ _ => rfl)) pe_int) pa_nil))))))
      (pss_cons (ps_set (i := 2) scSpans.nd rfl (Or.inr rfl) (pe_callB (r := rSortedSet w) (cr_sortedSet rfl) (by rfl) TC.sorted (by decide +kernel) (pa_cons (pe_callTy (r := rSetL w K) (cr_setL rfl) (by rfl) TC.set (by decide +kernel) (pa_cons (pv 2) pa_nil)) pa_nil)))
      (pss_one (ps_ret (pe_lc (own := [("k", 4)]) (g := gName 4) (tt := tYes)
        (te := tTup (tCons (tOp (rIxL K) (tVar 2) (tVar 4)) (tCons (tOp (rI0 fun i j => .int (i - j)) (tOp (rIxL K) (tVar 2) (tOp (rI0 fun i j => .int (i + j)) (tVar 4) (tC (.int 1)))) (tC (.int 1))) tNil)))
        (by rfl) scSpans.nd (pi_range1 (by rfl) T.range (pa_cons (pe_op op_sub (pe_callB call_len_seq (by rfl) T.len PySem.boot_len (pa_cons (pv 2) pa_nil)) pe_int) pa_nil))
        (blkOk_by (own := [("k", 4)]) (N := nSpans) (sc := defScope sSpans) (by decide +kernel))
        (fun _ _ _ _ _ => by exact pg_name (i := 4) scSpans.nd rfl (.inl rfl)) (fun _ _ _ _ _ => pts_nil)
        (fun _ _ _ _ _ => by exact pe_tup (pa_cons (pe_ix ix_list (pv 2) (pv 4) (fun _ _ => rfl)) (pa_cons (pe_op op_sub (pe_ix ix_list (pv 2) (pe_op op_add (pv 4) pe_int) (fun _ _ => rfl)) pe_int) pa_nil)))))))), ?_⟩
    obtain ⟨l, i, n, rs, rfl, ⟨as, hl, h2⟩, hi, hg, hrs, k⟩ := h
    -- starts = [0, HIGHEST_VALUE + 1]
    refine ⟨_, _, rfl, rfl, (by show 2 ≤ sizeLine; decide), fun S hS => ?_⟩
    have s0 : Same H (upd H S (.lst [V.int 0, V.int (100 + 1)])) := same_new hS
    refine ⟨_, rfl, l, rfl, ⟨_, s0.seq hl⟩, for_it (walk_list (xs := as.map V.ref)) (fun j σ H' => ∃ v : Option V, σ = [some (.ref l), some (.int (i : Int)), some (.ref S), v, none] ∧ Same H H' ∧ H' S = some (.lst (vi ([0, 101] ++ (rs.take j).flatMap (DM.twoOf i)))))
      ⟨none, rfl, s0, upd_same⟩ (fun j σ H' _ ⟨_, _, s1, _⟩ => s1.seq hl) ?_ ?_⟩
    · rintro j x σ H0 H1 hj ⟨v, rfl, s1, hS1⟩ ⟨rfl, hx⟩
      obtain ⟨a, ha, rfl⟩ := refs_get hx
      obtain ⟨r, hr', dx, lr, hins, ts, hlr, h3⟩ := h2.get' ha
      have g := hg r (List.mem_of_getElem? hr')
      have hp : r.ranges[i]? = some (r.ranges[i]'(by rw [g.len]; exact hi)) := List.getElem?_eq_getElem _
      generalize r.ranges[i]'(by rw [g.len]; exact hi) = q at hp
      obtain ⟨t, ht, hq⟩ := h3.get hp
      have hti : atI (ts.map V.ref) (i : Int) = some (.ref t) := atI_nat (by rw [List.getElem?_map, ht]; rfl)
      have hbig : ([0, 101] ++ (rs.take j).flatMap (DM.twoOf i)).length ≤ 26 := by
        have := DM.two_len (i := i) (rs := rs.take j)
        rw [List.length_take] at this
        rw [List.length_append]
        simp only [List.length_cons, List.length_nil]
        omega
      refine ⟨_, rfl, .inl ⟨rfl, _, SqL.of hS1⟩, _, rfl, a, CR, dx, _, _, rfl, s1 _ _ hins, T.cl, T.nRanges, ruleF_ranges r lr, _, rfl, lr, _, _, _, rfl, rfl, SqL.of (s1 _ _ hlr), hti, t, _, 0, _, rfl, rfl, SqT.of (s1 _ _ hq), rfl, ?_⟩
      refine ⟨S, _, _, rfl, rfl, hS1, (by rw [List.length_map, sizeLine_eq]; omega), ?_⟩
      have s2 : Same H (upd H1 S (.lst (vi ([0, 101] ++ (rs.take j).flatMap (DM.twoOf i)) ++ [V.int (q.1 : Int)]))) := same_upd s1 hS
      refine ⟨_, rfl, .inl ⟨rfl, _, SqL.of upd_same⟩, _, rfl, a, CR, dx, _, _, rfl, s2 _ _ hins, T.cl, T.nRanges, ruleF_ranges r lr, _, rfl, lr, _, _, _, rfl, rfl, SqL.of (s2 _ _ hlr), hti, t, _, 1, _, rfl, rfl, SqT.of (s2 _ _ hq), rfl, _, _, rfl, rfl, ?_⟩
      refine ⟨S, _, _, rfl, rfl, upd_same, (by rw [List.length_append, List.length_map, sizeLine_eq]; simp only [List.length_cons, List.length_nil]; omega), ?_⟩
      refine ⟨some (.ref a), rfl, same_upd s2 hS, ?_⟩
      rw [upd_same, take_more hr', List.flatMap_append, ← List.append_assoc]
      show _ = some (HO.lst (vi (([0, 101] ++ (rs.take j).flatMap (DM.twoOf i)) ++ (DM.twoOf i r ++ []))))
      rw [DM.twoOf_some hp, List.append_nil]
      simp [vi, List.map_append]
    · rintro σ H1 ⟨v, rfl, s1, hS1⟩
      have hlen : rs.take (as.map V.ref).length = rs := List.take_of_length_le (by rw [List.length_map, h2.len]; exact Nat.le_refl _)
      rw [hlen] at hS1
      have hS2 : H1 S = some (.lst (((DM.starts rs i).map fun (n : Nat) => (n : Int)).map V.int)) := by
        rw [hS1, vi_ints]
        rfl
      have hsl := DM.starts_len (i := i) (rs := rs)
      -- starts = sorted(set(starts))
      refine ⟨_, rfl, S, (DM.starts rs i).map fun (n : Nat) => (n : Int), rfl, SqL.of hS2, (by rw [List.length_map]; omega), fun p c np hc => ?_⟩
      refine ⟨p, _, c, rfl, upd_same, (by rw [List.length_map] at hc; omega), fun ns q rising mem hcl nq => ?_⟩
      obtain ⟨ms, rfl, hms, hmem⟩ := DM.nats_of (S := DM.starts rs i) ns rising fun k => by
        rw [mem k]
        exact decide_eq_true_iff
      rw [← vi_ints]
      have s2 : Same H1 (upd (upd H1 p (SetO w p (fun j => decide (j ∈ (DM.starts rs i).map fun (n : Nat) => (n : Int))) c)) q (.lst (vi ms))) := (same_new np).trans (same_new nq)
      have hq2 : (upd (upd H1 p (SetO w p (fun j => decide (j ∈ (DM.starts rs i).map fun (n : Nat) => (n : Int))) c)) q (.lst (vi ms))) q = some (.lst (vi ms)) := upd_same
      generalize upd (upd H1 p (SetO w p (fun j => decide (j ∈ (DM.starts rs i).map fun (n : Nat) => (n : Int))) c)) q (.lst (vi ms)) = H2 at s2 hq2 ⊢
      have hspan := DM.adj_spans hg hms hmem
      have e := DM.edges_is hg hms hmem
      have hpos : 1 ≤ ms.length := by
        rw [e, List.length_append]
        simp
      have hle : ms.length ≤ 26 := by
        rw [List.length_map] at hcl hc
        omega
      have hL : (vi ms).length = ms.length := List.length_map _
      -- return [(starts[k], starts[k + 1] - 1) for k in range(len(starts) - 1)]
      refine ⟨_, rfl, q, _, rfl, .inl (SqL.of hq2), _, _, rfl, rfl, _, rfl, (by rw [hL]; omega), (by rw [hL]; omega), fun D hD => ?_⟩
      have en : (((vi ms).length : Int) - 1).toNat = ms.length - 1 := by
        rw [hL]
        omega
      rw [en]
      refine lc_it walk_range (fun j H' => Same H2 H' ∧ ∃ ts : List Addr, H' D = some (.lst (ts.map V.ref)) ∧ All2 (PairAt H') ts ((DM.adj ms).take j)) ⟨same_new hD, [], upd_same, trivial⟩ (fun _ _ _ _ => trivial) ?_ ?_
      · rintro j v H0 H3 hj ⟨s3, ts, hD3, h4⟩ ⟨rfl, rfl⟩
        have g1 : ms[j]? = some ms[j] := List.getElem?_eq_getElem _
        have g2 : ms[j + 1]? = some ms[j + 1] := List.getElem?_eq_getElem _
        have lt : ms[j] < ms[j + 1] := List.pairwise_iff_getElem.mp hms j (j + 1) _ _ (by omega)
        have hsq := s3.seq (K := K) (SqL.of hq2)
        refine ⟨rfl, _, rfl, _, rfl, q, _, _, _, rfl, rfl, hsq, vi_at g1 (by omega), _, rfl, _, rfl, _, _, rfl, rfl, q, _, _, _, rfl, rfl, hsq, vi_at g2 (by omega), _, _, rfl, rfl, (by show 2 ≤ sizeLine; decide), fun t ht => ?_⟩
        have s4 : Same H3 (upd H3 t (.tup [.int (ms[j] : Int), .int ((ms[j + 1] : Int) - 1)])) := same_new ht
        have hDt : D ≠ t := ne_of_none hD3 ht
        refine ⟨_, s4 _ _ hD3, ?_, same_upd (s3.trans s4) hD, ts ++ [t], ?_, ?_⟩
        · rw [List.length_map, h4.len, List.length_take, sizeLine_eq]
          omega
        · rw [upd_same, List.map_append]
          rfl
        · rw [take_more (DM.adj_get ms j _ _ g1 g2)]
          refine All2.snoc (h4.mono fun a b q => ?_) ?_
          · have q' := s4 _ _ q
            exact upd_keep q' (ne_of q' (s4 _ _ hD3) (by intro z; cases z))
          · have e1 : ((ms[j + 1] : Int) - 1) = ((ms[j + 1] - 1 : Nat) : Int) := by omega
            exact (upd_keep upd_same hDt.symm : _ = some (HO.tup [V.int (ms[j] : Int), V.int ((ms[j + 1] : Int) - 1)])).trans (by rw [e1])
      · rintro H3 ⟨s3, ts, hD3, h4⟩
        refine k H3 D ((s1.trans s2).trans s3) ((s1.trans s2).free hD) ⟨ts, hD3, ?_⟩
        rw [List.take_of_length_le (by rw [DM.adj_length]; exact Nat.le_refl _), hspan] at h4
        exact h4

/-! ### lengthened, cells -/
/-- a list of cells -/
def CellsAt (H : Hp) (l : Addr) (cs : List (List (Nat × Nat))) : Prop := ∃ as : List Addr, H l = some (.lst (as.map V.ref)) ∧ All2 (SpansAt H) as cs
theorem CellsAt.same {H H' : Hp} {l : Addr} {cs : List (List (Nat × Nat))} (s : Same H H') : CellsAt H l cs → CellsAt H' l cs := fun ⟨as, h, a⟩ => ⟨as, s _ _ h, a.mono fun _ _ q => q.same s⟩
abbrev nLen : List Str := ["shorter", "ranges", "longer", "cell", "span"]
theorem scLen : FnScope nLen ["shorter", "ranges"] (defScope sLengthened) := ⟨rfl, rfl, rfl, by decide +kernel, rfl, by decide +kernel, by decide +kernel⟩
def spLen : Sp := fun vs H Q _ => ∃ (l m : Addr) (cs : List (List (Nat × Nat))) (ss : List (Nat × Nat)), vs = [.ref l, .ref m] ∧ CellsAt H l cs ∧ SpansAt H m ss ∧ cs.length * ss.length ≤ 100000 ∧ (∀ c ∈ cs, c.length ≤ 1000) ∧
  ∀ H' p, Same H H' → H p = none → CellsAt H' p (DM.longer cs ss) → Q (.ref p) H'
/-- spans that stand apart from a list that grows -/
def Apart (D : Addr) (H : Hp) (a : Addr) (ps : List (Nat × Nat)) : Prop := a ≠ D ∧ SpansAt H a ps
theorem Apart.upd {D : Addr} {H : Hp} {a : Addr} {ps : List (Nat × Nat)} {xs ys : List V} (hD : H D = some (.lst xs)) (h : Apart D H a ps) : Apart D (upd H D (.lst ys)) a ps := by
  obtain ⟨n, ts, h1, h2⟩ := h
  exact ⟨n, ts, upd_keep h1 n, h2.mono fun t p q => upd_keep q (ne_of q hD (by intro z; cases z))⟩
theorem Apart.same {D : Addr} {H H' : Hp} {a : Addr} {ps : List (Nat × Nat)} (s : Same H H') (h : Apart D H a ps) : Apart D H' a ps := ⟨h.1, h.2.same s⟩
theorem longer_take {cs : List (List (Nat × Nat))} {ss : List (Nat × Nat)} {i : Nat} {c : List (Nat × Nat)} (h : cs[i]? = some c) : DM.longer (cs.take (i + 1)) ss = DM.longer (cs.take i) ss ++ ss.map fun s => c ++ [s] := by
  unfold DM.longer
  rw [take_more h, List.flatMap_append]
  simp
theorem ok_len (F : Fun K "lengthened" "lengthened" sLengthened f fd) : FnOk P w K mg base CX0 1 f fd ["shorter", "ranges"] spLen := by
  refine F.ok scLen (fun vs H Q E h => ?_) (fun cdv A outer s H vs Q E hr h => ?_)
  · obtain ⟨l, m, cs, ss, rfl, _⟩ := h
    rfl
  · refine ⟨_, pss_cons (ps_set (i := 2) scLen.nd rfl (Or.inl rfl) (pe_lst pa_nil))
      (pss_cons (ps_for PassesOwn.never rfl (pi_list (pv 0)) (pg_name (i := 3) scLen.nd rfl (Or.inr rfl))
        (pss_one (ps_expr (pe_bm PySem.F.plainAttrs_list PySem.F.slot_list_extend PySem.F.type_list_extend mt_extend (pv 2) (pa_cons
          (pe_lc (own := [("span", 4)]) (g := gName 4) (tt := tYes) (te := tOp rCat (tVar 3) (tLst (tCons (tVar 4) tNil)))
            (by rfl) scLen.nd (pi_list (pv 1)) (blkOk_by (own := [("span", 4)]) (N := nLen) (sc := defScope sLengthened) (by decide +kernel))
            (fun _ _ _ _ _ => by exact pg_name (i := 4) scLen.nd rfl (.inl rfl)) (fun _ _ _ _ _ => pts_nil)
            (fun _ _ _ _ _ => by exact pe_op op_cat (pv 3) (pe_lst (pa_cons (pv 4) pa_nil)))) pa_nil)))))
      (pss_one (ps_ret (pv 2)))), ?_⟩
    obtain ⟨l, m, cs, ss, rfl, ⟨as0, hl, h2⟩, ⟨ts0, hm, h3⟩, hbig, hcl, k⟩ := h
    refine ⟨(by decide), fun L nL => ?_⟩
    have s0 : Same H (upd H L (.lst [])) := same_new nL
    refine ⟨_, rfl, l, rfl, ⟨_, SqL.of (s0 _ _ hl)⟩, for_it (walk_list (xs := as0.map V.ref)) (fun i σ H' => ∃ v : Option V, σ = [some (.ref l), some (.ref m), some (.ref L), v, none] ∧ Same H H' ∧
      ∃ as : List Addr, H' L = some (.lst (as.map V.ref)) ∧ All2 (Apart L H') as (DM.longer (cs.take i) ss)) ⟨none, rfl, s0, [], upd_same, trivial⟩ (fun i σ H' _ ⟨_, _, s1, _⟩ => SqL.of (s1 _ _ hl)) ?_ ?_⟩
    · rintro i x σ H0 H1 hi ⟨v, rfl, s1, as, hL1, h4⟩ ⟨rfl, hx⟩
      obtain ⟨a, ha, rfl⟩ := refs_get hx
      obtain ⟨c, hc, ts, ha1, h5⟩ := h2.get' ha
      have hcL := hcl c (List.mem_of_getElem? hc)
      have hics : i < cs.length := (List.getElem?_eq_some_iff.mp hc).1
      refine ⟨_, rfl, .inl ⟨rfl, _, SqL.of hL1⟩, _, rfl, m, rfl, ⟨_, SqL.of (s1 _ _ hm)⟩, fun D nD => ?_⟩
      refine lc_it (walk_list (xs := ts0.map V.ref)) (fun j H' => Same H1 H' ∧ ∃ bs : List Addr, H' D = some (.lst (bs.map V.ref)) ∧ All2 (fun b q => H1 b = none ∧ Apart D H' b q) bs ((ss.take j).map fun s => c ++ [s]))
        ⟨same_new nD, [], upd_same, trivial⟩ (fun j H' _ h => SqL.of (h.1 _ _ (s1 _ _ hm))) ?_ ?_
      · rintro j y H0 H2 hj ⟨s2, bs, hD2, h6⟩ ⟨rfl, hy⟩
        obtain ⟨t, ht, rfl⟩ := refs_get hy
        obtain ⟨q, hq, hp⟩ := h3.get' ht
        have hlen : ts.length = c.length := h5.len
        refine ⟨rfl, _, rfl, _, rfl, (by show 1 ≤ sizeLine; decide), fun e ne => ?_⟩
        have s3 : Same H2 (upd H2 e (.lst [V.ref t])) := same_new ne
        have s13 := s1.trans (s2.trans s3)
        refine ⟨a, e, _, _, rfl, rfl, s13 _ _ ha1, upd_same, (by rw [List.length_map, hlen, sizeLine_eq]; simp only [List.length_cons, List.length_nil]; omega), fun p np => ?_⟩
        have s4 : Same (upd H2 e (.lst [V.ref t])) (upd (upd H2 e (.lst [V.ref t])) p (.lst (ts.map V.ref ++ [V.ref t]))) := same_new np
        have s24 := s3.trans s4
        have hDp : p ≠ D := (ne_of_none (s3 _ _ hD2) np).symm
        have hbl : bs.length ≤ ss.length := by
          rw [h6.len, List.length_map, List.length_take]
          omega
        have hssl : ss.length ≤ 100000 := by
          have : 1 * ss.length ≤ cs.length * ss.length := Nat.mul_le_mul_right _ (by omega)
          omega
        refine ⟨_, s24 _ _ hD2, (by rw [List.length_map, sizeLine_eq]; omega), same_upd (s2.trans s24) nD, bs ++ [p], ?_, ?_⟩
        · rw [upd_same, List.map_append]
          rfl
        · rw [take_more hq, List.map_append]
          refine All2.snoc (h6.mono fun b r z => ⟨z.1, (z.2.same s24).upd (s24 _ _ hD2)⟩) ⟨s2.free (s3.free np), ?_⟩
          refine Apart.upd (s24 _ _ hD2) ⟨hDp, ts ++ [t], ?_, ?_⟩
          · rw [upd_same, List.map_append]
            rfl
          · exact (h5.mono fun u r z => (s13.trans s4) _ _ z).snoc ((s13.trans s4) _ _ hp)
      · rintro H2 ⟨s2, bs, hD2, h6⟩
        have hLD : D ≠ L := (ne_of_none hL1 nD).symm
        rw [List.length_map, h3.len, List.take_length] at h6
        have hal : as.length ≤ 100000 := by
          rw [h4.len, DM.longer_len, List.length_take]
          have := Nat.mul_le_mul_right ss.length (show min i cs.length ≤ cs.length by omega)
          omega
        have hbl : bs.length ≤ 100000 := by
          rw [h6.len, List.length_map]
          have : 1 * ss.length ≤ cs.length * ss.length := Nat.mul_le_mul_right _ (by omega)
          omega
        refine ⟨L, D, _, _, rfl, rfl, s2 _ _ hL1, hD2, (by rw [List.length_map, List.length_map, sizeLine_eq]; omega), ?_⟩
        refine ⟨some (.ref a), rfl, same_upd (s1.trans s2) nL, as ++ bs, ?_, ?_⟩
        · rw [upd_same, List.map_append]
        · rw [longer_take hc]
          refine All2.app (h4.mono fun b r z => (z.same s2).upd (s2 _ _ hL1)) (h6.mono fun b r z => Apart.upd (s2 _ _ hL1) ⟨(ne_of_none hL1 z.1).symm, z.2.2⟩)
    · rintro σ H1 ⟨v, rfl, s1, as, hL1, h4⟩
      rw [List.length_map, h2.len, List.take_length] at h4
      exact ⟨_, rfl, k H1 L s1 nL ⟨as, hL1, h4.mono fun _ _ z => z.2⟩⟩
abbrev nCells : List Str := ["rules", "width", "parted", "place"]
theorem scCells : FnScope nCells ["rules", "width"] (defScope sCells) := ⟨rfl, rfl, rfl, by decide +kernel, rfl, by decide +kernel, by decide +kernel⟩
def spCells (K : PySem.W.Frag) (CR : Addr) : Sp := fun vs H Q _ => ∃ (l : Addr) (n : Nat) (rs : List Wf07.Rule), vs = [.ref l, .int (n : Int)] ∧ RulesAt K CR H l rs ∧ (∀ r ∈ rs, DM.Good n r) ∧ n ≤ 3 ∧ rs.length ≤ 12 ∧
  ∀ H' p, Same H H' → H p = none → CellsAt H' p (DM.pcells rs n) → Q (.ref p) H'
theorem pow25 : ∀ n, n < 3 → 25 ^ n * 25 ≤ 100000
  | 0, _ => by decide
  | 1, _ => by decide
  | 2, _ => by decide
  | _ + 3, h => absurd h (by omega)
theorem ok_cells (F : Fun K "cells" "cells" sCells f fd) (T : TR K mg CR) (cS : Fn P w K mg base 1 "spans" ["rules", "place"] (spSpans K CR)) (cL : Fn P w K mg base 1 "lengthened" ["shorter", "ranges"] spLen) :
    FnOk P w K mg base CX0 2 f fd ["rules", "width"] (spCells K CR) := by
  refine F.ok scCells (fun vs H Q E h => ?_) (fun cdv A outer s H vs Q E hr h => ?_)
  · obtain ⟨l, n, rs, rfl, _⟩ := h
    rfl
  · refine ⟨_, pss_cons (ps_set (i := 2) scCells.nd rfl (Or.inl rfl) (pe_lst (pa_cons (pe_lst pa_nil) pa_nil)))
      (pss_cons (ps_for PassesOwn.never rfl (pi_range1 (by rfl) T.range (pa_cons (pv 1) pa_nil)) (pg_name (i := 3) scCells.nd rfl (Or.inl rfl))
        (pss_one (ps_set (i := 2) scCells.nd rfl (Or.inl rfl) (pe_fn cL hr (pa_cons (pv 2) (pa_cons (pe_fn cS hr (pa_cons (pv 0) (pa_cons (pv 3) pa_nil))) pa_nil))))))
      (pss_one (ps_ret (pv 2)))), ?_⟩
    obtain ⟨l, n, rs, rfl, hR, hg, hn, hrs, k⟩ := h
    refine ⟨(by decide), fun e ne => ⟨(by show 1 ≤ sizeLine; decide), fun p np => ?_⟩⟩
    have s0 : Same H (upd (upd H e (.lst [])) p (.lst [V.ref e])) := (same_new ne).trans (same_new np)
    refine ⟨_, rfl, (n : Int), rfl, (by omega), (by omega), for_it walk_range (fun i σ H' => ∃ (v : Option V) (p : Addr), σ = [some (.ref l), some (.int (n : Int)), some (.ref p), v] ∧ Same H H' ∧ H p = none ∧ CellsAt H' p (DM.pcells rs i))
      ⟨none, p, rfl, s0, (same_new ne).free np, [e], upd_same, ⟨[], upd_keep upd_same (ne_of_none upd_same np), trivial⟩, trivial⟩ (fun _ _ _ _ _ => trivial) ?_ ?_⟩
    · rintro i x σ H0 H1 hi ⟨v, p, rfl, s1, np, hC⟩ ⟨rfl, rfl⟩
      have hin : i < n := by omega
      refine ⟨_, rfl, _, rfl, _, rfl, l, i, n, rs, (by show [V.ref l, V.int (0 + (i : Int))] = _; rw [Int.zero_add]), hR.same s1, hin, hg, hrs, fun H2 m s2 nm hM => ?_⟩
      refine ⟨p, m, DM.pcells rs i, DM.spansOf rs i, rfl, hC.same s2, hM, ?_, fun c hc => ?_, fun H3 q s3 nq hQ => ?_⟩
      · have h1 := DM.pcells_len rs hrs i
        have h2 := DM.spans_len rs i
        exact Nat.le_trans (Nat.mul_le_mul h1 (by omega)) (pow25 i (by omega))
      · rw [DM.pcell_len hc]
        omega
      · refine ⟨some (.int (0 + (i : Int))), q, rfl, (s1.trans s2).trans s3, (s1.trans s2).free nq, ?_⟩
        rw [DM.pcells_succ]
        exact hQ
    · rintro σ H1 ⟨v, p, rfl, s1, np, hC⟩
      exact ⟨_, rfl, k H1 p s1 np hC⟩
theorem scFirst : FnScope ["cell", "span"] ["cell"] (defScope sFirstPoint) := ⟨rfl, rfl, rfl, by decide +kernel, rfl, by decide +kernel, by decide +kernel⟩
def spFirst : Sp := fun vs H Q _ => ∃ (a : Addr) (c : List (Nat × Nat)), vs = [.ref a] ∧ SpansAt H a c ∧ c.length ≤ 1000 ∧
  ∀ H' p, Same H H' → H p = none → H' p = some (.lst (vi (c.map (·.1)))) → Q (.ref p) H'
theorem ok_first (F : Fun K "first_point" "first_point" sFirstPoint f fd) : FnOk P w K mg base CX0 1 f fd ["cell"] spFirst := by
  refine F.ok scFirst (fun vs H Q E h => ?_) (fun cdv A outer s H vs Q E hr h => ?_)
  · obtain ⟨a, c, rfl, _⟩ := h
    rfl
  · refine ⟨_, pss_one (ps_ret (pe_lc (own := [("span", 1)]) (g := gName 1) (tt := tYes) (te := tOp (rIxT K) (tVar 1) (tC (.int 0)))
        (by rfl) scFirst.nd (pi_list (pv 0)) (blkOk_by (own := [("span", 1)]) (N := ["cell", "span"]) (sc := defScope sFirstPoint) (by decide +kernel))
        (fun _ _ _ _ _ => by exact pg_name (i := 1) scFirst.nd rfl (.inl rfl)) (fun _ _ _ _ _ => pts_nil)
        (fun _ _ _ _ _ => by exact pe_ix ix_tup (pv 1) pe_int (fun _ _ => rfl)))), ?_⟩
    obtain ⟨a, c, rfl, ⟨ts, ha, h2⟩, hc, k⟩ := h
    refine ⟨_, rfl, a, rfl, ⟨_, SqL.of ha⟩, fun D hD => ?_⟩
    refine lc_pure (walk_list (xs := ts.map V.ref)) (vi (c.map (·.1))) (by simp [h2.len]) (by rw [List.length_map, h2.len, sizeLine_eq]; omega) hD (fun H' s1 => SqL.of (s1 _ _ ha)) ?_ ?_
    · rintro i v H0 H1 hi s1 ⟨rfl, hv⟩ Nx hNx
      obtain ⟨t, ht, rfl⟩ := refs_get hv
      obtain ⟨q, hq, hp⟩ := h2.get' ht
      refine ⟨rfl, _, rfl, t, _, 0, _, rfl, rfl, SqT.of (s1 _ _ hp), rfl, hNx _ _ (Same.refl _) ?_⟩
      rw [List.getElem?_map, List.getElem?_map, hq]
      rfl
    · intro H1 s1 hD1
      exact k H1 D s1 hD hD1
theorem scSize : FnScope ["cell", "points", "span"] ["cell"] (defScope sSize) := ⟨rfl, rfl, rfl, by decide +kernel, rfl, by decide +kernel, by decide +kernel⟩
def spSize : Sp := fun vs H Q _ => ∃ (a : Addr) (c : List (Nat × Nat)), vs = [.ref a] ∧ SpansAt H a c ∧ (∀ s ∈ c, s.1 ≤ s.2 ∧ s.2 ≤ 100) ∧ Q (.int (DM.sizeOf' c : Int)) H
theorem size_more {c : List (Nat × Nat)} {i : Nat} {s : Nat × Nat} (h : c[i]? = some s) : DM.sizeOf' (c.take (i + 1)) = DM.sizeOf' (c.take i) * (s.2 - s.1 + 1) := by
  unfold DM.sizeOf'
  rw [take_more h, List.foldl_append]
  rfl
theorem ok_size (F : Fun K "size" "size" sSize f fd) : FnOk P w K mg base CX0 1 f fd ["cell"] spSize := by
  refine F.ok scSize (fun vs H Q E h => ?_) (fun cdv A outer s H vs Q E hr h => ?_)
  · obtain ⟨a, c, rfl, _⟩ := h
    rfl
  · refine ⟨_, pss_cons (ps_set (i := 1) scSize.nd rfl (Or.inl rfl) pe_int)
      (pss_cons (ps_for PassesOwn.never rfl (pi_list (pv 0)) (pg_name (i := 2) scSize.nd rfl (Or.inl rfl))
        (pss_one (ps_set (i := 1) scSize.nd rfl (Or.inl rfl) (pe_op op_mul (pv 1) (pe_op op_add (pe_op op_sub (pe_ix ix_tup (pv 2) pe_int (fun _ _ => rfl)) (pe_ix ix_tup (pv 2) pe_int (fun _ _ => rfl))) pe_int)))))
      (pss_one (ps_ret (pv 1)))), ?_⟩
    obtain ⟨a, c, rfl, ⟨ts, ha, h2⟩, hg, k⟩ := h
    refine ⟨_, rfl, a, rfl, ⟨_, SqL.of ha⟩, for_it (walk_list (xs := ts.map V.ref)) (fun i σ H' => H' = H ∧ ∃ v : Option V, σ = [some (.ref a), some (.int (DM.sizeOf' (c.take i) : Int)), v]) ⟨rfl, none, rfl⟩ (fun i σ H' _ h => by rw [h.1]; exact SqL.of ha) ?_ ?_⟩
    · rintro i x σ H0 H1 hi ⟨e, v, rfl⟩ ⟨rfl, hx⟩
      subst e
      obtain ⟨t, ht, rfl⟩ := refs_get hx
      obtain ⟨q, hq, hp⟩ := h2.get' ht
      have hb := hg q (List.mem_of_getElem? hq)
      refine ⟨_, rfl, _, rfl, t, _, 1, _, rfl, rfl, SqT.of hp, rfl, _, rfl, t, _, 0, _, rfl, rfl, SqT.of hp, rfl, _, _, rfl, rfl, _, _, rfl, rfl, _, _, rfl, rfl, .inr ⟨by omega, by omega⟩, rfl, some (.ref t), ?_⟩
      have e1 : ((DM.sizeOf' (c.take (i + 1)) : Nat) : Int) = (DM.sizeOf' (c.take i) : Int) * ((q.2 : Int) - (q.1 : Int) + 1) := by
        rw [size_more hq, Int.natCast_mul]
        congr 1
        omega
      rw [e1]
      rfl
    · rintro σ H1 ⟨rfl, v, rfl⟩
      rw [List.length_map, h2.len, List.take_length]
      exact ⟨_, rfl, k⟩
/-! ### nearest_point, distance -/
abbrev nNearPt : List Str := ["cell", "point", "span", "value"]
theorem scNearPt : FnScope nNearPt ["cell", "point"] (defScope sNearPt) := ⟨rfl, rfl, rfl, by decide +kernel, rfl, by decide +kernel, by decide +kernel⟩
def spNearPt (K : PySem.W.Frag) : Sp := fun vs H Q _ => ∃ (a p : Addr) (c : List (Nat × Nat)) (x : List Nat), vs = [.ref a, .ref p] ∧ SpansAt H a c ∧ SqL K H p (vi x) ∧ c.length = x.length ∧ c.length ≤ 1000 ∧ (∀ s ∈ c, s.1 ≤ s.2) ∧
  ∀ H' q, Same H H' → H q = none → H' q = some (.lst (vi (DM.clampC c x))) → Q (.ref q) H'
theorem ok_nearPt (F : Fun K "nearest_point" "nearest_point" sNearPt f fd) (T : TR K mg CR) (mMax : mg "max" = none) (mMin : mg "min" = none) : FnOk P w K mg base CX0 1 f fd ["cell", "point"] (spNearPt K) := by
  refine F.ok scNearPt (fun vs H Q E h => ?_) (fun cdv A outer s H vs Q E hr h => ?_)
  · obtain ⟨a, p, c, x, rfl, _⟩ := h
    rfl
  · refine ⟨_, pss_one (ps_ret (pe_lc (own := [("span", 2), ("value", 3)]) (g := gTup K 2 (gCons (gName 2) (gCons (gName 3) gNil))) (tt := tYes)
        (te := tCB rMin2 (tCons (tCB rMax2 (tCons (tVar 3) (tCons (tOp (rIxT K) (tVar 2) (tC (.int 0))) tNil))) (tCons (tOp (rIxT K) (tVar 2) (tC (.int 1))) tNil)))
        (by rfl) scNearPt.nd (pi_zip (by rfl) T.zip (pa_cons (pv 0) (pa_cons (pv 1) pa_nil)))
        (blkOk_by (own := [("span", 2), ("value", 3)]) (N := nNearPt) (sc := defScope sNearPt) (by decide +kernel))
        (fun _ _ _ _ _ => by exact pg_tup rfl (pgs_cons (pg_name (i := 2) scNearPt.nd rfl (.inl rfl)) (pgs_cons (pg_name (i := 3) scNearPt.nd rfl (.inl rfl)) pgs_nil)))
        (fun _ _ _ _ _ => pts_nil)
        (fun _ _ _ _ _ => by exact pe_callB (call_min2 rfl) (by rfl) mMin (by decide +kernel) (pa_cons (pe_callB (call_max2 rfl) (by rfl) mMax (by decide +kernel) (pa_cons (pv 3) (pa_cons (pe_ix ix_tup (pv 2) pe_int (fun _ _ => rfl)) pa_nil))) (pa_cons (pe_ix ix_tup (pv 2) pe_int (fun _ _ => rfl)) pa_nil))))), ?_⟩
    obtain ⟨a, p, c, x, rfl, ⟨ts, ha, h2⟩, hx, hlen, hbig, hg, k⟩ := h
    have hn : c.length = min (ts.map V.ref).length (vi x).length := by
      rw [List.length_map, List.length_map, h2.len, hlen, Nat.min_self]
    refine ⟨_, rfl, _, rfl, a, p, _, _, rfl, SqL.of ha, hx, fun D hD => ?_⟩
    refine lc_pure (walk_zip hn) (vi (DM.clampC c x)) (by rw [List.length_map, DM.clamp_len]) (by rw [sizeLine_eq]; omega) hD (fun H' s1 => ⟨s1.seq (SqL.of ha), s1.seq hx⟩) ?_ ?_
    · rintro i v H1 H1' hi s1 ⟨Tt, y, z, rfl, nT, rfl, hy, hz⟩ Nx hNx
      obtain ⟨t, ht, rfl⟩ := refs_get hy
      obtain ⟨n, hn', rfl⟩ := vi_get hz
      obtain ⟨q, hq, hp⟩ := h2.get' ht
      have s2 : Same H1 (upd H1 Tt (.tup [V.ref t, V.int (n : Int)])) := same_new nT
      have hpt : PairAt (upd H1 Tt (.tup [V.ref t, V.int (n : Int)])) t q := s2 t _ (s1 _ _ hp)
      have hb := hg q (List.mem_of_getElem? hq)
      refine ⟨Tt, _, rfl, SqT.of upd_same, rfl, _, _, rfl, _, _, rfl, rfl, rfl, ?_⟩
      refine ⟨_, rfl, _, rfl, t, _, 0, _, rfl, rfl, SqT.of hpt, rfl, _, _, rfl, _, rfl, t, _, 1, _, rfl, rfl, SqT.of hpt, rfl, _, _, rfl, hNx _ _ s2 ?_⟩
      rw [List.getElem?_map, DM.clamp_at hq hn']
      show some (V.int ((max q.1 (min n q.2) : Nat) : Int)) = some (V.int _)
      congr 2
      split <;> split <;> omega
    · intro H1 s1 hD1
      exact k H1 D s1 hD hD1
abbrev nDist : List Str := ["one", "other", "value", "against"]
theorem scDist : FnScope nDist ["one", "other"] (defScope sDist) := ⟨rfl, rfl, rfl, by decide +kernel, rfl, by decide +kernel, by decide +kernel⟩
abbrev rAbs1 : List V → Hp → VK → Prop := fun xs H Q => ∃ i, xs = [.int i] ∧ Q (.int (if i < 0 then -i else i)) H
def spDist (K : PySem.W.Frag) : Sp := fun vs H Q _ => ∃ (a b : Addr) (x y : List Nat), vs = [.ref a, .ref b] ∧ SqL K H a (vi x) ∧ SqL K H b (vi y) ∧ x.length ≤ 1000 ∧ ∀ H', Same H H' → Q (.int (Wf07.far x y : Int)) H'
theorem ok_dist (F : Fun K "distance" "distance" sDist f fd) (T : TR K mg CR) (mSum : mg "sum" = none) (mAbs : mg "abs" = none) : FnOk P w K mg base CX0 1 f fd ["one", "other"] (spDist K) := by
  refine F.ok scDist (fun vs H Q E h => ?_) (fun cdv A outer s H vs Q E hr h => ?_)
  · obtain ⟨a, b, x, y, rfl, _⟩ := h
    rfl
  · refine ⟨_, pss_one (ps_ret (pe_callB (cr_sum rfl) (by rfl) mSum (by decide +kernel) (pa_cons (pe_lc (own := [("value", 2), ("against", 3)]) (g := gTup K 2 (gCons (gName 2) (gCons (gName 3) gNil))) (tt := tYes)
        (te := tCB rAbs1 (tCons (tOp (rI0 fun i j => .int (i - j)) (tVar 2) (tVar 3)) tNil))
        (by rfl) scDist.nd (pi_zip (by rfl) T.zip (pa_cons (pv 0) (pa_cons (pv 1) pa_nil)))
        (blkOk_by (own := [("value", 2), ("against", 3)]) (N := nDist) (sc := defScope sDist) (by decide +kernel))
        (fun _ _ _ _ _ => by exact pg_tup rfl (pgs_cons (pg_name (i := 2) scDist.nd rfl (.inl rfl)) (pgs_cons (pg_name (i := 3) scDist.nd rfl (.inl rfl)) pgs_nil)))
        (fun _ _ _ _ _ => pts_nil)
        (fun _ _ _ _ _ => by exact pe_callB call_abs (by rfl) mAbs (by decide +kernel) (pa_cons (pe_op op_sub (pv 2) (pv 3)) pa_nil))) pa_nil))), ?_⟩
    obtain ⟨a, b, x, y, rfl, hx, hy, hbig, k⟩ := h
    have hn : (x.zip y).length = min (vi x).length (vi y).length := by
      rw [List.length_map, List.length_map, List.length_zip]
    refine ⟨_, rfl, _, rfl, a, b, _, _, rfl, hx, hy, fun D hD => ?_⟩
    refine lc_pure (walk_zip hn) (vi ((x.zip y).map DM.farAt)) (by rw [List.length_map, List.length_map]) (by rw [List.length_zip, sizeLine_eq]; omega) hD (fun H' s1 => ⟨s1.seq hx, s1.seq hy⟩) ?_ ?_
    · rintro i v H1 H1' hi s1 ⟨Tt, y1, z1, rfl, nT, rfl, hy1, hz1⟩ Nx hNx
      obtain ⟨n, hn', rfl⟩ := vi_get hy1
      obtain ⟨m, hm', rfl⟩ := vi_get hz1
      have s2 : Same H1 (upd H1 Tt (.tup [V.int (n : Int), V.int (m : Int)])) := same_new nT
      refine ⟨Tt, _, rfl, SqT.of upd_same, rfl, _, _, rfl, _, _, rfl, rfl, rfl, ?_⟩
      refine ⟨_, rfl, _, rfl, _, _, rfl, rfl, _, rfl, hNx _ _ s2 ?_⟩
      have hz2 : (x.zip y)[i]? = some (n, m) := by
        rw [List.getElem?_zip_eq_some]
        exact ⟨hn', hm'⟩
      rw [List.getElem?_map, List.getElem?_map, hz2]
      show some (V.int (((n - m) + (m - n) : Nat) : Int)) = some (V.int _)
      congr 2
      split <;> omega
    · intro H1 s1 hD1
      rw [vi_ints] at hD1
      refine ⟨D, DM.ci ((x.zip y).map DM.farAt), rfl, SqL.of hD1, ?_⟩
      rw [DM.sum_is]
      exact k H1 s1
end
end DC

set_option Elab.async false
set_option linter.all false
set_option maxRecDepth 100000
set_option maxHeartbeats 2000000
namespace DC
open PySem PySem.Spec PyProof.Rows L2
abbrev sDecided : Stmt := top 7
abbrev sTInit : Stmt := inClass (top 41) 0
abbrev sHolding : Stmt := inClass (top 41) 1
abbrev sDecision : Stmt := inClass (top 41) 2
abbrev sDecAt : Stmt := inClass (top 41) 3
/-- what the top has of deciding.py -/
structure TD (mg : Str → Option Value) : Prop where
  first : IntC mg "FIRST_ONE" 0
  agree : IntC mg "ALL_AGREE" 1
  great : IntC mg "GREATEST" 2
  nothing : IntC mg "NOTHING" (-6)
  clash : IntC mg "CLASH" (-9)
  way : IntC mg "HIGHEST_WAY" 3
  len : mg "len" = none
  min : mg "min" = none
  max : mg "max" = none
  sum : mg "sum" = none
section
variable {P : Program} {w : World} {K : PySem.W.Frag} {mg : Str → Option Value} {base : Heap} {CR CT : Addr} {f : Addr} {fd : FuncData}
theorem scDecided : FnScope ["way", "said"] ["way", "said"] (defScope sDecided) := ⟨rfl, rfl, rfl, by decide +kernel, rfl, by decide +kernel, by decide +kernel⟩
def spDecided (K : PySem.W.Frag) : Sp := fun vs H Q _ => ∃ (p : Addr) (way : Nat) (sd : List Nat), vs = [.int (way : Int), .ref p] ∧ SqL K H p (vi sd) ∧ Q (.int (Wf07.word (DM.decideL way sd))) H
theorem ok_decided (F : Fun K "decided" "decided" sDecided f fd) (T : TD mg) : FnOk P w K mg base CX0 1 f fd ["way", "said"] (spDecided K) := by
  refine F.ok scDecided (fun vs H Q E h => ?_) (fun cdv A outer s H vs Q E hr h => ?_)
  · obtain ⟨p, way, sd, rfl, _⟩ := h
    rfl
  · refine ⟨_, pss_cons (ps_if (pt_cmpR op_eq (pe_callB call_len_seq (by rfl) T.len PySem.boot_len (pa_cons (pv 1) pa_nil)) pe_int (nomark _)) (pss_one (ps_ret (pe_const T.nothing))) pss_nil)
      (pss_cons (ps_if (pt_cmpR op_eq (pv 0) (pe_const T.first) (nomark _)) (pss_one (ps_ret (pe_ix ix_list (pv 1) pe_int (fun _ _ => rfl)))) pss_nil)
      (pss_cons (ps_if (pt_cmpR op_eq (pv 0) (pe_const T.agree) (nomark _)) (pss_one (ps_ret (pe_ifExp (pt_cmpR op_eq (pe_callB (cr_min rfl) (by rfl) T.min (by decide +kernel) (pa_cons (pv 1) pa_nil)) (pe_callB (cr_max rfl) (by rfl) T.max (by decide +kernel) (pa_cons (pv 1) pa_nil)) (nomark _))
          (pe_ix ix_list (pv 1) pe_int (fun _ _ => rfl)) (pe_const T.clash)))) pss_nil)
      (pss_cons (ps_if (pt_cmpR op_eq (pv 0) (pe_const T.great) (nomark _)) (pss_one (ps_ret (pe_callB (cr_max rfl) (by rfl) T.max (by decide +kernel) (pa_cons (pv 1) pa_nil)))) pss_nil)
      (pss_one (ps_ret (pe_callB (cr_sum rfl) (by rfl) T.sum (by decide +kernel) (pa_cons (pv 1) pa_nil))))))), ?_⟩
    obtain ⟨p, way, sd, rfl, hx, k⟩ := h
    refine ⟨_, rfl, p, _, rfl, .inl hx, rfl, _, rfl, ?_⟩
    cases sd with
    | nil => exact ifT (decide_eq_true rfl) k
    | cons n l =>
      refine ifF (decide_eq_false (by intro h; have := V.int.inj h; simp at this; omega)) ?_
      have hi : SqL K H p ((DM.ci (n :: l)).map V.int) := by
        rw [← vi_ints]
        exact hx
      refine ⟨_, rfl, rfl, _, rfl, ?_⟩
      by_cases c0 : way = 0
      · subst c0
        refine ifT (decide_eq_true rfl) ⟨_, rfl, p, _, 0, _, rfl, rfl, hx, vi_at (i := 0) (v := n) rfl rfl, k⟩
      · refine ifF (decide_eq_false (by intro h; have := V.int.inj h; omega)) ?_
        refine ⟨_, rfl, rfl, _, rfl, ?_⟩
        by_cases c1 : way = 1
        · subst c1
          refine ifT (decide_eq_true rfl) ?_
          refine ⟨_, rfl, p, _, rfl, hi, Nat.succ_pos _, fun m hm hle => ⟨_, rfl, p, _, rfl, hi, Nat.succ_pos _, fun M hM hge => ⟨rfl, _, rfl, ?_⟩⟩⟩
          have e := DM.same_is hm hle hM hge
          by_cases c : l.all (fun k => k == n) = true
          · have e2 : Wf07.word (DM.decideL 1 (n :: l)) = (n : Int) := by
              show Wf07.word (if l.all (fun k => k == n) = true then Wf07.Word.says n else Wf07.Word.clash) = _
              rw [if_pos c]
              rfl
            rw [e2] at k
            refine ifT (decide_eq_true (by rw [e.mpr c])) ⟨_, rfl, p, _, 0, _, rfl, rfl, hx, vi_at (i := 0) (v := n) rfl rfl, k⟩
          · have e2 : Wf07.word (DM.decideL 1 (n :: l)) = (-9 : Int) := by
              show Wf07.word (if l.all (fun k => k == n) = true then Wf07.Word.says n else Wf07.Word.clash) = _
              rw [if_neg c]
              rfl
            rw [e2] at k
            exact ifF (decide_eq_false (by intro h; exact c (e.mp (V.int.inj h)))) k
        · refine ifF (decide_eq_false (by intro h; have := V.int.inj h; omega)) ?_
          refine ⟨_, rfl, rfl, _, rfl, ?_⟩
          by_cases c2 : way = 2
          · subst c2
            refine ifT (decide_eq_true rfl) ⟨_, rfl, p, _, rfl, hi, Nat.succ_pos _, fun m hm hle => ?_⟩
            rw [DM.max_is hm hle]
            exact k
          · refine ifF (decide_eq_false (by intro h; have := V.int.inj h; omega)) ⟨_, rfl, p, _, rfl, hi, ?_⟩
            have e2 : Wf07.word (DM.decideL way (n :: l)) = (DM.ci (n :: l)).sum := by
              rw [DM.sum_is]
              show Wf07.word (if way = 0 then _ else if way = 1 then _ else if way = 2 then _ else Wf07.Word.says (Wf07.sum (n :: l))) = _
              rw [if_neg c0, if_neg c1, if_neg c2]
              rfl
            rw [e2] at k
            exact k
/-! ### Table -/
def tabF (way : Nat) (l : Addr) : List (Str × V) := [("way", .int (way : Int)), ("rules", .ref l)]
theorem tabF_way (n : Nat) (l : Addr) : (tabF n l).lookup ("way" : Str) = some (.int (n : Int)) := lk_here
theorem tabF_rules (n : Nat) (l : Addr) : (tabF n l).lookup ("rules" : Str) = some (.ref l) := (lk_past (by decide +kernel)).trans lk_here
theorem tabF_no (n : Nat) (l : Addr) (m : Str) (h1 : (m == ("way" : Str)) = false) (h2 : (m == ("rules" : Str)) = false) : (tabF n l).lookup m = none := (lk_past h1).trans ((lk_past h2).trans rfl)
def TableAt (CR CT : Addr) (H : Hp) (a : Addr) (t : Wf07.Table) : Prop := ∃ (dx l : Addr) (as : List Addr), H a = some (.ins CT dx (tabF t.way l)) ∧ H l = some (.lst (as.map V.ref)) ∧ All2 (RuleAt CR H) as t.rules
theorem TableAt.same {CR CT : Addr} {H H' : Hp} {a : Addr} {t : Wf07.Table} (s : Same H H') : TableAt CR CT H a t → TableAt CR CT H' a t := fun ⟨dx, l, as, h1, h2, h3⟩ => ⟨dx, l, as, s _ _ h1, s _ _ h2, h3.mono fun _ _ q => q.same s⟩
structure TT (K : PySem.W.Frag) (mg : Str → Option Value) (CT : Addr) : Prop where
  cl : Cls K CT
  nWay : NoAttr K CT "way"
  nRules : NoAttr K CT "rules"
  enumerate : mg "enumerate" = none
theorem scTInit : FnScope ["self", "way"] ["self", "way"] (defScope sTInit) := ⟨rfl, rfl, rfl, by decide +kernel, rfl, by decide +kernel, by decide +kernel⟩
def spTInit (CT : Addr) : Sp := fun vs H Q _ => ∃ (p dx : Addr) (n : Nat), vs = [.ref p, .int (n : Int)] ∧ H p = some (.ins CT dx []) ∧
  ∀ (H' : Hp) (l : Addr), H l = none → H' p = some (.ins CT dx (tabF n l)) → H' l = some (.lst []) → (∀ b o, H b = some o → b ≠ p → H' b = some o) → Q .non H'
theorem ok_tInit (F : Fun K "__init__" "Table.__init__" sTInit f fd) (T : TT K mg CT) : FnOk P w K mg base CX0 1 f fd ["self", "way"] (spTInit CT) := by
  refine F.ok scTInit (fun vs H Q E h => ?_) (fun cdv A outer s H vs Q E hr h => ?_)
  · obtain ⟨p, dx, n, rfl, _⟩ := h
    rfl
  · refine ⟨_, pss_cons (ps_fld (pv 0) (pv 1) rfl) (pss_one (ps_fld (pv 0) (pe_lst pa_nil) rfl)), ?_⟩
    obtain ⟨p, dx, n, rfl, hp, k⟩ := h
    refine ⟨_, rfl, _, rfl, p, CT, dx, [], rfl, hp, T.cl, T.nWay, (by show 0 < 1000; decide), ?_⟩
    refine ⟨(by decide), fun l nl => ?_⟩
    have npl : p ≠ l := ne_of_none upd_same nl
    have nH : H l = none := by
      rw [upd_ne npl.symm] at nl
      exact nl
    refine ⟨_, rfl, p, CT, dx, _, rfl, upd_keep upd_same npl, T.cl, T.nRules, (by show 1 < 1000; decide), ?_⟩
    refine k _ l nH (Eq.trans upd_same (congrArg (fun q => some (HO.ins CT dx q)) ((put_past (by decide +kernel)).trans rfl))) (upd_keep upd_same npl.symm) fun b o e hb => ?_
    rw [upd_ne hb, upd_ne (ne_of_none e nH), upd_ne hb]
    exact e
abbrev nHolding : List Str := ["self", "point", "which", "rule"]
theorem scHolding : FnScope nHolding ["self", "point"] (defScope sHolding) := ⟨rfl, rfl, rfl, by decide +kernel, rfl, by decide +kernel, by decide +kernel⟩
def spHolding (K : PySem.W.Frag) (CR CT : Addr) : Sp := fun vs H Q _ => ∃ (a p : Addr) (t : Wf07.Table) (x : List Nat), vs = [.ref a, .ref p] ∧ TableAt CR CT H a t ∧ SqL K H p (vi x) ∧ (∀ r ∈ t.rules, r.ranges.length = x.length) ∧ x.length ≤ 1000 ∧ t.rules.length ≤ 1000 ∧
  ∀ H' q, Same H H' → H q = none → H' q = some (.lst (vi (t.hits x))) → Q (.ref q) H'
theorem ok_holding (F : Fun K "holding" "Table.holding" sHolding f fd) (T : TT K mg CT) (cH : Me P w K mg base 1 CR "holds" ["self", "point"] (spHolds K CR)) : FnOk P w K mg base CX0 2 f fd ["self", "point"] (spHolding K CR CT) := by
  refine F.ok scHolding (fun vs H Q E h => ?_) (fun cdv A outer s H vs Q E hr h => ?_)
  · obtain ⟨a, p, t, x, rfl, _⟩ := h
    rfl
  · refine ⟨_, pss_one (ps_ret (pe_lc (own := [("which", 2), ("rule", 3)]) (g := gTup K 2 (gCons (gName 2) (gCons (gName 3) gNil))) (tt := tTest (tMeth CR "holds" (spHolds K CR) [] E0 (tVar 3) (tCons (tVar 1) tNil))) (te := tVar 2)
        (by rfl) scHolding.nd (pi_enum (by rfl) T.enumerate (pa_cons (pe_fld (pv 0) rfl) pa_nil)) (blkOk_by (own := [("which", 2), ("rule", 3)]) (N := nHolding) (sc := defScope sHolding) (by decide +kernel))
        (fun _ _ _ _ _ => by exact pg_tup rfl (pgs_cons (pg_name (i := 2) scHolding.nd rfl (.inl rfl)) (pgs_cons (pg_name (i := 3) scHolding.nd rfl (.inl rfl)) pgs_nil)))
        (fun _ _ _ _ _ => by exact pts_one (pt_val (pe_me cH hr (pv 3) (pa_cons (pv 1) pa_nil))))
        (fun _ _ _ _ _ => by exact pv 2))), ?_⟩
    obtain ⟨a, p, t, x, rfl, ⟨dx, l, as, ha, hl, h2⟩, hx, hw, hxl, htl, k⟩ := h
    refine ⟨_, rfl, a, CT, dx, _, _, rfl, ha, T.cl, T.nRules, tabF_rules _ _, l, _, rfl, SqL.of hl, fun D hD => ?_⟩
    refine lc_it (walk_enum (xs := as.map V.ref)) (fun i H' => Same H H' ∧ H' D = some (.lst (vi (DM.hitsTo t x i)))) ⟨same_new hD, upd_same⟩ (fun i H' _ h => SqL.of (h.1 _ _ hl)) ?_ ?_
    · rintro i v H1 H1' hi ⟨s1, hD1⟩ ⟨Tt, y, z, rfl, nT, rfl, hy, hz⟩
      cases hy
      obtain ⟨u, hu, rfl⟩ := refs_get hz
      obtain ⟨r, hr', hR⟩ := h2.get' hu
      have s2 : Same H1 (upd H1 Tt (.tup [V.int (i : Int), V.ref u])) := same_new nT
      obtain ⟨du, lu, hu1, hu2⟩ := (hR.same (s1.trans s2))
      refine ⟨Tt, _, rfl, SqT.of upd_same, rfl, _, _, rfl, _, _, rfl, rfl, rfl, ?_⟩
      refine ⟨_, rfl, u, du, _, rfl, hu1, ruleF_holds _ _, _, rfl, u, p, r, x, rfl, ⟨du, lu, hu1, hu2⟩, (s1.trans s2).seq hx, hw r (List.mem_of_getElem? hr'), hxl, fun H3 s3 => ⟨_, rfl, ?_⟩⟩
      have e := DM.hitsTo_succ (x := x) hr'
      have hD3 := s3 _ _ (s2 _ _ hD1)
      cases c : r.holds x with
      | true =>
        rw [c, if_pos rfl] at e
        refine ⟨_, rfl, _, hD3, ?_, same_upd (s1.trans (s2.trans s3)) hD, ?_⟩
        · have := DM.hitsTo_len t x i
          rw [List.length_map, sizeLine_eq]
          omega
        · rw [upd_same, e]
          simp [vi]
      | false =>
        rw [c, if_neg Bool.false_ne_true] at e
        refine ⟨s1.trans (s2.trans s3), ?_⟩
        rw [e]
        exact hD3
    · rintro H1 ⟨s1, hD1⟩
      rw [DM.hitsTo_all t x (by rw [List.length_map, h2.len]; exact Nat.le_refl _)] at hD1
      exact k H1 D s1 hD hD1
abbrev nDecision : List Str := ["self", "held", "which"]
theorem scDecision : FnScope nDecision ["self", "held"] (defScope sDecision) := ⟨rfl, rfl, rfl, by decide +kernel, rfl, by decide +kernel, by decide +kernel⟩
def saysAt (t : Wf07.Table) (i : Nat) : Nat := ((t.rules[i]?).map Wf07.Rule.says).getD 0
def spDecision (K : PySem.W.Frag) (CR CT : Addr) : Sp := fun vs H Q _ => ∃ (a p : Addr) (t : Wf07.Table) (hs : List Nat), vs = [.ref a, .ref p] ∧ TableAt CR CT H a t ∧ SqL K H p (vi hs) ∧ (∀ i ∈ hs, i < t.rules.length) ∧ hs.length ≤ 1000 ∧
  ∀ H', Same H H' → Q (.int (Wf07.word (DM.decideL t.way (hs.map (saysAt t))))) H'
theorem ok_decision (F : Fun K "decision" "Table.decision" sDecision f fd) (T : TT K mg CT) (TR : TR K mg CR) (cD : Fn P w K mg base 1 "decided" ["way", "said"] (spDecided K)) : FnOk P w K mg base CX0 2 f fd ["self", "held"] (spDecision K CR CT) := by
  refine F.ok scDecision (fun vs H Q E h => ?_) (fun cdv A outer s H vs Q E hr h => ?_)
  · obtain ⟨a, p, t, hs, rfl, _⟩ := h
    rfl
  · refine ⟨_, pss_one (ps_ret (pe_fn cD hr (pa_cons (pe_fld (pv 0) rfl) (pa_cons (pe_lc (own := [("which", 2)]) (g := gName 2) (tt := tYes) (te := tFld K (tOp (rIxL K) (tFld K (tVar 0) "rules") (tVar 2)) "says")
        (by rfl) scDecision.nd (pi_list (pv 1)) (blkOk_by (own := [("which", 2)]) (N := nDecision) (sc := defScope sDecision) (by decide +kernel))
        (fun _ _ _ _ _ => by exact pg_name (i := 2) scDecision.nd rfl (.inl rfl)) (fun _ _ _ _ _ => pts_nil)
        (fun _ _ _ _ _ => by exact pe_fld (pe_ix ix_list (pe_fld (pv 0) rfl) (pv 2) (fun _ _ => rfl)) rfl)) pa_nil)))), ?_⟩
    obtain ⟨a, p, t, hs, rfl, ⟨dx, l, as, ha, hl, h2⟩, hx, hlt, hle, k⟩ := h
    refine ⟨_, rfl, a, CT, dx, _, _, rfl, ha, T.cl, T.nWay, tabF_way _ _, _, rfl, p, rfl, ⟨_, hx⟩, fun D hD => ?_⟩
    refine lc_pure (walk_list (xs := vi hs)) (vi (hs.map (saysAt t))) (by simp) (by rw [List.length_map, sizeLine_eq]; omega) hD (fun H' s1 => s1.seq hx) ?_ ?_
    · rintro i v H0 H1 hi s1 ⟨rfl, hv⟩ Nx hNx
      obtain ⟨j, hj, rfl⟩ := vi_get hv
      have hjl := hlt j (List.mem_of_getElem? hj)
      have hr' : t.rules[j]? = some t.rules[j] := List.getElem?_eq_getElem hjl
      obtain ⟨u, hu, du, lu, hu1, hu2⟩ := h2.get hr'
      have hau : atI (as.map V.ref) (j : Int) = some (.ref u) := atI_nat (by rw [List.getElem?_map, hu]; rfl)
      refine ⟨rfl, _, rfl, a, CT, dx, _, _, rfl, s1 _ _ ha, T.cl, T.nRules, tabF_rules _ _, _, rfl, l, _, _, _, rfl, rfl, SqL.of (s1 _ _ hl), hau, u, CR, du, _, _, rfl, s1 _ _ hu1, TR.cl, TR.nSays, ruleF_says _ _, hNx _ _ (Same.refl _) ?_⟩
      rw [List.getElem?_map, List.getElem?_map, hj]
      show some (V.int ((saysAt t j : Nat) : Int)) = _
      unfold saysAt
      rw [hr']
      rfl
    · intro H1 s1 hD1
      exact ⟨D, t.way, hs.map (saysAt t), rfl, SqL.of hD1, k H1 s1⟩
theorem decision_hits (t : Wf07.Table) (x : List Nat) : DM.decideL t.way ((t.hits x).map (saysAt t)) = t.decides x := by
  rw [DM.decides_eq, DM.said_hits]
  rfl
theorem hits_len (t : Wf07.Table) (x : List Nat) : (t.hits x).length ≤ t.rules.length := by
  have := DM.hitsTo_len t x t.rules.length
  rw [DM.hitsTo_all _ _ (Nat.le_refl _)] at this
  exact this
theorem scDecAt : FnScope ["self", "point"] ["self", "point"] (defScope sDecAt) := ⟨rfl, rfl, rfl, by decide +kernel, rfl, by decide +kernel, by decide +kernel⟩
def spDecAt (K : PySem.W.Frag) (CR CT : Addr) : Sp := fun vs H Q _ => ∃ (a p : Addr) (t : Wf07.Table) (x : List Nat), vs = [.ref a, .ref p] ∧ TableAt CR CT H a t ∧ SqL K H p (vi x) ∧ (∀ r ∈ t.rules, r.ranges.length = x.length) ∧ x.length ≤ 1000 ∧ t.rules.length ≤ 1000 ∧
  ∀ H', Same H H' → Q (.int (Wf07.word (t.decides x))) H'
theorem ok_decAt (F : Fun K "decision_at" "Table.decision_at" sDecAt f fd) (T : TT K mg CT) (cH : Me P w K mg base 2 CT "holding" ["self", "point"] (spHolding K CR CT)) (cD : Me P w K mg base 2 CT "decision" ["self", "held"] (spDecision K CR CT)) : FnOk P w K mg base CX0 3 f fd ["self", "point"] (spDecAt K CR CT) := by
  refine F.ok scDecAt (fun vs H Q E h => ?_) (fun cdv A outer s H vs Q E hr h => ?_)
  · obtain ⟨a, p, t, x, rfl, _⟩ := h
    rfl
  · refine ⟨_, pss_one (ps_ret (pe_me cD hr (pv 0) (pa_cons (pe_me cH hr (pv 0) (pa_cons (pv 1) pa_nil)) pa_nil))), ?_⟩
    obtain ⟨a, p, t, x, rfl, ht, hx, hw, hxl, htl, k⟩ := h
    obtain ⟨dx, l, as, ha, hl, h2⟩ := id ht
    refine ⟨_, rfl, a, dx, _, rfl, ha, tabF_no _ _ _ (by decide +kernel) (by decide +kernel), _, rfl, a, dx, _, rfl, ha, tabF_no _ _ _ (by decide +kernel) (by decide +kernel), _, rfl, a, p, t, x, rfl, ht, hx, hw, hxl, htl, fun H1 q s1 nq hq => ?_⟩
    have := hits_len t x
    refine ⟨a, q, t, t.hits x, rfl, ht.same s1, SqL.of hq, (fun i hi => DM.hits_lt hi), (by omega), fun H2 s2 => ?_⟩
    rw [decision_hits]
    exact k _ (s1.trans s2)
end
end DC

set_option Elab.async false
set_option linter.all false
set_option maxRecDepth 100000
set_option maxHeartbeats 2000000
namespace DC
open PySem PySem.Spec PyProof.Rows L2
abbrev sHInit : Stmt := inClass (top 42) 0
abbrev sHas : Stmt := inClass (top 42) 1
abbrev sBegins : Stmt := inClass (top 42) 2
abbrev sRule : Stmt := inClass (top 42) 3
abbrev sDrop : Stmt := inClass (top 42) 4
abbrev sDecides : Stmt := inClass (top 42) 5
abbrev sGaps : Stmt := inClass (top 42) 6
/-! ### a house in the heap -/
/-- a rule whose list of ranges is none of these -/
def RuleAp (CR : Addr) (bad : List Addr) (H : Hp) (a : Addr) (r : Wf07.Rule) : Prop := ∃ dx l, l ∉ bad ∧ H a = some (.ins CR dx (ruleF r l)) ∧ SpansAt H l r.ranges
theorem RuleAp.at_ {CR : Addr} {bad : List Addr} {H : Hp} {a : Addr} {r : Wf07.Rule} : RuleAp CR bad H a r → RuleAt CR H a r := fun ⟨dx, l, _, h, q⟩ => ⟨dx, l, h, q⟩
theorem RuleAp.same {CR : Addr} {bad : List Addr} {H H' : Hp} {a : Addr} {r : Wf07.Rule} (s : Same H H') : RuleAp CR bad H a r → RuleAp CR bad H' a r := fun ⟨dx, l, n, h, q⟩ => ⟨dx, l, n, s _ _ h, q.same s⟩
theorem RuleAp.put {CR : Addr} {bad : List Addr} {H : Hp} {a b : Addr} {r : Wf07.Rule} {xs ys : List V} (hb : H b = some (.lst xs)) (m : b ∈ bad) : RuleAp CR bad H a r → RuleAp CR bad (upd H b (.lst ys)) a r := fun ⟨dx, l, n, h, ts, h1, h2⟩ =>
  ⟨dx, l, n, upd_keep h (ne_of h hb (by intro z; cases z)), ts, upd_keep h1 (fun e => n (e ▸ m)), h2.mono fun t p q => upd_keep q (ne_of q hb (by intro z; cases z))⟩
theorem RuleAp.more {CR : Addr} {bad : List Addr} {H : Hp} {a c : Addr} {r : Wf07.Rule} (nc : H c = none) : RuleAp CR bad H a r → RuleAp CR (c :: bad) H a r := fun ⟨dx, l, n, h, q⟩ =>
  ⟨dx, l, fun z => (List.mem_cons.mp z).elim (fun e => by obtain ⟨ts, h1, _⟩ := q; rw [e, nc] at h1; cases h1) n, h, q⟩
theorem RuleAp.less {CR : Addr} {bad bad' : List Addr} {H : Hp} {a : Addr} {r : Wf07.Rule} (i : ∀ b ∈ bad', b ∈ bad) : RuleAp CR bad H a r → RuleAp CR bad' H a r := fun ⟨dx, l, n, h, q⟩ => ⟨dx, l, fun z => n (i _ z), h, q⟩
def houF (n : Nat) (tl : Addr) : List (Str × V) := [("width", .int (n : Int)), ("tables", .ref tl)]
theorem houF_width (n : Nat) (l : Addr) : (houF n l).lookup ("width" : Str) = some (.int (n : Int)) := lk_here
theorem houF_tables (n : Nat) (l : Addr) : (houF n l).lookup ("tables" : Str) = some (.ref l) := (lk_past (by decide +kernel)).trans lk_here
theorem houF_no (n : Nat) (l : Addr) (m : Str) (h1 : (m == ("width" : Str)) = false) (h2 : (m == ("tables" : Str)) = false) : (houF n l).lookup m = none := (lk_past h1).trans ((lk_past h2).trans rfl)
/-- the house at h; its lists are none of av -/
structure HouseP (CR CT CH : Addr) (av : List Addr) (H : Hp) (h : Addr) (m : Wf07.House) (dx tl : Addr) (t d l : Nat → Addr) (as : Nat → List Addr) : Prop where
  hh : H h = some (.ins CH dx (houF m.values tl))
  htl : H tl = some (.lst [.ref (t 0), .ref (t 1)])
  tlav : tl ∉ av
  tl0 : tl ≠ l 0
  tl1 : tl ≠ l 1
  l01 : l 0 ≠ l 1
  tab : ∀ k, k < 2 → H (t k) = some (.ins CT (d k) (tabF (m.t k).way (l k)))
  lav : ∀ k, k < 2 → l k ∉ av
  lst : ∀ k, k < 2 → H (l k) = some (.lst ((as k).map V.ref))
  rul : ∀ k, k < 2 → All2 (RuleAp CR (l 0 :: l 1 :: av) H) (as k) (m.t k).rules
def HouseAt (CR CT CH : Addr) (av : List Addr) (H : Hp) (h : Addr) (m : Wf07.House) : Prop := ∃ (dx tl : Addr) (t d l : Nat → Addr) (as : Nat → List Addr), HouseP CR CT CH av H h m dx tl t d l as
theorem lt2 {k : Nat} (h : k < 2) : k = 0 ∨ k = 1 := by omega
section
variable {CR CT CH : Addr} {av : List Addr} {H H' : Hp} {h : Addr} {m : Wf07.House} {dx tl : Addr} {t d l : Nat → Addr} {as : Nat → List Addr}
theorem HouseP.same (s : Same H H') (p : HouseP CR CT CH av H h m dx tl t d l as) : HouseP CR CT CH av H' h m dx tl t d l as :=
  ⟨s _ _ p.hh, s _ _ p.htl, p.tlav, p.tl0, p.tl1, p.l01, fun k hk => s _ _ (p.tab k hk), p.lav, fun k hk => s _ _ (p.lst k hk), fun k hk => (p.rul k hk).mono fun _ _ q => q.same s⟩
theorem HouseAt.same (s : Same H H') : HouseAt CR CT CH av H h m → HouseAt CR CT CH av H' h m := fun ⟨dx, tl, t, d, l, as, p⟩ => ⟨dx, tl, t, d, l, as, p.same s⟩
/-- another list is written -/
theorem HouseAt.write {b : Addr} {xs ys : List V} (mb : b ∈ av) (hb : H b = some (.lst xs)) : HouseAt CR CT CH av H h m → HouseAt CR CT CH av (upd H b (.lst ys)) h m := fun ⟨dx, tl, t, d, l, as, p⟩ =>
  ⟨dx, tl, t, d, l, as, upd_keep p.hh (ne_of p.hh hb (by intro z; cases z)), upd_keep p.htl (fun e => p.tlav (e ▸ mb)), p.tlav, p.tl0, p.tl1, p.l01, fun k hk => upd_keep (p.tab k hk) (ne_of (p.tab k hk) hb (by intro z; cases z)), p.lav,
    fun k hk => upd_keep (p.lst k hk) (fun e => p.lav k hk (e ▸ mb)), fun k hk => (p.rul k hk).mono fun _ _ q => q.put hb (List.mem_cons_of_mem _ (List.mem_cons_of_mem _ mb))⟩
/-- one more that they are not -/
theorem HouseAt.more {b : Addr} {o : HO} (nb : H b = none) : HouseAt CR CT CH av H h m → HouseAt CR CT CH (b :: av) (upd H b o) h m := fun ⟨dx, tl, t, d, l, as, p⟩ => by
  have q := p.same (same_new (o := o) nb)
  refine ⟨dx, tl, t, d, l, as, q.hh, q.htl, fun z => (List.mem_cons.mp z).elim (ne_of_none p.htl nb) p.tlav, q.tl0, q.tl1, q.l01, q.tab, fun k hk z => (List.mem_cons.mp z).elim (ne_of_none (p.lst k hk) nb) (p.lav k hk), q.lst, fun k hk => ?_⟩
  refine (p.rul k hk).mono fun a r z => ((z.more nb).same (same_new nb)).less fun c hc => ?_
  simp only [List.mem_cons] at hc ⊢
  rcases hc with e | e | e | e
  · exact .inr (.inl e)
  · exact .inr (.inr (.inl e))
  · exact .inl e
  · exact .inr (.inr (.inr e))
theorem HouseP.table (p : HouseP CR CT CH av H h m dx tl t d l as) {k : Nat} (hk : k < 2) : TableAt CR CT H (t k) (m.t k) := ⟨d k, l k, as k, p.tab k hk, p.lst k hk, (p.rul k hk).mono fun _ _ q => q.at_⟩
theorem HouseP.at_ (_ : HouseP CR CT CH av H h m dx tl t d l as) {k : Nat} (hk : k < 2) : atI [V.ref (t 0), V.ref (t 1)] (k : Int) = some (.ref (t k)) := by
  rcases lt2 hk with e | e
  · subst e
    rfl
  · subst e
    rfl
/-- a table's rules changed -/
def setR (m : Wf07.House) (k : Nat) (rs : List Wf07.Rule) : Wf07.House := { m with tables := m.tables.set k { m.t k with rules := rs } }
theorem setR_t {k j : Nat} {rs : List Wf07.Rule} (h2 : m.tables.length = 2) (hk : k < 2) : (setR m k rs).t j = if j = k then { m.t k with rules := rs } else m.t j := by
  unfold setR Wf07.House.t
  simp only [List.getD_eq_getElem?_getD, List.getElem?_set]
  by_cases e : k = j
  · subst e
    rw [if_pos rfl, if_pos (by omega), if_pos rfl]
    rfl
  · rw [if_neg e, if_neg (fun z => e z.symm)]
theorem HouseP.put {k : Nat} {as' : List Addr} {rs' : List Wf07.Rule} (p : HouseP CR CT CH av H h m dx tl t d l as) (h2 : m.tables.length = 2) (hk : k < 2) (ha : All2 (RuleAp CR (l 0 :: l 1 :: av) H) as' rs') :
    HouseP CR CT CH av (upd H (l k) (.lst (as'.map V.ref))) h (setR m k rs') dx tl t d l (fun j => if j = k then as' else as j) := by
  have hl := p.lst k hk
  have mb : l k ∈ l 0 :: l 1 :: av := by
    rcases lt2 hk with e | e
    · subst e
      simp
    · subst e
      simp
  have tlk : tl ≠ l k := by
    rcases lt2 hk with e | e
    · subst e
      exact p.tl0
    · subst e
      exact p.tl1
  have lne : ∀ j, j < 2 → j ≠ k → l j ≠ l k := fun j hj n => by
    rcases lt2 hj with e | e <;> rcases lt2 hk with e' | e' <;> subst e <;> subst e'
    · exact absurd rfl n
    · exact p.l01
    · exact p.l01.symm
    · exact absurd rfl n
  refine ⟨upd_keep p.hh (ne_of p.hh hl (by intro z; cases z)), upd_keep p.htl tlk, p.tlav, p.tl0, p.tl1, p.l01, fun j hj => ?_, p.lav, fun j hj => ?_, fun j hj => ?_⟩
  · rw [upd_keep (p.tab j hj) (ne_of (p.tab j hj) hl (by intro z; cases z)), setR_t h2 hk]
    by_cases e : j = k
    · subst e
      rw [if_pos rfl]
    · rw [if_neg e]
  · by_cases e : j = k
    · subst e
      rw [upd_same, if_pos rfl]
    · rw [if_neg e]
      exact upd_keep (p.lst j hj) (lne j hj e)
  · rw [setR_t h2 hk]
    by_cases e : j = k
    · subst e
      rw [if_pos rfl, if_pos rfl]
      exact ha.mono fun _ _ q => q.put hl mb
    · rw [if_neg e, if_neg e]
      exact (p.rul j hj).mono fun _ _ q => q.put hl mb
end
/-- a house as it may be -/
structure HV (m : Wf07.House) : Prop where
  lo : 1 ≤ m.values
  hi : m.values ≤ 3
  two : m.tables.length = 2
  many : ∀ k, (m.t k).rules.length ≤ 6
  good : ∀ k, ∀ r ∈ (m.t k).rules, DM.Good m.values r
/-- what stands behind a call: all but the house and lists that are none of av -/
def Fr (av : List Addr) (h : Addr) (H H' : Hp) : Prop := ∀ b o, H b = some o → b ≠ h → (b ∈ av ∨ ∀ xs, o ≠ .lst xs) → H' b = some o
theorem Fr.of_same {av : List Addr} {h : Addr} {H H' : Hp} (s : Same H H') : Fr av h H H' := fun b o e _ _ => s b o e
abbrev outV (a : Wf07.Ans) : List V := (Wf07Neutral.out a).map V.int
/-- what a call does -/
def Done (CR CT CH : Addr) (av : List Addr) (h : Addr) (m : Wf07.House) (c : Wf07.Call) (H : Hp) (Q : VK) : Prop := ∀ (H' : Hp) (q : Addr), HouseAt CR CT CH av H' h (Wf07.step m c).1 → Fr av h H H' → H q = none → H' q = some (.lst (outV (Wf07.step m c).2)) → Q (.ref q) H'
/-- a call that changes nothing -/
theorem Done.same {CR CT CH : Addr} {av : List Addr} {h : Addr} {m : Wf07.House} {c : Wf07.Call} {H : Hp} {Q : VK} (D : Done CR CT CH av h m c H Q) {a : Wf07.Ans} (e : Wf07.step m c = (m, a)) (hh : HouseAt CR CT CH av H h m) {H' : Hp} {q : Addr} (s : Same H H') (nq : H q = none) (hq : H' q = some (.lst (outV a))) : Q (.ref q) H' := by
  refine D H' q ?_ (Fr.of_same s) nq ?_
  · rw [e]
    exact hh.same s
  · rw [e]
    exact hq
structure TH (K : PySem.W.Frag) (mg : Str → Option Value) (CH : Addr) : Prop where
  cl : Cls K CH
  nWidth : NoAttr K CH "width"
  nTables : NoAttr K CH "tables"
  mostV : IntC mg "MOST_VALUES" 3
  mostR : IntC mg "MOST_RULES" 6
  wrong : IntC mg "WRONG" (-1)
  absent : IntC mg "ABSENT" (-2)
  full : IntC mg "FULL" (-7)
section
variable {P : Program} {w : World} {K : PySem.W.Frag} {mg : Str → Option Value} {base : Heap} {CR CT CH : Addr} {f : Addr} {fd : FuncData}
theorem scHas : FnScope ["self", "table"] ["self", "table"] (defScope sHas) := ⟨rfl, rfl, rfl, by decide +kernel, rfl, by decide +kernel, by decide +kernel⟩
def spHas (CR CT CH : Addr) : Sp := fun vs H Q _ => ∃ (h : Addr) (av : List Addr) (m : Wf07.House) (k : Nat), vs = [.ref h, .int (k : Int)] ∧ HouseAt CR CT CH av H h m ∧ Q (.bl (decide (k < 2))) H
theorem ok_has (F : Fun K "has_table" "House.has_table" sHas f fd) (T : TH K mg CH) (TR : TR K mg CR) : FnOk P w K mg base CX0 1 f fd ["self", "table"] (spHas CR CT CH) := by
  refine F.ok scHas (fun vs H Q E h => ?_) (fun cdv A outer s H vs Q E hr h => ?_)
  · obtain ⟨h, av, m, k, rfl, _⟩ := h
    rfl
  · refine ⟨_, pss_one (ps_ret (pe_cmpR op_lt (pv 1) (pe_callB call_len_seq (by rfl) TR.len PySem.boot_len (pa_cons (pe_fld (pv 0) rfl) pa_nil)) (nomark _))), ?_⟩
    obtain ⟨h, av, m, k, rfl, ⟨dx, tl, t, d, l, as, p⟩, hq⟩ := h
    refine ⟨_, rfl, _, rfl, h, CH, dx, _, _, rfl, p.hh, T.cl, T.nTables, houF_tables _ _, tl, _, rfl, .inl (SqL.of p.htl), _, _, rfl, rfl, ?_⟩
    have e : decide (k < 2) = decide ((k : Int) < (([V.ref (t 0), V.ref (t 1)] : List V).length : Int)) := decide_eq_decide.mpr (by simp only [List.length_cons, List.length_nil]; omega)
    rw [e] at hq
    exact hq
end
end DC

set_option Elab.async false
set_option linter.all false
set_option maxRecDepth 100000
set_option maxHeartbeats 2000000
namespace DC
open PySem PySem.Spec PyProof.Rows L2
section
variable {P : Program} {w : World} {K : PySem.W.Frag} {mg : Str → Option Value} {base : Heap} {CR CT CH : Addr} {f : Addr} {fd : FuncData}
/-- [Table(a), Table(b)] -/
theorem make_two {ta tb : TE} {σ : L2.St} {H : Hp} {n0 n1 : Nat} (ha : ∀ H Q, Q (.int (n0 : Int)) H → ta σ H Q) (hb : ∀ H Q, Q (.int (n1 : Int)) H → tb σ H Q) {Q : VK}
    (k : ∀ (H' : Hp) (tl t0 t1 d0 d1 l0 l1 : Addr), Same H H' → H tl = none → H t0 = none → H t1 = none → H l0 = none → H l1 = none → tl ≠ l0 → tl ≠ l1 → l0 ≠ l1 → H' tl = some (.lst [.ref t0, .ref t1]) → H' t0 = some (.ins CT d0 (tabF n0 l0)) → H' t1 = some (.ins CT d1 (tabF n1 l1)) →
      H' l0 = some (.lst []) → H' l1 = some (.lst []) → Q (.ref tl) H') :
    tLst (tCons (tMake CT (spTInit CT) [] E0 (tCons ta tNil)) (tCons (tMake CT (spTInit CT) [] E0 (tCons tb tNil)) tNil)) σ H Q := by
  refine ha _ _ fun x0 e0 nx0 ne0 nn0 => ⟨x0, e0, n0, rfl, upd_same, fun H1 l0 nl0 hx0 hl0 kp0 => ⟨rfl, ?_⟩⟩
  have s1 : Same H H1 := Same.made nx0 ne0 kp0
  have s0 : Same H (upd (upd H e0 (.own x0)) x0 (.ins CT e0 [])) := (same_new ne0).trans (same_new (by rw [upd_ne nn0.symm]; exact nx0))
  refine hb _ _ fun x1 e1 nx1 ne1 nn1 => ⟨x1, e1, n1, rfl, upd_same, fun H2 l1 nl1 hx1 hl1 kp1 => ⟨rfl, (by show 2 ≤ sizeLine; decide), fun tl ntl => ?_⟩⟩
  have s2 : Same H1 H2 := Same.made nx1 ne1 kp1
  have s3 : Same H2 (upd H2 tl (.lst [V.ref x0, V.ref x1])) := same_new ntl
  have nl1' : H1 l1 = none := by
    have : Same H1 (upd (upd H1 e1 (.own x1)) x1 (.ins CT e1 [])) := (same_new ne1).trans (same_new (by rw [upd_ne nn1.symm]; exact nx1))
    exact this.free nl1
  refine k _ tl x0 x1 e0 e1 l0 l1 ((s1.trans s2).trans s3) ((s1.trans s2).free ntl) nx0 (s1.free nx1) (s0.free nl0) (s1.free nl1') (ne_of_none (s2 _ _ hl0) ntl).symm (ne_of_none hl1 ntl).symm (ne_of_none hl0 nl1') upd_same (s3 _ _ (s2 _ _ hx0)) (s3 _ _ hx1) (s3 _ _ (s2 _ _ hl0)) (s3 _ _ hl1)
theorem house_new {av : List Addr} {H : Hp} {h dx tl t0 t1 d0 d1 l0 l1 : Addr} {n w0 w1 : Nat} (hh : H h = some (.ins CH dx (houF n tl))) (htl : H tl = some (.lst [.ref t0, .ref t1])) (h0 : H t0 = some (.ins CT d0 (tabF w0 l0))) (h1 : H t1 = some (.ins CT d1 (tabF w1 l1)))
    (q0 : H l0 = some (.lst [])) (q1 : H l1 = some (.lst [])) (a : tl ∉ av) (a0 : l0 ∉ av) (a1 : l1 ∉ av) (n0 : tl ≠ l0) (n1 : tl ≠ l1) (n01 : l0 ≠ l1) : HouseAt CR CT CH av H h ⟨n, [⟨w0, []⟩, ⟨w1, []⟩]⟩ := by
  refine ⟨dx, tl, fun k => if k = 0 then t0 else t1, fun k => if k = 0 then d0 else d1, fun k => if k = 0 then l0 else l1, fun _ => [], hh, htl, a, n0, n1, n01, fun k hk => ?_, fun k hk => ?_, fun k hk => ?_, fun k hk => ?_⟩
  · rcases lt2 hk with e | e <;> subst e
    · exact h0
    · exact h1
  · rcases lt2 hk with e | e <;> subst e
    · exact a0
    · exact a1
  · rcases lt2 hk with e | e <;> subst e
    · exact q0
    · exact q1
  · rcases lt2 hk with e | e <;> subst e
    · exact trivial
    · exact trivial
theorem not_av {av : List Addr} {H : Hp} (ha : ∀ b ∈ av, H b ≠ none) {b : Addr} (n : H b = none) : b ∉ av := fun z => ha b z n
theorem scHInit : FnScope ["self"] ["self"] (defScope sHInit) := ⟨rfl, rfl, rfl, by decide +kernel, rfl, by decide +kernel, by decide +kernel⟩
def spHInit (CR CT CH : Addr) : Sp := fun vs H Q _ => ∃ (p dx : Addr) (av : List Addr), vs = [.ref p] ∧ H p = some (.ins CH dx []) ∧ (∀ b ∈ av, H b ≠ none) ∧
  ∀ H' : Hp, HouseAt CR CT CH av H' p Wf07.init → (∀ b o, H b = some o → b ≠ p → H' b = some o) → Q .non H'
theorem ok_hInit (F : Fun K "__init__" "House.__init__" sHInit f fd) (T : TH K mg CH) (cT : Ma P w K mg base 1 "Table" CT ["self", "way"] (spTInit CT)) : FnOk P w K mg base CX0 3 f fd ["self"] (spHInit CR CT CH) := by
  refine F.ok scHInit (fun vs H Q E h => ?_) (fun cdv A outer s H vs Q E hr h => ?_)
  · obtain ⟨p, dx, av, rfl, _⟩ := h
    rfl
  · refine ⟨_, pss_cons (ps_fld (pv 0) pe_int rfl) (pss_one (ps_fld (pv 0) (pe_lst (pa_cons (pe_ma cT hr (pa_cons pe_int pa_nil)) (pa_cons (pe_ma cT hr (pa_cons pe_int pa_nil)) pa_nil))) rfl)), ?_⟩
    obtain ⟨p, dx, av, rfl, hp, hav, k⟩ := h
    refine ⟨_, rfl, p, CH, dx, [], rfl, hp, T.cl, T.nWidth, (by show 0 < 1000; decide), ?_⟩
    dsimp only [tSeq, sFld]
    refine make_two (CT := CT) (n0 := 0) (n1 := 0) (ta := tC (.int 0)) (tb := tC (.int 0)) (fun _ _ q => q) (fun _ _ q => q) fun H1 tl t0 t1 d0 d1 l0 l1 s1 ntl nt0 nt1 nl0 nl1 n0 n1 n01 htl h0 h1 q0 q1 => ?_
    have hp1 := s1 _ _ upd_same
    refine ⟨_, rfl, p, CH, dx, _, rfl, hp1, T.cl, T.nTables, (by show 1 < 1000; decide), ?_⟩
    have nn : ∀ {b : Addr}, (upd H p (.ins CH dx (putF "width" (V.int 1) []))) b = none → b ≠ p ∧ H b = none := fun {b} e => by
      have np : b ≠ p := fun z => by
        rw [z, upd_same] at e
        cases e
      rw [upd_ne np] at e
      exact ⟨np, e⟩
    refine k _ (house_new (dx := dx) ?_ (upd_keep htl (nn ntl).1) (upd_keep h0 (nn nt0).1) (upd_keep h1 (nn nt1).1) (upd_keep q0 (nn nl0).1) (upd_keep q1 (nn nl1).1) (not_av hav (nn ntl).2) (not_av hav (nn nl0).2) (not_av hav (nn nl1).2) n0 n1 n01) fun b o e hb => ?_
    · exact Eq.trans upd_same (congrArg (fun q => some (HO.ins CH dx q)) ((put_past (by decide +kernel)).trans rfl))
    · rw [upd_ne hb]
      refine s1 _ _ ?_
      rw [upd_ne hb]
      exact e
abbrev nBegins : List Str := ["self", "width", "first", "second"]
theorem scBegins : FnScope nBegins nBegins (defScope sBegins) := ⟨rfl, rfl, rfl, by decide +kernel, rfl, by decide +kernel, by decide +kernel⟩
def spBegins (CR CT CH : Addr) : Sp := fun vs H Q _ => ∃ (h : Addr) (av : List Addr) (m : Wf07.House) (n a b : Nat), vs = [.ref h, .int (n : Int), .int (a : Int), .int (b : Int)] ∧ HouseAt CR CT CH av H h m ∧ (∀ b ∈ av, H b ≠ none) ∧ Done CR CT CH av h m (.begins n a b) H Q
theorem ok_begins (F : Fun K "begins" "House.begins" sBegins f fd) (T : TH K mg CH) (TD : TD mg) (cT : Ma P w K mg base 1 "Table" CT ["self", "way"] (spTInit CT)) : FnOk P w K mg base CX0 3 f fd nBegins (spBegins CR CT CH) := by
  refine F.ok scBegins (fun vs H Q E h => ?_) (fun cdv A outer s H vs Q E hr h => ?_)
  · obtain ⟨h, av, m, n, a, b, rfl, _⟩ := h
    rfl
  · refine ⟨_, pss_cons (ps_if (PW.pt (pw_or (pt_not (pt_chain op_le op_le pe_int (pv 1) (pe_const T.mostV)))
        (pw_or1 (pt_cmpR op_gt (pe_callB (call_max2 rfl) (by rfl) TD.max (by decide +kernel) (pa_cons (pv 2) (pa_cons (pv 3) pa_nil))) (pe_const TD.way) (nomark _))))) (pss_one (ps_ret (pe_lst (pa_cons (pe_const T.wrong) pa_nil)))) pss_nil)
      (pss_cons (ps_fld (pv 0) (pv 1) rfl)
      (pss_cons (ps_fld (pv 0) (pe_lst (pa_cons (pe_ma cT hr (pa_cons (pv 2) pa_nil)) (pa_cons (pe_ma cT hr (pa_cons (pv 3) pa_nil)) pa_nil))) rfl)
      (pss_one (ps_ret (pe_lst (pa_cons pe_int pa_nil)))))), ?_⟩
    obtain ⟨h, av, m, n, a, b, rfl, hh, hav, k⟩ := h
    have bad : (n = 0 ∨ 3 < n ∨ 3 < a ∨ 3 < b) → tRet (tLst (tCons (tC (V.int (-1))) tNil)) { nx := fun _ H' => Q .non H', rt := Q } (L2.start nBegins [V.ref h, V.int (n : Int), V.int (a : Int), V.int (b : Int)]) H := fun c => by
      have e : Wf07.step m (.begins n a b) = (m, Wf07.ok (-1)) := if_pos c
      exact ⟨(by show 1 ≤ sizeLine; decide), fun q nq => k.same e hh (same_new nq) nq upd_same⟩
    have go : ¬ (n = 0 ∨ 3 < n ∨ 3 < a ∨ 3 < b) → tSeq (sFld K (tVar 0) (tVar 1) "width") (tSeq (sFld K (tVar 0) (tLst (tCons (tMake CT (spTInit CT) [] E0 (tCons (tVar 2) tNil)) (tCons (tMake CT (spTInit CT) [] E0 (tCons (tVar 3) tNil)) tNil))) "tables") (tRet (tLst (tCons (tC (V.int 0)) tNil))))
        { nx := fun _ H' => Q .non H', rt := Q } (L2.start nBegins [V.ref h, V.int (n : Int), V.int (a : Int), V.int (b : Int)]) H := fun c => by
      have e : Wf07.step m (.begins n a b) = (⟨n, [⟨a, []⟩, ⟨b, []⟩]⟩, Wf07.ok 0) := if_neg c
      obtain ⟨dx, tl, t, d, l, as, p⟩ := hh
      refine ⟨_, rfl, _, rfl, h, CH, dx, _, rfl, p.hh, T.cl, T.nWidth, (by show 2 < 1000; decide), ?_⟩
      dsimp only [tSeq, sFld]
      refine make_two (CT := CT) (n0 := a) (n1 := b) (ta := tVar 2) (tb := tVar 3) (fun _ _ q => ⟨_, rfl, q⟩) (fun _ _ q => ⟨_, rfl, q⟩) fun H1 tl t0 t1 d0 d1 l0 l1 s1 ntl nt0 nt1 nl0 nl1 n0 n1 n01 htl h0 h1 q0 q1 => ?_
      have hp1 := s1 _ _ upd_same
      refine ⟨_, rfl, h, CH, dx, _, rfl, hp1, T.cl, T.nTables, (by rw [show putF "width" (V.int (n : Int)) (houF m.values _) = houF n _ from put_here]; show 2 < 1000; decide), ?_⟩
      have nn : ∀ {b : Addr} {u : HO}, (upd H h u) b = none → b ≠ h ∧ H b = none := fun {b u} e => by
        have np : b ≠ h := fun z => by
          rw [z, upd_same] at e
          cases e
        rw [upd_ne np] at e
        exact ⟨np, e⟩
      refine ⟨(by show 1 ≤ sizeLine; decide), fun q nq => ?_⟩
      have hq : H q = none := by
        refine (nn (s1.free ?_)).2
        by_cases z : q = h
        · rw [z, upd_same] at nq
          cases nq
        · rw [upd_ne z] at nq
          exact nq
      refine k _ q ?_ ?_ hq ?_
      · rw [e]
        refine HouseAt.same (same_new nq) (house_new (dx := dx) ?_ (upd_keep htl (nn ntl).1) (upd_keep h0 (nn nt0).1) (upd_keep h1 (nn nt1).1) (upd_keep q0 (nn nl0).1) (upd_keep q1 (nn nl1).1) (not_av hav (nn ntl).2) (not_av hav (nn nl0).2) (not_av hav (nn nl1).2) n0 n1 n01)
        refine Eq.trans upd_same (congrArg (fun q => some (HO.ins CH dx q)) ?_)
        rw [show putF "width" (V.int (n : Int)) (houF m.values _) = houF n _ from put_here]
        exact (put_past (by decide +kernel)).trans (congrArg _ put_here)
      · intro c o eo ch _
        refine (same_new nq) _ _ ?_
        rw [upd_ne ch]
        refine s1 _ _ ?_
        rw [upd_ne ch]
        exact eo
      · rw [e]
        exact upd_same
    refine ⟨_, rfl, _, _, rfl, rfl, _, rfl, ?_⟩
    by_cases c1 : 1 ≤ n
    · refine ifT (decide_eq_true (by omega)) ⟨_, _, rfl, rfl, _, rfl, ?_⟩
      by_cases c2 : n ≤ 3
      · refine ifF (by rw [decide_eq_true (by omega)]; rfl) ?_
        refine ⟨_, rfl, _, rfl, _, _, rfl, _, _, rfl, rfl, _, rfl, ?_⟩
        by_cases c3 : 3 < a ∨ 3 < b
        · exact ifT (decide_eq_true (by split <;> omega)) (bad (by omega))
        · exact ifF (decide_eq_false (by split <;> omega)) (go (by omega))
      · exact ifT (by rw [decide_eq_false (by omega)]; rfl) (bad (by omega))
    · exact ifF (decide_eq_false (by omega)) ⟨_, rfl, bad (by omega)⟩
end
end DC

set_option Elab.async false
set_option linter.all false
set_option maxRecDepth 100000
set_option maxHeartbeats 2000000
namespace DC
open PySem PySem.Spec PyProof.Rows L2
section
variable {P : Program} {w : World} {K : PySem.W.Frag} {mg : Str → Option Value} {base : Heap} {CR CT CH : Addr} {f : Addr} {fd : FuncData}
/-- return [number] -/
theorem ret_one {D : Ends} {σ : L2.St} {H : Hp} {z : Int} (k : ∀ q, H q = none → D.rt (.ref q) (upd H q (.lst [V.int z]))) : tRet (tLst (tCons (tC (V.int z)) tNil)) D σ H := ⟨(by show 1 ≤ sizeLine; decide), fun q nq => k q nq⟩
abbrev nRule : List Str := ["self", "table", "row", "rules"]
theorem scRule : FnScope nRule ["self", "table", "row"] (defScope sRule) := ⟨rfl, rfl, rfl, by decide +kernel, rfl, by decide +kernel, by decide +kernel⟩
def spRule (K : PySem.W.Frag) (CR CT CH : Addr) : Sp := fun vs H Q _ => ∃ (h p : Addr) (av : List Addr) (m : Wf07.House) (k : Nat) (row : List Nat), vs = [.ref h, .int (k : Int), .ref p] ∧ HouseAt CR CT CH av H h m ∧ HV m ∧ SqL K H p (vi row) ∧ (∀ b ∈ av, H b ≠ none) ∧ Done CR CT CH av h m (.rule k row) H Q
theorem ok_rule (F : Fun K "rule" "House.rule" sRule f fd) (T : TH K mg CH) (TT : TT K mg CT) (TR : TR K mg CR) (cHas : Me P w K mg base 1 CH "has_table" ["self", "table"] (spHas CR CT CH)) (cIs : Fn P w K mg base 2 "is_rule" ["row", "width"] (spIsRule K))
    (cFrom : Fn P w K mg base 3 "rule_from" ["row"] (spRuleFrom K CR)) : FnOk P w K mg base CX0 4 f fd ["self", "table", "row"] (spRule K CR CT CH) := by
  refine F.ok scRule (fun vs H Q E h => ?_) (fun cdv A outer s H vs Q E hr h => ?_)
  · obtain ⟨h, p, av, m, k, row, rfl, _⟩ := h
    rfl
  · refine ⟨_, pss_cons (ps_if (pt_not (pt_val (pe_me cHas (hr.mono (by decide)) (pv 0) (pa_cons (pv 1) pa_nil)))) (pss_one (ps_ret (pe_lst (pa_cons (pe_const T.absent) pa_nil)))) pss_nil)
      (pss_cons (ps_if (pt_not (pt_val (pe_fn cIs (hr.mono (by decide)) (pa_cons (pv 2) (pa_cons (pe_fld (pv 0) rfl) pa_nil))))) (pss_one (ps_ret (pe_lst (pa_cons (pe_const T.wrong) pa_nil)))) pss_nil)
      (pss_cons (ps_set (i := 3) scRule.nd rfl (Or.inl rfl) (pe_fld (pe_ix ix_list (pe_fld (pv 0) rfl) (pv 1) (fun _ _ => rfl)) rfl))
      (pss_cons (ps_if (pt_cmpR op_eq (pe_callB call_len_seq (by rfl) TR.len PySem.boot_len (pa_cons (pv 3) pa_nil)) (pe_const T.mostR) (nomark _)) (pss_one (ps_ret (pe_lst (pa_cons (pe_const T.full) pa_nil)))) pss_nil)
      (pss_cons (ps_expr (pe_bm PySem.F.plainAttrs_list PySem.F.slot_list_append PySem.F.type_list_append mt_append (pv 3) (pa_cons (pe_fn cFrom hr (pa_cons (pv 2) pa_nil)) pa_nil)))
      (pss_one (ps_ret (pe_lst (pa_cons (pe_op op_sub (pe_callB call_len_seq (by rfl) TR.len PySem.boot_len (pa_cons (pv 3) pa_nil)) pe_int) pa_nil)))))))), ?_⟩
    obtain ⟨h, p, av, m, k, row, rfl, hh, hv, hp, hav, done⟩ := h
    obtain ⟨dx, tl, t, d, l, as, hP⟩ := id hh
    refine ⟨_, rfl, h, dx, _, rfl, hP.hh, houF_no _ _ _ (by decide +kernel) (by decide +kernel), _, rfl, h, av, m, k, rfl, hh, _, rfl, ?_⟩
    by_cases ck : k < 2
    · refine ifF (by rw [decide_eq_true ck]; rfl) ?_
      refine ⟨_, rfl, _, rfl, h, CH, dx, _, _, rfl, hP.hh, T.cl, T.nWidth, houF_width _ _, p, m.values, row, rfl, hp, hv.hi, fun H1 s1 => ⟨_, rfl, ?_⟩⟩
      cases hr' : Wf07.rule? m.values row with
      | none =>
        have e : Wf07.step m (.rule k row) = (m, Wf07.ok (-1)) := by
          show (if 2 ≤ k then _ else match Wf07.rule? m.values row with | none => (m, Wf07.ok (-1)) | some r => _) = _
          rw [if_neg (by omega), hr']
        exact ret_one fun q nq => done.same e hh (s1.trans (same_new nq)) (s1.free nq) upd_same
      | some r =>
        have hP1 := hP.same s1
        refine ⟨_, rfl, h, CH, dx, _, _, rfl, hP1.hh, T.cl, T.nTables, houF_tables _ _, _, rfl, tl, _, _, _, rfl, rfl, SqL.of hP1.htl, hP.at_ ck, t k, CT, d k, _, _, rfl, hP1.tab k ck, TT.cl, TT.nRules, tabF_rules _ _, ?_⟩
        refine ⟨_, rfl, l k, _, rfl, .inl (SqL.of (hP1.lst k ck)), rfl, _, rfl, ?_⟩
        have hlen : ((as k).map V.ref).length = (m.t k).rules.length := by rw [List.length_map, (hP.rul k ck).len]
        have e0 : Wf07.step m (.rule k row) = if (m.t k).rules.length = 6 then (m, Wf07.ok (-7)) else (setR m k ((m.t k).rules ++ [r]), Wf07.ok ((m.t k).rules.length : Nat)) := by
          show (if 2 ≤ k then _ else match Wf07.rule? m.values row with | none => _ | some r => (if (m.t k).rules.length = 6 then (m, Wf07.ok (-7)) else (setR m k ((m.t k).rules ++ [r]), Wf07.ok ((m.t k).rules.length : Nat)))) = _
          rw [if_neg (by omega), hr']
        by_cases c6 : (m.t k).rules.length = 6
        · rw [if_pos c6] at e0
          exact ifT (decide_eq_true (by rw [hlen, c6]; rfl)) (ret_one fun q nq => done.same e0 hh (s1.trans (same_new nq)) (s1.free nq) upd_same)
        · rw [if_neg c6] at e0
          refine ifF (decide_eq_false (by rw [hlen]; intro z; have := V.int.inj z; omega)) ?_
          refine ⟨_, rfl, .inl ⟨rfl, _, SqL.of (hP1.lst k ck)⟩, _, rfl, p, m.values, row, r, rfl, s1.seq hp, hv.hi, hr', fun H2 a da la s2 na nla ha hla => ?_⟩
          have hP2 := hP1.same s2
          have h6 := hv.many k
          refine ⟨l k, _, _, rfl, rfl, hP2.lst k ck, (by rw [hlen, sizeLine_eq]; omega), ?_⟩
          have hap : All2 (RuleAp CR (l 0 :: l 1 :: av) H2) (as k ++ [a]) ((m.t k).rules ++ [r]) := (hP2.rul k ck).snoc ⟨da, la, fun z => by
            rcases List.mem_cons.mp z with z | z
            · rw [z, hP1.lst 0 (by omega)] at nla
              cases nla
            · rcases List.mem_cons.mp z with z | z
              · rw [z, hP1.lst 1 (by omega)] at nla
                cases nla
              · exact hav la z (s1.free nla), ha, hla⟩
          have hP3 := hP2.put hv.two ck hap
          rw [List.map_append] at hP3
          refine ⟨_, rfl, l k, _, rfl, .inl (SqL.of upd_same), _, _, rfl, rfl, (by show 1 ≤ sizeLine; decide), fun q nq => ?_⟩
          have hq2 : H2 q = none := by
            by_cases z : q = l k
            · rw [z, upd_same] at nq
              cases nq
            · rw [upd_ne z] at nq
              exact nq
          refine done _ q ?_ ?_ ((s1.trans s2).free hq2) ?_
          · rw [e0]
            exact ⟨dx, tl, t, d, l, _, hP3.same (same_new nq)⟩
          · intro b o eb hb hc
            have e2 := (s1.trans s2) _ _ eb
            refine same_new nq _ _ (upd_keep e2 ?_)
            rcases hc with hc | hc
            · exact fun z => hP.lav k ck (z ▸ hc)
            · exact fun z => by
                rw [z, hP.lst k ck] at eb
                exact hc _ (Option.some.inj eb).symm
          · rw [e0, upd_same]
            show some (HO.lst [V.int ((((as k).map V.ref ++ [V.ref a]).length : Int) - 1)]) = some (HO.lst [V.int (((m.t k).rules.length : Nat) : Int)])
            rw [List.length_append, hlen]
            simp only [List.length_cons, List.length_nil]
            congr 4
            omega
    · have e : Wf07.step m (.rule k row) = (m, Wf07.ok (-2)) := by
        show (if 2 ≤ k then (m, Wf07.ok (-2)) else _) = _
        rw [if_pos (by omega)]
      exact ifT (by rw [decide_eq_false ck]; rfl) (ret_one fun q nq => done.same e hh (same_new nq) nq upd_same)
end
end DC

set_option Elab.async false
set_option linter.all false
set_option maxRecDepth 100000
set_option maxHeartbeats 2000000
namespace DC
open PySem PySem.Spec PyProof.Rows L2
section
variable {P : Program} {w : World} {K : PySem.W.Frag} {mg : Str → Option Value} {base : Heap} {CR CT CH : Addr} {f : Addr} {fd : FuncData}
theorem seq_ix {i n : Nat} (h : i < n) : seqIndex? (i : Int) n = some i := by
  unfold seqIndex?
  have h1 : ¬ ((i : Int) < 0) := by omega
  have h2 : (i : Int) < (n : Int) := by omega
  have h3 : (0 : Int) ≤ (i : Int) := by omega
  simp only [if_neg h1]
  rw [if_pos (by simp only [Bool.and_eq_true, decide_eq_true_eq]; exact ⟨h3, h2⟩), Int.toNat_natCast]
theorem erase_map {α β : Type} (g : α → β) : ∀ (l : List α) (i : Nat), (l.map g).eraseIdx i = (l.eraseIdx i).map g
  | [], _ => rfl
  | _ :: _, 0 => rfl
  | a :: l, i + 1 => congrArg (g a :: ·) (erase_map g l i)
abbrev nDrop : List Str := ["self", "table", "which", "rules"]
theorem scDrop : FnScope nDrop ["self", "table", "which"] (defScope sDrop) := ⟨rfl, rfl, rfl, by decide +kernel, rfl, by decide +kernel, by decide +kernel⟩
def spDrop (CR CT CH : Addr) : Sp := fun vs H Q _ => ∃ (h : Addr) (av : List Addr) (m : Wf07.House) (k i : Nat), vs = [.ref h, .int (k : Int), .int (i : Int)] ∧ HouseAt CR CT CH av H h m ∧ HV m ∧ Done CR CT CH av h m (.drop k i) H Q
theorem ok_drop (F : Fun K "drop" "House.drop" sDrop f fd) (T : TH K mg CH) (TT : TT K mg CT) (TR : TR K mg CR) (cHas : Me P w K mg base 1 CH "has_table" ["self", "table"] (spHas CR CT CH)) : FnOk P w K mg base CX0 2 f fd ["self", "table", "which"] (spDrop CR CT CH) := by
  refine F.ok scDrop (fun vs H Q E h => ?_) (fun cdv A outer s H vs Q E hr h => ?_)
  · obtain ⟨h, av, m, k, i, rfl, _⟩ := h
    rfl
  · refine ⟨_, pss_cons (ps_if (pt_not (pt_val (pe_me cHas hr (pv 0) (pa_cons (pv 1) pa_nil)))) (pss_one (ps_ret (pe_lst (pa_cons (pe_const T.absent) pa_nil)))) pss_nil)
      (pss_cons (ps_set (i := 3) scDrop.nd rfl (Or.inl rfl) (pe_fld (pe_ix ix_list (pe_fld (pv 0) rfl) (pv 1) (fun _ _ => rfl)) rfl))
      (pss_cons (ps_if (pt_cmpR op_ge (pv 2) (pe_callB call_len_seq (by rfl) TR.len PySem.boot_len (pa_cons (pv 3) pa_nil)) (nomark _)) (pss_one (ps_ret (pe_lst (pa_cons (pe_const T.absent) pa_nil)))) pss_nil)
      (pss_cons (ps_expr (pe_bm PySem.F.plainAttrs_list PySem.F.slot_list_pop PySem.F.type_list_pop mt_popAt (pv 3) (pa_cons (pv 2) pa_nil)))
      (pss_one (ps_ret (pe_lst (pa_cons (pe_callB call_len_seq (by rfl) TR.len PySem.boot_len (pa_cons (pv 3) pa_nil)) pa_nil))))))), ?_⟩
    obtain ⟨h, av, m, k, i, rfl, hh, hv, done⟩ := h
    obtain ⟨dx, tl, t, d, l, as, hP⟩ := id hh
    refine ⟨_, rfl, h, dx, _, rfl, hP.hh, houF_no _ _ _ (by decide +kernel) (by decide +kernel), _, rfl, h, av, m, k, rfl, hh, _, rfl, ?_⟩
    by_cases ck : k < 2
    · refine ifF (by rw [decide_eq_true ck]; rfl) ?_
      have hlen : ((as k).map V.ref).length = (m.t k).rules.length := by rw [List.length_map, (hP.rul k ck).len]
      refine ⟨_, rfl, h, CH, dx, _, _, rfl, hP.hh, T.cl, T.nTables, houF_tables _ _, _, rfl, tl, _, _, _, rfl, rfl, SqL.of hP.htl, hP.at_ ck, t k, CT, d k, _, _, rfl, hP.tab k ck, TT.cl, TT.nRules, tabF_rules _ _, ?_⟩
      refine ⟨_, rfl, _, rfl, l k, _, rfl, .inl (SqL.of (hP.lst k ck)), _, _, rfl, rfl, _, rfl, ?_⟩
      by_cases ci : i < (m.t k).rules.length
      · refine ifF (decide_eq_false (by rw [hlen]; omega)) ?_
        have h6 := hv.many k
        have e0 : Wf07.step m (.drop k i) = (setR m k ((m.t k).rules.eraseIdx i), Wf07.ok ((m.t k).rules.length - 1 : Nat)) := by
          show (if 2 ≤ k ∨ (m.t k).rules.length ≤ i then _ else ({ m with tables := m.tables.set k ((m.t k).without i) }, Wf07.ok ((m.t k).rules.length - 1 : Nat))) = _
          rw [if_neg (by omega), DM.without_is]
          rfl
        have hia : i < ((as k).map V.ref).length := by omega
        refine ⟨_, rfl, .inl ⟨rfl, _, SqL.of (hP.lst k ck)⟩, _, rfl, l k, _, (i : Int), i, _, rfl, rfl, hP.lst k ck, (by omega), (by omega), ?_, List.getElem?_eq_getElem hia, ?_⟩
        · exact seq_ix hia
        · rw [erase_map]
          have hP2 := hP.put hv.two ck ((hP.rul k ck).erase i)
          refine ⟨_, rfl, l k, _, rfl, .inl (SqL.of upd_same), (by show 1 ≤ sizeLine; decide), fun q nq => ?_⟩
          refine done _ q ?_ ?_ ?_ ?_
          · rw [e0]
            exact ⟨dx, tl, t, d, l, _, hP2.same (same_new nq)⟩
          · intro b o eb hb hc
            refine same_new nq _ _ (upd_keep eb ?_)
            rcases hc with hc | hc
            · exact fun z => hP.lav k ck (z ▸ hc)
            · exact fun z => by
                rw [z, hP.lst k ck] at eb
                exact hc _ (Option.some.inj eb).symm
          · by_cases z : q = l k
            · rw [z, upd_same] at nq
              cases nq
            · rw [upd_ne z] at nq
              exact nq
          · rw [e0, upd_same]
            show some (HO.lst [V.int (((((as k).eraseIdx i).map V.ref).length : Nat) : Int)]) = some (HO.lst [V.int (((m.t k).rules.length - 1 : Nat) : Int)])
            rw [List.length_map] at hlen hia
            rw [List.length_map, List.length_eraseIdx_of_lt hia, hlen]
      · have e : Wf07.step m (.drop k i) = (m, Wf07.ok (-2)) := by
          show (if 2 ≤ k ∨ (m.t k).rules.length ≤ i then (m, Wf07.ok (-2)) else _) = _
          rw [if_pos (by omega)]
        exact ifT (decide_eq_true (by rw [hlen]; omega)) (ret_one fun q nq => done.same e hh (same_new nq) nq upd_same)
    · have e : Wf07.step m (.drop k i) = (m, Wf07.ok (-2)) := by
        show (if 2 ≤ k ∨ (m.t k).rules.length ≤ i then (m, Wf07.ok (-2)) else _) = _
        rw [if_pos (by omega)]
      exact ifT (by rw [decide_eq_false ck]; rfl) (ret_one fun q nq => done.same e hh (same_new nq) nq upd_same)
abbrev nDecides : List Str := ["self", "table", "point", "held", "number"]
theorem scDecides : FnScope nDecides ["self", "table", "point"] (defScope sDecides) := ⟨rfl, rfl, rfl, by decide +kernel, rfl, by decide +kernel, by decide +kernel⟩
def spDecides (K : PySem.W.Frag) (CR CT CH : Addr) : Sp := fun vs H Q _ => ∃ (h p : Addr) (av : List Addr) (m : Wf07.House) (k : Nat) (x : List Nat), vs = [.ref h, .int (k : Int), .ref p] ∧ HouseAt CR CT CH av H h m ∧ HV m ∧ SqL K H p (vi x) ∧ x.length ≤ 1000 ∧ Done CR CT CH av h m (.decides k x) H Q
theorem isPoint_eq (m : Wf07.House) (x : List Nat) : Wf07.isPoint m x = (x.length == m.values && x.all fun a => decide (a ≤ 100)) := rfl
/-- what is decided, and told -/
theorem told_decides (t : Wf07.Table) (x : List Nat) : (⟨Wf07.word (t.decides x), if t.hits x = [] then [] else match t.decides x with | .says _ => t.hits x | _ => []⟩ : Wf07.Ans) =
    if Wf07.word (t.decides x) < 0 then Wf07.ok (Wf07.word (t.decides x)) else ⟨Wf07.word (t.decides x), t.hits x⟩ := by
  cases e : t.decides x with
  | says n =>
    have h : ¬ Wf07.word (.says n) < 0 := by show ¬ ((n : Nat) : Int) < 0; omega
    rw [if_neg h]
    by_cases c : t.hits x = []
    · rw [c]
      rfl
    · rw [if_neg c]
  | nothing =>
    rw [if_pos (show Wf07.word .nothing < 0 by decide)]
    show (⟨-6, if t.hits x = [] then [] else []⟩ : Wf07.Ans) = ⟨-6, []⟩
    rw [ite_self]
  | clash =>
    rw [if_pos (show Wf07.word .clash < 0 by decide)]
    show (⟨-9, if t.hits x = [] then [] else []⟩ : Wf07.Ans) = ⟨-9, []⟩
    rw [ite_self]
theorem ok_decides (F : Fun K "decides" "House.decides" sDecides f fd) (T : TH K mg CH) (TT : TT K mg CT) (cHas : Me P w K mg base 1 CH "has_table" ["self", "table"] (spHas CR CT CH)) (cIs : Fn P w K mg base 1 "is_point" ["row", "width"] (spIsPoint K))
    (cH : Me P w K mg base 2 CT "holding" ["self", "point"] (spHolding K CR CT)) (cD : Me P w K mg base 2 CT "decision" ["self", "held"] (spDecision K CR CT)) : FnOk P w K mg base CX0 3 f fd ["self", "table", "point"] (spDecides K CR CT CH) := by
  refine F.ok scDecides (fun vs H Q E h => ?_) (fun cdv A outer s H vs Q E hr h => ?_)
  · obtain ⟨h, p, av, m, k, x, rfl, _⟩ := h
    rfl
  · refine ⟨_, pss_cons (ps_if (pt_not (pt_val (pe_me cHas (hr.mono (by decide)) (pv 0) (pa_cons (pv 1) pa_nil)))) (pss_one (ps_ret (pe_lst (pa_cons (pe_const T.absent) pa_nil)))) pss_nil)
      (pss_cons (ps_if (pt_not (pt_val (pe_fn cIs (hr.mono (by decide)) (pa_cons (pv 2) (pa_cons (pe_fld (pv 0) rfl) pa_nil))))) (pss_one (ps_ret (pe_lst (pa_cons (pe_const T.wrong) pa_nil)))) pss_nil)
      (pss_cons (ps_set (i := 3) scDecides.nd rfl (Or.inl rfl) (pe_me cH hr (pe_ix ix_list (pe_fld (pv 0) rfl) (pv 1) (fun _ _ => rfl)) (pa_cons (pv 2) pa_nil)))
      (pss_cons (ps_set (i := 4) scDecides.nd rfl (Or.inl rfl) (pe_me cD hr (pe_ix ix_list (pe_fld (pv 0) rfl) (pv 1) (fun _ _ => rfl)) (pa_cons (pv 3) pa_nil)))
      (pss_cons (ps_if (pt_cmpR op_lt (pv 4) pe_int (nomark _)) (pss_one (ps_ret (pe_lst (pa_cons (pv 4) pa_nil)))) pss_nil)
      (pss_one (ps_ret (pe_op op_cat (pe_lst (pa_cons (pv 4) pa_nil)) (pv 3)))))))), ?_⟩
    obtain ⟨h, p, av, m, k, x, rfl, hh, hv, hp, hx, done⟩ := h
    obtain ⟨dx, tl, t, d, l, as, hP⟩ := id hh
    refine ⟨_, rfl, h, dx, _, rfl, hP.hh, houF_no _ _ _ (by decide +kernel) (by decide +kernel), _, rfl, h, av, m, k, rfl, hh, _, rfl, ?_⟩
    by_cases ck : k < 2
    · refine ifF (by rw [decide_eq_true ck]; rfl) ?_
      refine ⟨_, rfl, _, rfl, h, CH, dx, _, _, rfl, hP.hh, T.cl, T.nWidth, houF_width _ _, p, m.values, x, rfl, hp, hx, fun H1 s1 => ⟨_, rfl, ?_⟩⟩
      rw [← isPoint_eq]
      cases hpt : Wf07.isPoint m x with
      | false =>
        have e : Wf07.step m (.decides k x) = (m, Wf07.ok (-1)) := by
          show (if 2 ≤ k then _ else if Wf07.isPoint m x = false then (m, Wf07.ok (-1)) else _) = _
          rw [if_neg (by omega), if_pos hpt]
        exact ret_one fun q nq => done.same e hh (s1.trans (same_new nq)) (s1.free nq) upd_same
      | true =>
        have hxl : x.length = m.values := by
          rw [isPoint_eq, Bool.and_eq_true] at hpt
          exact beq_iff_eq.mp hpt.1
        have e : Wf07.step m (.decides k x) = (m, if Wf07.word ((m.t k).decides x) < 0 then Wf07.ok (Wf07.word ((m.t k).decides x)) else ⟨Wf07.word ((m.t k).decides x), (m.t k).hits x⟩) := by
          rw [← told_decides]
          show (if 2 ≤ k then _ else if Wf07.isPoint m x = false then _ else (m, _)) = _
          rw [if_neg (by omega), hpt, if_neg (by simp)]
          rfl
        have hP1 := hP.same s1
        have hrl : ∀ r ∈ (m.t k).rules, r.ranges.length = x.length := fun r hr => by
          rw [hxl]
          exact (hv.good k r hr).len
        have h6 := hv.many k
        refine ⟨_, rfl, h, CH, dx, _, _, rfl, hP1.hh, T.cl, T.nTables, houF_tables _ _, _, rfl, tl, _, _, _, rfl, rfl, SqL.of hP1.htl, hP.at_ ck, t k, d k, _, rfl, hP1.tab k ck, tabF_no _ _ _ (by decide +kernel) (by decide +kernel), _, rfl,
          t k, p, m.t k, x, rfl, hP1.table ck, s1.seq hp, hrl, hx, (by omega), fun H2 q s2 nq hq => ?_⟩
        have hP2 := hP1.same s2
        refine ⟨_, rfl, h, CH, dx, _, _, rfl, hP2.hh, T.cl, T.nTables, houF_tables _ _, _, rfl, tl, _, _, _, rfl, rfl, SqL.of hP2.htl, hP.at_ ck, t k, d k, _, rfl, hP2.tab k ck, tabF_no _ _ _ (by decide +kernel) (by decide +kernel), _, rfl,
          t k, q, m.t k, (m.t k).hits x, rfl, hP2.table ck, SqL.of hq, (fun i hi => DM.hits_lt hi), ?_, fun H3 s3 => ?_⟩
        · have := DM.hitsTo_len (m.t k) x (m.t k).rules.length
          rw [DM.hitsTo_all _ _ (Nat.le_refl _)] at this
          omega
        · have es : DM.decideL (m.t k).way (((m.t k).hits x).map (saysAt (m.t k))) = (m.t k).decides x := by
            rw [DM.decides_eq, DM.said_hits]
            rfl
          rw [es]
          refine ⟨_, rfl, _, _, rfl, rfl, _, rfl, ?_⟩
          have s13 := s1.trans (s2.trans s3)
          by_cases cn : Wf07.word ((m.t k).decides x) < 0
          · rw [if_pos cn] at e
            exact ifT (decide_eq_true cn) ⟨_, rfl, (by show 1 ≤ sizeLine; decide), fun u nu => done.same e hh (s13.trans (same_new nu)) (s13.free nu) upd_same⟩
          · rw [if_neg cn] at e
            refine ifF (decide_eq_false cn) ⟨_, rfl, (by show 1 ≤ sizeLine; decide), fun u nu => ⟨_, rfl, u, q, _, _, rfl, rfl, upd_same, upd_keep (s3 _ _ hq) (ne_of_none (s3 _ _ hq) nu), ?_, fun z nz => ?_⟩⟩
            · have := DM.hitsTo_len (m.t k) x (m.t k).rules.length
              rw [DM.hitsTo_all _ _ (Nat.le_refl _)] at this
              rw [List.length_map, sizeLine_eq]
              simp only [List.length_cons, List.length_nil]
              omega
            · have s4 := s13.trans (same_new (o := .lst [V.int (Wf07.word ((m.t k).decides x))]) nu)
              refine done.same e hh (s4.trans (same_new nz)) (s4.free nz) ?_
              rw [upd_same]
              show some (HO.lst (V.int (Wf07.word ((m.t k).decides x)) :: vi ((m.t k).hits x))) = some (HO.lst (V.int (Wf07.word ((m.t k).decides x)) :: (((m.t k).hits x).map fun (n : Nat) => (n : Int)).map V.int))
              rw [← vi_ints]
    · have e : Wf07.step m (.decides k x) = (m, Wf07.ok (-2)) := by
        show (if 2 ≤ k then (m, Wf07.ok (-2)) else _) = _
        rw [if_pos (by omega)]
      exact ifT (by rw [decide_eq_false ck]; rfl) (ret_one fun q nq => done.same e hh (same_new nq) nq upd_same)
end
end DC

set_option Elab.async false
set_option linter.all false
set_option maxRecDepth 100000
set_option maxHeartbeats 4000000
/-! min(xs, default=d) of a list of lists of whole numbers; xs.extend(t), t a tuple -/
namespace DC
open PySem PySem.Spec PyProof.Rows L2
theorem ext_tup (l : Addr) (items : Array Value) (n : Nat) (b : Addr) (items2 : Array Value) (n2 : Nat) (d2 : Option Addr) (sl2 : Array (Option Value)) (hs0 : ¬(!items.isEmpty && Builtin.List.listTooLong (items.size + items2.size)) = true) (hs1 : items.size ≤ sizeLine) (hs2 : items.size + items2.size ≤ sizeLine + 1) :
    Meets (Builtin.«list.extend» ⟨[.ref l, .ref b], []⟩) (fun _ R s => s.heap.get? l = some { cls := .type "list", dict := none, data := .seq items n, slots := #[] } ∧ s.heap.get? b = some { cls := .type "tuple", dict := d2, data := .seq items2 n2, slots := sl2 } ∧ R (.ok (.ret Value.none)) { s with heap := s.heap.update l (Obj.mapSeq fun x => x ++ items2), toks := s.toks }) :=
  .of_wp fun prog w A R s h => by
    obtain ⟨hp, g, d, tk, os⟩ := s; obtain ⟨hl, hb, h⟩ := h; have f1 := AutoSeq1.idx_int; have f2 := AutoSeq1.sub_tuple_tuple; have f3 := AutoSeq1.sub_list_list; have f4 := AutoSeq1.sub_tuple_list; have f5 := AutoSeq1.sub_list_tuple
    have joined : (items ++ items2).size ≤ sizeLine + 1 := Array.size_append ▸ hs2
    wp_walk using (wpAny_updateSeq hl rfl (hz := hs1) (_hz' := joined)), AutoSeq1.wpAny_loadPart' hl, AutoSeq1.wpAny_loadPart' hb
    exact ⟨_, rfl, h⟩
section
variable {X : Cx}
def rExtT : V → List V → Hp → VK → Prop := fun x vs H Q => ∃ l b xs zs, x = .ref l ∧ vs = [.ref b] ∧ H l = some (.lst xs) ∧ H b = some (.tup zs) ∧ xs.length + zs.length ≤ sizeLine ∧ Q .non (upd H l (.lst (xs ++ zs)))
theorem mt_extT : MtM X "list.extend" rExtT := by
  intro pins s σ H x vs v us Q I rx rv h
  obtain ⟨l, b, xs, zs, rfl, rfl, hH, hB, hz, q⟩ := h
  cases rx
  obtain ⟨u, rfl, ru⟩ := rv.one
  cases ru
  obtain ⟨z, its, n, r, hl, e⟩ := I.lstM hH
  obtain ⟨z2, its2, r2, ⟨oc, od, oda, osl⟩, ho, hc, n2, hd⟩ := I.hok b _ hB
  simp only at hc hd
  subst hc hd
  have hl2 := r2.length
  have hsz : its.toArray.size + its2.toArray.size ≤ sizeLine := by rw [List.size_toArray, List.size_toArray]; omega
  have hlong : ¬ (!its.toArray.isEmpty && Builtin.List.listTooLong (its.toArray.size + its2.toArray.size)) = true := by
    rw [notLongL hsz, Bool.and_false]
    exact Bool.false_ne_true
  refine call_meets F.slot_list_extend ⟨_, e, rfl⟩ F.entry_list_extend (F.args_list_extend_2 _ _)
    (ext_tup l its.toArray n b its2.toArray n2 od osl hlong (by rw [List.size_toArray]; omega) (by omega)) ⟨e, ho, ?_⟩
  refine ⟨.non, _, I.lset (its' := its ++ its2) hH e (by simp) (r.append r2) ?_, rfl, q⟩
  rw [List.length_append]
  omega
/-- the lists of whole numbers xss, at ts -/
def LL (H : Hp) (ts : List Addr) (xss : List (List Int)) : Prop := All2 (fun t xs => H t = some (.lst (xs.map V.int))) ts xss
def rMinD (K : PySem.W.Frag) : List V → List V → Hp → VK → Prop := fun vs zs H Q => ∃ (a : Addr) (d : V) (ts : List Addr) (xss : List (List Int)), vs = [.ref a] ∧ zs = [d] ∧ SqL K H a (ts.map V.ref) ∧ LL H ts xss ∧
  (xss = [] → Q d H) ∧ ∀ y ys t, xss = y :: ys → t ∈ ts → H t = some (.lst ((PySem.W.minOf y ys).map V.int)) → Q (.ref t) H
theorem hold_ints {h : Heap} : ∀ {ns : List Int} {us : List Value}, Vals (ns.map V.int) us → PySem.W.HoldAll h us ns
  | [], _, .nil => .nil
  | n :: ns, _, .cons r rs => by
    obtain ⟨t, rfl⟩ := r
    exact .cons (PySem.W.holds_int n t) (hold_ints rs)
theorem hold_list {pins : List (Addr × Obj)} {s : Shared} {σ : L2.St} {H : Hp} (I : Inv X pins σ H s) {t : Addr} {xs : List Int} (ht : H t = some (.lst (xs.map V.int))) : PySem.W.Holds s.heap (.ref t) xs := by
  obtain ⟨z, its, n, r, hl, e⟩ := I.lstM ht
  exact PySem.W.holds_list (vs := its.toArray) ⟨_, e, rfl, n, rfl⟩ (hold_ints r)
theorem hold_all {pins : List (Addr × Obj)} {s : Shared} {σ : L2.St} {H : Hp} (I : Inv X pins σ H s) : ∀ {ts : List Addr} {xss : List (List Int)} {us : List Value}, LL H ts xss → Vals (ts.map V.ref) us → PySem.W.HoldAll s.heap us xss
  | [], [], _, _, .nil => .nil
  | t :: ts, xs :: xss, _, ⟨h1, h2⟩, .cons r rs => by
    cases r
    exact .cons (hold_list I h1) (hold_all I h2 rs)
theorem holds_det {h : Heap} {v : Value} {a b : List Int} (ha : PySem.W.Holds h v a) (hb : PySem.W.Holds h v b) : a = b := by
  obtain ⟨as, ra⟩ := ha
  obtain ⟨bs, rb⟩ := hb
  have e := (reads_det (fun _ _ e _ => e) ra rb).1
  have e2 : PyData.eqv (PySem.W.Datum.toD a) (PySem.W.Datum.toD b) = decide (a = b) := PySem.W.Datum.eqv a b
  have e3 : PyData.eqv (PySem.W.Datum.toD a) (PySem.W.Datum.toD a) = decide (a = a) := PySem.W.Datum.eqv a a
  rw [e, e3, decide_eq_true rfl] at e2
  exact of_decide_eq_true e2.symm
theorem cr_minD (hc : X.calm = true) (hu : X.A.units + 64 < cLine) : CallRK X (.builtin "min") [Str.ofString "default"] (rMinD X.K) := by
  intro pins s σ H vs zs us ws Q I r rz h
  obtain ⟨a, d, ts, xss, rfl, rfl, ha, hll, h0, h1⟩ := h
  obtain rfl := Vals.ref1 r
  obtain ⟨w1, rfl, e1⟩ := vals1 rz
  obtain ⟨its, rv, pl, hz⟩ := I.list ha
  have hall := hold_all I hll rv
  refine PySem.W.min_list_datum_default (I.ok.hd hc) pl.isList (by simpa using hall) (by show X.A.units + 1 + 1 < cLine; omega) (fun e h' tk hk => ?_) fun y ys i v h' tk e hi hv hk => ?_
  · exact ⟨d, H, I.kept hk, e1, h0 e⟩
  · have hi' : its[i]? = some v := by simpa using hi
    have hil : i < (ts.map V.ref).length := by
      rw [Vals.length rv]
      exact (List.getElem?_eq_some_iff.mp hi').1
    obtain ⟨u, hu1, hu2⟩ := Vals.get rv (List.getElem?_eq_getElem hil)
    obtain ⟨t, ht, ex⟩ := refs_get (List.getElem?_eq_getElem hil)
    rw [hi'] at hu1
    cases hu1
    rw [ex] at hu2
    obtain rfl : v = Value.ref t := hu2
    obtain ⟨b, hb, hb2⟩ := hll.get' ht
    have e2 := holds_det (PySem.W.Holds.keeps hk (hold_list I hb2)) hv
    rw [e2] at hb2
    exact ⟨.ref t, H, I.kept hk, rfl, h1 y ys t e (List.mem_of_getElem? ht) hb2⟩
theorem minOf_is (y : List Int) : ∀ ys : List (List Int), PySem.W.minOf y ys = ys.foldl (fun a y => if DM.lexL y a = true then y else a) y := fun ys => by
  have lt : ∀ a b : List Int, PySem.W.DatumOrd.lt a b = DM.lexL a b := fun a b => by
    show PySem.W.listLt a b = DM.lexL a b
    induction a generalizing b with
    | nil => cases b <;> rfl
    | cons x xs ih =>
      cases b with
      | nil => rfl
      | cons z zs =>
        show (if x = z then PySem.W.listLt xs zs else decide (x < z)) = (if x = z then DM.lexL xs zs else decide (x < z))
        rw [ih zs]
  unfold PySem.W.minOf
  congr 1
  funext a b
  rw [lt]
end
end DC

set_option Elab.async false
set_option linter.all false
set_option maxRecDepth 100000
set_option maxHeartbeats 2000000
namespace DC
open PySem PySem.Spec PyProof.Rows L2
abbrev sUndec : Stmt := top 26
abbrev sUnlike : Stmt := top 27
abbrev sHow : Stmt := top 28
abbrev sOvl : Stmt := top 29
abbrev sIdleR : Stmt := top 30
abbrev sWithout : Stmt := top 31
abbrev sCounted : Stmt := top 32
abbrev sNearD : Stmt := top 33
theorem ref_at {l : List Addr} {i : Nat} {v : Addr} {z : Int} (h : l[i]? = some v) (e : z = (i : Int)) : atI (l.map V.ref) z = some (.ref v) := by
  rw [e]
  refine atI_nat ?_
  rw [List.getElem?_map, h]
  rfl
theorem filter_more {α : Type} {l : List α} {i : Nat} {x : α} (p : α → Bool) (h : l[i]? = some x) : (l.take (i + 1)).filter p = if p x = true then (l.take i).filter p ++ [x] else (l.take i).filter p := by
  rw [take_more h, List.filter_append]
  cases c : p x
  · simp [c]
  · simp [c]
theorem vint_eq (i j : Int) : decide (V.int i = V.int j) = decide (i = j) := decide_eq_decide.mpr ⟨V.int.inj, congrArg _⟩
theorem All2.monoM {α β : Type} {R S : α → β → Prop} : ∀ {l : List α} {m : List β}, (∀ a b, b ∈ m → R a b → S a b) → All2 R l m → All2 S l m
  | [], [], _, _ => trivial
  | _ :: _, _ :: _, h, ⟨a, b⟩ => ⟨h _ _ (by simp) a, All2.monoM (fun _ _ m => h _ _ (by simp [m])) b⟩
/-- the cells stand apart from a list that was new and empty ahead of them -/
theorem cells_apart {L : Addr} {H : Hp} {as : List Addr} {cs : List (List (Nat × Nat))} (hL : H L = some (.lst [])) (hne : ∀ c ∈ cs, c ≠ []) (h : All2 (SpansAt H) as cs) : All2 (Apart L H) as cs := by
  refine h.monoM fun a c hc q => ⟨fun e => ?_, q⟩
  obtain ⟨ts, h1, h2⟩ := q
  rw [e, hL] at h1
  have h3 : ts = [] := by
    cases ts with
    | nil => rfl
    | cons t ts => cases h1
  have h4 := h2.len
  rw [h3] at h4
  exact hne c hc (List.eq_nil_of_length_eq_zero h4.symm)
section
variable {P : Program} {w : World} {K : PySem.W.Frag} {mg : Str → Option Value} {base : Heap} {CR CT CH : Addr} {f : Addr} {fd : FuncData}
theorem TableAt.rules {H : Hp} {a dx l : Addr} {as : List Addr} {t : Wf07.Table} (hl : H l = some (.lst (as.map V.ref))) (h2 : All2 (RuleAt CR H) as t.rules) : RulesAt K CR H l t.rules := ⟨as, SqL.of hl, h2⟩
/-! ### undecided -/
abbrev nUndec : List Str := ["table", "width", "cell"]
theorem scUndec : FnScope nUndec ["table", "width"] (defScope sUndec) := ⟨rfl, rfl, rfl, by decide +kernel, rfl, by decide +kernel, by decide +kernel⟩
abbrev isNo (t : Wf07.Table) : Wf07.Point → Bool := fun x => t.decides x == Wf07.Word.nothing
def spUndec (CR CT : Addr) : Sp := fun vs H Q _ => ∃ (a : Addr) (n : Nat) (t : Wf07.Table), vs = [.ref a, .int (n : Int)] ∧ TableAt CR CT H a t ∧ (∀ r ∈ t.rules, DM.Good n r) ∧ n ≤ 3 ∧ t.rules.length ≤ 6 ∧
  ∀ H' p, Same H H' → H p = none → CellsAt H' p (DM.wanted t.rules n (isNo t)) → Q (.ref p) H'
theorem cells_few (rs : List Wf07.Rule) {n : Nat} (h : rs.length ≤ 12) (hn : n ≤ 3) : (DM.pcells rs n).length ≤ 15625 := Nat.le_trans (DM.pcells_len rs h n) (Nat.pow_le_pow_right (by decide) hn)
theorem ok_undec (F : Fun K "undecided" "undecided" sUndec f fd) (TT : TT K mg CT) (TD : TD mg) (cC : Fn P w K mg base 2 "cells" ["rules", "width"] (spCells K CR)) (cF : Fn P w K mg base 1 "first_point" ["cell"] spFirst)
    (cA : Me P w K mg base 3 CT "decision_at" ["self", "point"] (spDecAt K CR CT)) : FnOk P w K mg base CX0 4 f fd ["table", "width"] (spUndec CR CT) := by
  refine F.ok scUndec (fun vs H Q E h => ?_) (fun cdv A outer s H vs Q E hr h => ?_)
  · obtain ⟨a, n, t, rfl, _⟩ := h
    rfl
  · have hr1 : Room 1 _ := hr.mono (by decide)
    have hr2 : Room 2 _ := hr.mono (by decide)
    refine ⟨_, pss_one (ps_ret (pe_lc (own := [("cell", 2)]) (g := gName 2)
        (tt := tTest (tOp rEq (tMeth CT "decision_at" (spDecAt K CR CT) [] E0 (tVar 0) (tCons (tCall spFirst [] E0 (tCons (tVar 2) tNil)) tNil)) (tC (.int (-6))))) (te := tVar 2)
        (by rfl) scUndec.nd (pi_list (pe_fn cC hr2 (pa_cons (pe_fld (pv 0) rfl) (pa_cons (pv 1) pa_nil))))
        (blkOk_by (own := [("cell", 2)]) (N := nUndec) (sc := defScope sUndec) (by decide +kernel)) (fun _ _ _ _ _ => by exact pg_name (i := 2) scUndec.nd rfl (.inl rfl))
        (fun _ _ _ _ _ => by exact pts_one (pt_cmpR op_eq (pe_me cA hr (pv 0) (pa_cons (pe_fn cF hr1 (pa_cons (pv 2) pa_nil)) pa_nil)) (pe_const TD.nothing) (nomark _)))
        (fun _ _ _ _ _ => by exact pv 2))), ?_⟩
    obtain ⟨a, n, t, rfl, ht, hg, h3, h6, k⟩ := h
    obtain ⟨dx, l, as, ha, hl, hR⟩ := id ht
    refine ⟨_, rfl, a, CT, dx, _, _, rfl, ha, TT.cl, TT.nRules, tabF_rules _ _, _, rfl, l, n, t.rules, rfl, ⟨as, SqL.of hl, hR⟩, hg, h3, (by omega), fun H1 c s1 nc hC => ?_⟩
    obtain ⟨cs, hc, h2⟩ := hC
    have hcb := cells_few t.rules (n := n) (by omega) h3
    refine ⟨c, rfl, ⟨_, SqL.of hc⟩, fun D nD => ?_⟩
    refine lc_it (walk_list (xs := cs.map V.ref)) (fun i H' => Same H1 H' ∧ ∃ bs : List Addr, H' D = some (.lst (bs.map V.ref)) ∧ All2 (SpansAt H1) bs (((DM.pcells t.rules n).take i).filter fun c => isNo t (DM.firstOf' c)))
      ⟨same_new nD, [], upd_same, trivial⟩ (fun i H' _ h => SqL.of (h.1 _ _ hc)) ?_ ?_
    · rintro i v H0 H2 hi ⟨s2, bs, hD2, h4⟩ ⟨rfl, hx⟩
      obtain ⟨b, hb, rfl⟩ := refs_get hx
      obtain ⟨e, he, hE⟩ := h2.get' hb
      have hel := DM.pcell_len (List.mem_of_getElem? he)
      have ef := filter_more (fun c => isNo t (DM.firstOf' c)) he
      refine ⟨rfl, _, rfl, a, dx, _, rfl, (s1.trans s2) _ _ ha, tabF_no _ _ _ (by decide +kernel) (by decide +kernel), _, rfl, b, e, rfl, hE.same s2, (by omega), fun H3 p s3 np hp => ?_⟩
      refine ⟨a, p, t, DM.firstOf' e, rfl, ht.same (s1.trans (s2.trans s3)), SqL.of hp, (fun r hr => by rw [(hg r hr).len]; show _ = (e.map _).length; rw [List.length_map, hel]), (by show (e.map _).length ≤ _; rw [List.length_map]; omega), (by omega), fun H4 s4 => ⟨rfl, _, rfl, ?_⟩⟩
      have s24 := s3.trans s4
      have hbl : bs.length ≤ 15625 := by
        rw [h4.len]
        refine Nat.le_trans (List.length_filter_le _ _) ?_
        rw [List.length_take]
        omega
      rw [vint_eq]
      have ed : isNo t (DM.firstOf' e) = decide (Wf07.word (t.decides (DM.firstOf' e)) = -6) := DM.word_beq _ Wf07.Word.nothing
      rw [← ed]
      by_cases cz : isNo t (DM.firstOf' e) = true
      · rw [if_pos cz] at ef
        refine ifT cz ⟨_, rfl, _, s24 _ _ hD2, (by rw [List.length_map, sizeLine_eq]; omega), same_upd (s2.trans s24) nD, bs ++ [b], ?_, ?_⟩
        · rw [upd_same, List.map_append]
          rfl
        · rw [ef]
          exact h4.snoc hE
      · rw [if_neg cz] at ef
        refine ifF (Bool.eq_false_iff.mpr cz) ⟨s2.trans s24, bs, s24 _ _ hD2, ?_⟩
        rw [ef]
        exact h4
    · rintro H2 ⟨s2, bs, hD2, h4⟩
      rw [List.length_map, h2.len, List.take_length] at h4
      exact k H2 D (s1.trans s2) (s1.free nD) ⟨bs, hD2, h4.mono fun _ _ q => q.same s2⟩
/-! ### unlike -/
abbrev nUnlike : List Str := ["one", "other", "width", "unlike_cells", "cell", "point"]
theorem scUnlike : FnScope nUnlike ["one", "other", "width"] (defScope sUnlike) := ⟨rfl, rfl, rfl, by decide +kernel, rfl, by decide +kernel, by decide +kernel⟩
abbrev isUn (t u : Wf07.Table) : Wf07.Point → Bool := fun x => t.decides x != u.decides x
def spUnlike (CR CT : Addr) : Sp := fun vs H Q _ => ∃ (a b : Addr) (n : Nat) (t u : Wf07.Table), vs = [.ref a, .ref b, .int (n : Int)] ∧ TableAt CR CT H a t ∧ TableAt CR CT H b u ∧ (∀ r ∈ t.rules, DM.Good n r) ∧ (∀ r ∈ u.rules, DM.Good n r) ∧ 1 ≤ n ∧ n ≤ 3 ∧ t.rules.length ≤ 6 ∧ u.rules.length ≤ 6 ∧
  ∀ H' p, Same H H' → H p = none → CellsAt H' p (DM.wanted (t.rules ++ u.rules) n (isUn t u)) → Q (.ref p) H'
theorem ok_unlike (F : Fun K "unlike" "unlike" sUnlike f fd) (TT : TT K mg CT) (cC : Fn P w K mg base 2 "cells" ["rules", "width"] (spCells K CR)) (cF : Fn P w K mg base 1 "first_point" ["cell"] spFirst)
    (cA : Me P w K mg base 3 CT "decision_at" ["self", "point"] (spDecAt K CR CT)) : FnOk P w K mg base CX0 4 f fd ["one", "other", "width"] (spUnlike CR CT) := by
  refine F.ok scUnlike (fun vs H Q E h => ?_) (fun cdv A outer s H vs Q E hr h => ?_)
  · obtain ⟨a, b, n, t, u, rfl, _⟩ := h
    rfl
  · have hr1 : Room 1 _ := hr.mono (by decide)
    have hr2 : Room 2 _ := hr.mono (by decide)
    refine ⟨_, pss_cons (ps_set (i := 3) scUnlike.nd rfl (Or.inl rfl) (pe_lst pa_nil))
      (pss_cons (ps_for PassesOwn.never rfl (pi_list (pe_fn cC hr2 (pa_cons (pe_op op_cat (pe_fld (pv 0) rfl) (pe_fld (pv 1) rfl)) (pa_cons (pv 2) pa_nil)))) (pg_name (i := 4) scUnlike.nd rfl (Or.inl rfl))
        (pss_cons (ps_set (i := 5) scUnlike.nd rfl (Or.inl rfl) (pe_fn cF hr1 (pa_cons (pv 4) pa_nil)))
        (pss_one (ps_if (pt_cmpR op_ne (pe_me cA hr (pv 0) (pa_cons (pv 5) pa_nil)) (pe_me cA hr (pv 1) (pa_cons (pv 5) pa_nil)) (nomark _))
          (pss_one (ps_expr (pe_bm PySem.F.plainAttrs_list PySem.F.slot_list_append PySem.F.type_list_append mt_append (pv 3) (pa_cons (pv 4) pa_nil)))) pss_nil))))
      (pss_one (ps_ret (pv 3)))), ?_⟩
    obtain ⟨a, b, n, t, u, rfl, ht, hu, hgt, hgu, h1, h3, ht6, hu6, k⟩ := h
    obtain ⟨dx, l, as, ha, hl, hR⟩ := id ht
    obtain ⟨dy, m, bs, hb, hm, hS⟩ := id hu
    refine ⟨(by decide), fun L nL => ?_⟩
    have s0 : Same H (upd H L (.lst [])) := same_new nL
    refine ⟨_, rfl, a, CT, dx, _, _, rfl, s0 _ _ ha, TT.cl, TT.nRules, tabF_rules _ _, _, rfl, b, CT, dy, _, _, rfl, s0 _ _ hb, TT.cl, TT.nRules, tabF_rules _ _, l, m, _, _, rfl, rfl, s0 _ _ hl, s0 _ _ hm,
      (by rw [List.length_map, List.length_map, hR.len, hS.len, sizeLine_eq]; omega), fun M nM => ?_⟩
    rw [← List.map_append]
    have s1 : Same (upd H L (.lst [])) (upd (upd H L (.lst [])) M (.lst ((as ++ bs).map V.ref))) := same_new nM
    have s01 := s0.trans s1
    refine ⟨_, rfl, M, n, t.rules ++ u.rules, rfl, ⟨as ++ bs, SqL.of upd_same, (hR.mono fun _ _ q => q.same s01).app (hS.mono fun _ _ q => q.same s01)⟩, (fun r hr => (List.mem_append.mp hr).elim (hgt r) (hgu r)), h3, (by rw [List.length_append]; omega), fun H1 c s2 nc hC => ?_⟩
    obtain ⟨cs, hc, h2⟩ := hC
    have hcb := cells_few (t.rules ++ u.rules) (n := n) (by rw [List.length_append]; omega) h3
    have hL1 : H1 L = some (.lst []) := s2 _ _ (s1 _ _ upd_same)
    have ncL : c ≠ L := (ne_of_none (s1 _ _ upd_same) nc).symm
    have hap := cells_apart hL1 (fun e he z => by have := DM.pcell_len he; rw [z] at this; simp at this; omega) h2
    refine ⟨c, rfl, ⟨_, SqL.of hc⟩, for_it (walk_list (xs := cs.map V.ref)) (fun i σ H' => (∃ v4 v5 : Option V, σ = [some (.ref a), some (.ref b), some (.int (n : Int)), some (.ref L), v4, v5]) ∧ Same H H' ∧ H' c = some (.lst (cs.map V.ref)) ∧ All2 (Apart L H') cs (DM.pcells (t.rules ++ u.rules) n) ∧
        ∃ es : List Addr, H' L = some (.lst (es.map V.ref)) ∧ All2 (Apart L H') es (((DM.pcells (t.rules ++ u.rules) n).take i).filter fun c => isUn t u (DM.firstOf' c)))
      ⟨⟨none, none, rfl⟩, s01.trans s2, hc, hap, [], hL1, trivial⟩ (fun i σ H' _ h => SqL.of h.2.2.1) ?_ ?_⟩
    · rintro i v σ H0 H2 hi ⟨⟨v4, v5, rfl⟩, sH, hc2, hap2, es, hL2, h4⟩ ⟨rfl, hx⟩
      obtain ⟨e, he, rfl⟩ := refs_get hx
      obtain ⟨q, hq, hE⟩ := hap2.get' he
      have hel := DM.pcell_len (List.mem_of_getElem? hq)
      have ef := filter_more (fun c => isUn t u (DM.firstOf' c)) hq
      refine ⟨_, rfl, e, q, rfl, hE.2, (by omega), fun H3 p s3 np hp => ?_⟩
      have hxl : (DM.firstOf' q).length = n := by
        show (q.map _).length = n
        rw [List.length_map, hel]
      have sH3 := sH.trans s3
      refine ⟨_, rfl, a, dx, _, rfl, sH3 _ _ ha, tabF_no _ _ _ (by decide +kernel) (by decide +kernel), _, rfl, a, p, t, DM.firstOf' q, rfl, ht.same sH3, SqL.of hp, (fun r hr => by rw [(hgt r hr).len, hxl]), (by omega), (by omega), fun H4 s4 => ?_⟩
      have sH4 := sH3.trans s4
      refine ⟨_, rfl, b, dy, _, rfl, sH4 _ _ hb, tabF_no _ _ _ (by decide +kernel) (by decide +kernel), _, rfl, b, p, u, DM.firstOf' q, rfl, hu.same sH4, SqL.of (s4 _ _ hp), (fun r hr => by rw [(hgu r hr).len, hxl]), (by omega), (by omega), fun H5 s5 => ⟨rfl, _, rfl, ?_⟩⟩
      have s35 := s3.trans (s4.trans s5)
      have sH5 := sH.trans s35
      have ed : isUn t u (DM.firstOf' q) = !decide (V.int (Wf07.word (t.decides (DM.firstOf' q))) = V.int (Wf07.word (u.decides (DM.firstOf' q)))) := by
        rw [vint_eq, ← DM.word_beq]
        rfl
      rw [← ed]
      have hL5 := s35 _ _ hL2
      have hesl : es.length ≤ 15625 := by
        rw [h4.len]
        refine Nat.le_trans (List.length_filter_le _ _) ?_
        rw [List.length_take]
        omega
      by_cases cz : isUn t u (DM.firstOf' q) = true
      · rw [if_pos cz] at ef
        refine ifT cz ⟨_, rfl, .inl ⟨rfl, _, SqL.of hL5⟩, _, rfl, L, _, _, rfl, rfl, hL5, (by rw [List.length_map, sizeLine_eq]; omega), ⟨_, _, rfl⟩, same_upd sH5 nL, upd_keep (s35 _ _ hc2) ncL, hap2.mono (fun _ _ z => (z.same s35).upd hL5), es ++ [e], ?_, ?_⟩
        · rw [upd_same, List.map_append]
          rfl
        · rw [ef]
          exact (h4.mono fun _ _ z => (z.same s35).upd hL5).snoc ((hE.same s35).upd hL5)
      · rw [if_neg cz] at ef
        refine ifF (Bool.eq_false_iff.mpr cz) ⟨⟨_, _, rfl⟩, sH5, s35 _ _ hc2, hap2.mono (fun _ _ z => z.same s35), es, hL5, ?_⟩
        rw [ef]
        exact h4.mono fun _ _ z => z.same s35
    · rintro σ H2 ⟨⟨v4, v5, rfl⟩, sH, hc2, hap2, es, hL2, h4⟩
      rw [List.length_map, h2.len, List.take_length] at h4
      exact ⟨_, rfl, k H2 L sH nL ⟨es, hL2, h4.mono fun _ _ z => z.2⟩⟩
end
end DC

set_option Elab.async false
set_option linter.all false
set_option maxRecDepth 100000
set_option maxHeartbeats 2000000
namespace DC
open PySem PySem.Spec PyProof.Rows L2
section
variable {P : Program} {w : World} {K : PySem.W.Frag} {mg : Str → Option Value} {base : Heap} {CR CT CH : Addr} {f : Addr} {fd : FuncData}
/-! ### how_many_and_first -/
abbrev nHow : List Str := ["found", "cell"]
theorem scHow : FnScope nHow ["found"] (defScope sHow) := ⟨rfl, rfl, rfl, by decide +kernel, rfl, by decide +kernel, by decide +kernel⟩
def spHow : Sp := fun vs H Q _ => ∃ (D : Addr) (U : List (List (Nat × Nat))), vs = [.ref D] ∧ CellsAt H D U ∧ (∀ c ∈ U, (∀ s ∈ c, s.1 ≤ s.2 ∧ s.2 ≤ 100) ∧ c.length ≤ 3) ∧ U.length ≤ 15625 ∧
  ∀ H' q, Same H H' → H q = none → H' q = some (.lst (outV (DM.toldC U))) → Q (.ref q) H'
theorem ok_how (F : Fun K "how_many_and_first" "how_many_and_first" sHow f fd) (TR : TR K mg CR) (TD : TD mg) (cF : Fn P w K mg base 1 "first_point" ["cell"] spFirst) (cS : Fn P w K mg base 1 "size" ["cell"] spSize) : FnOk P w K mg base CX0 2 f fd ["found"] spHow := by
  refine F.ok scHow (fun vs H Q E h => ?_) (fun cdv A outer s H vs Q E hr h => ?_)
  · obtain ⟨D, U, rfl, _⟩ := h
    rfl
  · refine ⟨_, pss_cons (ps_if (pt_cmpR op_eq (pe_callB call_len_seq (by rfl) TR.len PySem.boot_len (pa_cons (pv 0) pa_nil)) pe_int (nomark _)) (pss_one (ps_ret (pe_lst (pa_cons pe_int pa_nil)))) pss_nil)
      (pss_one (ps_ret (pe_op op_cat (pe_lst (pa_cons (pe_callB (cr_sum rfl) (by rfl) TD.sum (by decide +kernel) (pa_cons
          (pe_lc (own := [("cell", 1)]) (g := gName 1) (tt := tYes) (te := tCall spSize [] E0 (tCons (tVar 1) tNil)) (by rfl) scHow.nd (pi_list (pv 0)) (blkOk_by (own := [("cell", 1)]) (N := nHow) (sc := defScope sHow) (by decide +kernel))
            (fun _ _ _ _ _ => by exact pg_name (i := 1) scHow.nd rfl (.inl rfl)) (fun _ _ _ _ _ => pts_nil) (fun _ _ _ _ _ => by exact pe_fn cS hr (pa_cons (pv 1) pa_nil))) pa_nil)) pa_nil))
        (pe_fn cF hr (pa_cons (pe_ix ix_list (pv 0) pe_int (fun _ _ => rfl)) pa_nil))))), ?_⟩
    obtain ⟨D, U, rfl, ⟨bs, hD, h4⟩, hgood, hlen, k⟩ := h
    refine ⟨_, rfl, D, _, rfl, .inl (SqL.of hD), rfl, _, rfl, ?_⟩
    cases U with
    | nil =>
      have eb : bs = [] := List.eq_nil_of_length_eq_zero h4.len
      subst eb
      exact ifT (decide_eq_true rfl) (ret_one fun q nq => k _ q (same_new nq) nq upd_same)
    | cons u U =>
      obtain ⟨b, bs', rfl⟩ : ∃ b bs', bs = b :: bs' := by
        cases bs with
        | nil => exact absurd h4 (by intro z; exact z)
        | cons b r => exact ⟨b, r, rfl⟩
      refine ifF (decide_eq_false (by rw [List.length_map]; intro z; have := V.int.inj z; simp only [List.length_cons] at this; omega)) ?_
      refine ⟨_, rfl, D, rfl, ⟨_, SqL.of hD⟩, fun G nG => ?_⟩
      refine lc_pure (walk_list (xs := (b :: bs').map V.ref)) (vi ((u :: U).map DM.sizeOf')) (by rw [List.length_map, List.length_map, List.length_map, h4.len]) (by rw [List.length_map, h4.len, sizeLine_eq]; omega) nG (fun H' s3 => SqL.of (s3 _ _ hD)) ?_ ?_
      · rintro i v H0 H3 hi s3 ⟨rfl, hx⟩ Nx hNx
        obtain ⟨a, ha, rfl⟩ := refs_get hx
        obtain ⟨e, he, hE⟩ := h4.get' ha
        refine ⟨rfl, _, rfl, a, e, rfl, hE.same s3, (hgood e (List.mem_of_getElem? he)).1, hNx _ _ (Same.refl _) ?_⟩
        rw [List.getElem?_map, List.getElem?_map, he]
        rfl
      · intro H3 s3 hG3
        have hG4 : H3 G = some (.lst ((DM.ci ((u :: U).map DM.sizeOf')).map V.int)) := by
          rw [hG3, vi_ints]
        refine ⟨G, DM.ci ((u :: U).map DM.sizeOf'), rfl, SqL.of hG4, (by show 1 ≤ sizeLine; decide), fun L nL => ?_⟩
        rw [DM.sum_is]
        have s4 : Same H3 (upd H3 L (.lst [V.int ((Wf07.sum ((u :: U).map DM.sizeOf') : Nat) : Int)])) := same_new nL
        have s34 := s3.trans s4
        have hul := (hgood u (by simp)).2
        refine ⟨_, rfl, D, _, 0, _, rfl, rfl, SqL.of (s34 _ _ hD), ref_at (i := 0) (v := b) rfl rfl, b, u, rfl, h4.1.same s34, (by omega), fun H5 p s5 np hp => ?_⟩
        refine ⟨L, p, _, _, rfl, rfl, s5 _ _ upd_same, hp, (by rw [List.length_map, List.length_map, sizeLine_eq]; simp only [List.length_cons, List.length_nil]; omega), fun z nz => ?_⟩
        have s35 := s34.trans s5
        refine k _ z (s35.trans (same_new nz)) (s35.free nz) ?_
        rw [upd_same]
        show some (HO.lst (V.int ((Wf07.sum ((u :: U).map DM.sizeOf') : Nat) : Int) :: vi (DM.firstOf' u))) = some (HO.lst (V.int ((Wf07.sum ((u :: U).map DM.sizeOf') : Nat) : Int) :: ((DM.firstOf' u).map fun (n : Nat) => (n : Int)).map V.int))
        rw [← vi_ints]
/-! ### overlapping -/
abbrev nOvl : List Str := ["rules", "pairs", "lower", "other"]
theorem scOvl : FnScope nOvl ["rules"] (defScope sOvl) := ⟨rfl, rfl, rfl, by decide +kernel, rfl, by decide +kernel, by decide +kernel⟩
def spOvl (K : PySem.W.Frag) (CR : Addr) : Sp := fun vs H Q _ => ∃ (l : Addr) (n : Nat) (rs : List Wf07.Rule), vs = [.ref l] ∧ RulesAt K CR H l rs ∧ (∀ r ∈ rs, r.ranges.length = n) ∧ n ≤ 3 ∧ rs.length ≤ 6 ∧
  ∀ H' p, Same H H' → H p = none → SpansAt H' p (DM.ovTo rs rs.length) → Q (.ref p) H'
/-- the list of pairs grows -/
theorem pairs_more {H H' : Hp} {L t : Addr} {ts : List Addr} {ps : List (Nat × Nat)} {p : Nat × Nat} {xs : List V} (hL : H' L = some (.lst xs)) (s : Same H H') (h : All2 (PairAt H) ts ps) (ht : H' t = some (.tup [.int (p.1 : Int), .int (p.2 : Int)])) (ys : List V) : All2 (PairAt (upd H' L (.lst ys))) (ts ++ [t]) (ps ++ [p]) :=
  (h.mono fun a b q => upd_keep (s _ _ q) (ne_of (s _ _ q) hL (by intro z; cases z))).snoc (upd_keep ht (ne_of ht hL (by intro z; cases z)))
theorem ok_ovl (F : Fun K "overlapping" "overlapping" sOvl f fd) (TR : TR K mg CR) (cM : Me P w K mg base 1 CR "meets" ["self", "other"] (spMeets CR)) : FnOk P w K mg base CX0 2 f fd ["rules"] (spOvl K CR) := by
  refine F.ok scOvl (fun vs H Q E h => ?_) (fun cdv A outer s H vs Q E hr h => ?_)
  · obtain ⟨l, n, rs, rfl, _⟩ := h
    rfl
  · refine ⟨_, pss_cons (ps_set (i := 1) scOvl.nd rfl (Or.inl rfl) (pe_lst pa_nil))
      (pss_cons (ps_for PassesOwn.never rfl (pi_range1 (by rfl) TR.range (pa_cons (pe_callB call_len_seq (by rfl) TR.len PySem.boot_len (pa_cons (pv 0) pa_nil)) pa_nil)) (pg_name (i := 2) scOvl.nd rfl (Or.inl rfl))
        (pss_one (ps_for PassesOwn.never rfl (pi_range2 (by rfl) TR.range (pa_cons (pe_op op_add (pv 2) pe_int) (pa_cons (pe_callB call_len_seq (by rfl) TR.len PySem.boot_len (pa_cons (pv 0) pa_nil)) pa_nil))) (pg_name (i := 3) scOvl.nd rfl (Or.inl rfl))
          (pss_one (ps_if (pt_val (pe_me cM hr (pe_ix ix_list (pv 0) (pv 2) (fun _ _ => rfl)) (pa_cons (pe_ix ix_list (pv 0) (pv 3) (fun _ _ => rfl)) pa_nil)))
            (pss_one (ps_expr (pe_bm PySem.F.plainAttrs_list PySem.F.slot_list_append PySem.F.type_list_append mt_append (pv 1) (pa_cons (pe_tup (pa_cons (pv 2) (pa_cons (pv 3) pa_nil))) pa_nil)))) pss_nil)))))
      (pss_one (ps_ret (pv 1)))), ?_⟩
    obtain ⟨l, n, rs, rfl, ⟨as, hl, hR⟩, hn, h3, h6, k⟩ := h
    have hal : (as.map V.ref).length = rs.length := by rw [List.length_map, hR.len]
    refine ⟨(by decide), fun L nL => ?_⟩
    have s0 : Same H (upd H L (.lst [])) := same_new nL
    refine ⟨_, rfl, l, _, rfl, .inl (s0.seq hl), _, rfl, (by rw [hal]; omega), (by rw [hal]; omega), ?_⟩
    rw [hal, Int.toNat_natCast]
    refine for_it walk_range (fun i σ H' => (∃ v2 v3 : Option V, σ = [some (.ref l), some (.ref L), v2, v3]) ∧ Same H H' ∧ ∃ ts : List Addr, H' L = some (.lst (ts.map V.ref)) ∧ All2 (PairAt H') ts (DM.ovTo rs i))
      ⟨⟨none, none, rfl⟩, s0, [], upd_same, trivial⟩ (fun _ _ _ _ _ => trivial) ?_ ?_
    · rintro i x σ H0 H1 hi ⟨⟨v2, v3, rfl⟩, s1, ts, hL1, h4⟩ ⟨rfl, ex⟩
      obtain rfl : x = V.int (i : Int) := by
        rw [ex]
        show V.int (0 + (i : Int)) = _
        rw [Int.zero_add]
      refine ⟨_, rfl, _, _, rfl, rfl, _, rfl, l, _, rfl, .inl (s1.seq hl), _, _, rfl, (by rw [hal]; omega), ?_⟩
      have et : (((as.map V.ref).length : Int) - ((i : Int) + 1)).toNat = rs.length - (i + 1) := by
        rw [hal]
        omega
      rw [et]
      refine for_it walk_range (fun j σ H' => (∃ v3 : Option V, σ = [some (.ref l), some (.ref L), some (.int (i : Int)), v3]) ∧ Same H H' ∧ ∃ ts : List Addr, H' L = some (.lst (ts.map V.ref)) ∧ All2 (PairAt H') ts (DM.ovTo rs i ++ DM.ovRow rs i (i + 1 + j)))
        ⟨⟨_, rfl⟩, s1, ts, hL1, by rw [DM.ovRow_none, List.append_nil]; exact h4⟩ (fun _ _ _ _ _ => trivial) ?_ ?_
      · rintro j x σ H0 H2 hj ⟨⟨w3, rfl⟩, s2, ts2, hL2, h5⟩ ⟨rfl, ex⟩
        obtain rfl : x = V.int ((i + 1 + j : Nat) : Int) := by
          rw [ex]
          show V.int ((i : Int) + 1 + (j : Int)) = _
          rw [show (i : Int) + 1 + (j : Int) = ((i + 1 + j : Nat) : Int) by omega]
        have hjl : i + 1 + j < rs.length := by omega
        have hri : rs[i]? = some rs[i] := List.getElem?_eq_getElem hi
        have hrj : rs[i + 1 + j]? = some rs[i + 1 + j] := List.getElem?_eq_getElem hjl
        obtain ⟨a, ha, hA⟩ := hR.get hri
        obtain ⟨b, hb, hB⟩ := hR.get hrj
        obtain ⟨da, la, hA1, hA2⟩ := hA.same s2
        have nai := hn _ (List.mem_of_getElem? hri)
        have naj := hn _ (List.mem_of_getElem? hrj)
        refine ⟨_, rfl, _, rfl, l, _, _, _, rfl, rfl, s2.seq hl, ref_at ha rfl, a, da, _, rfl, hA1, ruleF_meets _ _, _, rfl, _, rfl, l, _, _, _, rfl, rfl, s2.seq hl, ref_at hb rfl, a, b, _, _, rfl, hA.same s2, hB.same s2, (by rw [nai, naj]), (by rw [nai]; omega), fun H3 s3 => ⟨_, rfl, ?_⟩⟩
        have em : ((rs[i]).ranges.zip (rs[i + 1 + j]).ranges).all meetV = DM.meets rs i (i + 1 + j) := by
          unfold DM.meets
          rw [hri, hrj]
          rfl
        rw [em]
        have er := DM.ovRow_succ rs (i := i) (k := i + 1 + j) (by omega)
        have hL3 := s3 _ _ hL2
        have hsz : ts2.length ≤ 100 := by
          have l1 := DM.ovTo_len rs i
          have l2 := DM.ovRow_len rs i (i + 1 + j)
          have l3 : i * rs.length ≤ 6 * 6 := Nat.mul_le_mul (by omega) h6
          rw [h5.len, List.length_append]
          omega
        by_cases cz : DM.meets rs i (i + 1 + j) = true
        · rw [if_pos cz] at er
          refine ifT cz ⟨_, rfl, .inl ⟨rfl, _, SqL.of hL3⟩, _, rfl, _, rfl, (by show 2 ≤ sizeLine; decide), fun t nt => ?_⟩
          have s4 : Same H3 (upd H3 t (.tup [.int (i : Int), .int ((i + 1 + j : Nat) : Int)])) := same_new nt
          have s34 := s3.trans s4
          refine ⟨L, _, _, rfl, rfl, s4 _ _ hL3, (by rw [List.length_map, sizeLine_eq]; omega), ⟨_, rfl⟩, same_upd (s2.trans s34) nL, ts2 ++ [t], ?_, ?_⟩
          · rw [upd_same, List.map_append]
            rfl
          · rw [show i + 1 + (j + 1) = i + 1 + j + 1 by omega, er, ← List.append_assoc]
            exact pairs_more (p := (i, i + 1 + j)) (s4 _ _ hL3) s34 h5 upd_same _
        · rw [if_neg cz] at er
          refine ifF (Bool.eq_false_iff.mpr cz) ⟨⟨_, rfl⟩, s2.trans s3, ts2, hL3, ?_⟩
          rw [show i + 1 + (j + 1) = i + 1 + j + 1 by omega, er]
          exact h5.mono fun _ _ q => s3 _ _ q
      · rintro σ H2 ⟨⟨w3, rfl⟩, s2, ts2, hL2, h5⟩
        refine ⟨⟨_, _, rfl⟩, s2, ts2, hL2, ?_⟩
        rw [DM.ovTo_succ]
        rw [show i + 1 + (rs.length - (i + 1)) = rs.length by omega] at h5
        exact h5
    · rintro σ H1 ⟨⟨v2, v3, rfl⟩, s1, ts, hL1, h4⟩
      exact ⟨_, rfl, k H1 L s1 nL ⟨ts, hL1, h4⟩⟩
/-! ### without -/
abbrev nWithout : List Str := ["left_out", "held", "which"]
theorem scWithout : FnScope nWithout ["left_out", "held"] (defScope sWithout) := ⟨rfl, rfl, rfl, by decide +kernel, rfl, by decide +kernel, by decide +kernel⟩
def spWithout (K : PySem.W.Frag) : Sp := fun vs H Q _ => ∃ (p : Addr) (i : Nat) (hs : List Nat), vs = [.int (i : Int), .ref p] ∧ SqL K H p (vi hs) ∧ hs.length ≤ 1000 ∧
  ∀ H' q, Same H H' → H q = none → H' q = some (.lst (vi (hs.filter fun w => w != i))) → Q (.ref q) H'
theorem ok_without (F : Fun K "without" "without" sWithout f fd) : FnOk P w K mg base CX0 1 f fd ["left_out", "held"] (spWithout K) := by
  refine F.ok scWithout (fun vs H Q E h => ?_) (fun cdv A outer s H vs Q E hr h => ?_)
  · obtain ⟨p, i, hs, rfl, _⟩ := h
    rfl
  · refine ⟨_, pss_one (ps_ret (pe_lc (own := [("which", 2)]) (g := gName 2) (tt := tTest (tOp rNe (tVar 2) (tVar 0))) (te := tVar 2)
        (by rfl) scWithout.nd (pi_list (pv 1)) (blkOk_by (own := [("which", 2)]) (N := nWithout) (sc := defScope sWithout) (by decide +kernel))
        (fun _ _ _ _ _ => by exact pg_name (i := 2) scWithout.nd rfl (.inl rfl))
        (fun _ _ _ _ _ => by exact pts_one (pt_cmpR op_ne (pv 2) (pv 0) (nomark _)))
        (fun _ _ _ _ _ => by exact pv 2))), ?_⟩
    obtain ⟨p, i, hs, rfl, hp, hbig, k⟩ := h
    refine ⟨_, rfl, p, rfl, ⟨_, hp⟩, fun D nD => ?_⟩
    refine lc_it (walk_list (xs := vi hs)) (fun j H' => Same H H' ∧ H' D = some (.lst (vi ((hs.take j).filter fun w => w != i)))) ⟨same_new nD, upd_same⟩ (fun j H' _ h => h.1.seq hp) ?_ ?_
    · rintro j v H0 H1 hj ⟨s1, hD1⟩ ⟨rfl, hv⟩
      obtain ⟨m, hm, rfl⟩ := vi_get hv
      have ef := filter_more (fun w => w != i) hm
      refine ⟨rfl, _, rfl, _, rfl, rfl, _, rfl, ?_⟩
      have ed : (m != i) = !decide (V.int (m : Int) = V.int (i : Int)) := by
        rw [vint_eq]
        by_cases c : m = i
        · rw [decide_eq_true (by omega)]
          simp [c]
        · rw [decide_eq_false (by omega)]
          simp [c]
      rw [← ed]
      by_cases cz : (m != i) = true
      · rw [if_pos cz] at ef
        refine ifT cz ⟨_, rfl, _, hD1, ?_, same_upd s1 nD, ?_⟩
        · rw [List.length_map, sizeLine_eq]
          have h1 := List.length_filter_le (fun w => w != i) (hs.take j)
          rw [List.length_take] at h1
          omega
        · rw [upd_same, ef]
          simp [vi]
      · rw [if_neg cz] at ef
        refine ifF (Bool.eq_false_iff.mpr cz) ⟨s1, ?_⟩
        rw [ef]
        exact hD1
    · rintro H1 ⟨s1, hD1⟩
      rw [List.length_map, List.take_length] at hD1
      exact k H1 D s1 nD hD1
end
end DC

set_option Elab.async false
set_option linter.all false
set_option maxRecDepth 100000
set_option maxHeartbeats 2000000
namespace DC
open PySem PySem.Spec PyProof.Rows L2
section
variable {P : Program} {w : World} {K : PySem.W.Frag} {mg : Str → Option Value} {base : Heap} {CR CT CH : Addr} {f : Addr} {fd : FuncData}
/-! ### idle_rules -/
abbrev nIdleR : List Str := ["table", "width", "idle", "cell", "held", "number", "which"]
theorem scIdleR : FnScope nIdleR ["table", "width"] (defScope sIdleR) := ⟨rfl, rfl, rfl, by decide +kernel, rfl, by decide +kernel, by decide +kernel⟩
def spIdleR (CR CT : Addr) : Sp := fun vs H Q _ => ∃ (a : Addr) (n : Nat) (t : Wf07.Table), vs = [.ref a, .int (n : Int)] ∧ TableAt CR CT H a t ∧ (∀ r ∈ t.rules, DM.Good n r) ∧ n ≤ 3 ∧ t.rules.length ≤ 6 ∧
  ∀ H' p, Same H H' → H p = none → H' p = some (.lst (vi ((List.range t.rules.length).filter (t.idle n)))) → Q (.ref p) H'
theorem rg_nat (k : Nat) : rgV 0 (k : Int) = vi (List.range k) := by
  unfold rgV
  rw [Int.sub_zero, Int.toNat_natCast]
  refine List.map_congr_left fun i _ => ?_
  rw [Int.zero_add]
theorem idle_is (t : Wf07.Table) (x : List Nat) (i : Nat) : DM.decideL t.way (((t.hits x).filter fun w => w != i).map (saysAt t)) = (t.without i).decides x := by
  rw [DM.decides_eq, DM.said_without]
  rfl
theorem ok_idleR (F : Fun K "idle_rules" "idle_rules" sIdleR f fd) (TT : TT K mg CT) (TR : TR K mg CR) (mList : mg "list" = none) (cC : Fn P w K mg base 2 "cells" ["rules", "width"] (spCells K CR)) (cF : Fn P w K mg base 1 "first_point" ["cell"] spFirst)
    (cH : Me P w K mg base 2 CT "holding" ["self", "point"] (spHolding K CR CT)) (cD : Me P w K mg base 2 CT "decision" ["self", "held"] (spDecision K CR CT)) (cW : Fn P w K mg base 1 "without" ["left_out", "held"] (spWithout K)) : FnOk P w K mg base CX0 3 f fd ["table", "width"] (spIdleR CR CT) := by
  refine F.ok scIdleR (fun vs H Q E h => ?_) (fun cdv A outer s H vs Q E hr h => ?_)
  · obtain ⟨a, n, t, rfl, _⟩ := h
    rfl
  · have hr1 : Room 1 _ := hr.mono (by decide)
    refine ⟨_, pss_cons (ps_set (i := 2) scIdleR.nd rfl (Or.inl rfl) (pe_listRg rfl (by rfl) mList (prg_1 (by rfl) TR.range (pe_callB call_len_seq (by rfl) TR.len PySem.boot_len (pa_cons (pe_fld (pv 0) rfl) pa_nil)))))
      (pss_cons (ps_for PassesOwn.never rfl (pi_list (pe_fn cC hr (pa_cons (pe_fld (pv 0) rfl) (pa_cons (pv 1) pa_nil)))) (pg_name (i := 3) scIdleR.nd rfl (Or.inl rfl))
        (pss_cons (ps_set (i := 4) scIdleR.nd rfl (Or.inr rfl) (pe_me cH hr (pv 0) (pa_cons (pe_fn cF hr1 (pa_cons (pv 3) pa_nil)) pa_nil)))
        (pss_cons (ps_set (i := 5) scIdleR.nd rfl (Or.inr rfl) (pe_me cD hr (pv 0) (pa_cons (pv 4) pa_nil)))
        (pss_one (ps_setLc (i := 2) (own := [("which", 6)]) (g := gName 6)
          (tt := tTest (tOp rEq (tMeth CT "decision" (spDecision K CR CT) [] E0 (tVar 0) (tCons (tCall (spWithout K) [] E0 (tCons (tVar 6) (tCons (tVar 4) tNil))) tNil)) (tVar 5))) (te := tVar 6)
          (by rfl) scIdleR.nd rfl rfl (sw_true rfl rfl rfl (by decide +kernel)) (pi_list (pv 2))
          (blkOk_by (own := [("which", 6)]) (N := nIdleR) (sc := defScope sIdleR) (by decide +kernel)) (fun _ _ _ _ _ => by exact pg_name (i := 6) scIdleR.nd rfl (.inl rfl))
          (fun _ _ _ _ _ => by exact pts_one (pt_cmpR op_eq (pe_me cD hr (pv 0) (pa_cons (pe_fn cW hr1 (pa_cons (pv 6) (pa_cons (pv 4) pa_nil))) pa_nil)) (pv 5) (nomark _)))
          (fun _ _ _ _ _ => by exact pv 6))))))
      (pss_one (ps_ret (pv 2)))), ?_⟩
    obtain ⟨a, n, t, rfl, ht, hg, h3, h6, k⟩ := h
    obtain ⟨dx, l, as, ha, hl, hR⟩ := id ht
    have hal : (as.map V.ref).length = t.rules.length := by rw [List.length_map, hR.len]
    refine ⟨_, rfl, a, CT, dx, _, _, rfl, ha, TT.cl, TT.nRules, tabF_rules _ _, l, _, rfl, .inl (SqL.of hl), _, rfl, RgOk.of_le (by omega) (by rw [hal]; omega) (by omega) (by omega), fun q0 nq0 => ?_⟩
    rw [hal, rg_nat]
    have s0 : Same H (upd H q0 (.lst (vi (List.range t.rules.length)))) := same_new nq0
    refine ⟨_, rfl, a, CT, dx, _, _, rfl, s0 _ _ ha, TT.cl, TT.nRules, tabF_rules _ _, _, rfl, l, n, t.rules, rfl, ⟨as, SqL.of (s0 _ _ hl), hR.mono fun _ _ q => q.same s0⟩, hg, h3, (by omega), fun H1 c s1 nc hC => ?_⟩
    obtain ⟨cs, hc, h2⟩ := hC
    refine ⟨c, rfl, ⟨_, SqL.of hc⟩, for_it (walk_list (xs := cs.map V.ref)) (fun j σ H' => (∃ (v3 v4 v5 : Option V) (q : Addr), σ = [some (.ref a), some (.int (n : Int)), some (.ref q), v3, v4, v5, none] ∧ H q = none ∧ H' q = some (.lst (vi (DM.idleTo t (DM.pcells t.rules n) j)))) ∧ Same H1 H')
      ⟨⟨none, none, none, q0, rfl, nq0, by rw [DM.idleTo_zero]; exact s1 _ _ upd_same⟩, Same.refl _⟩ (fun j σ H' _ h => SqL.of (h.2 _ _ hc)) ?_ ?_⟩
    · rintro j v σ H0 H2 hj ⟨⟨v3, v4, v5, q, rfl, nq, hq⟩, s2⟩ ⟨rfl, hx⟩
      obtain ⟨e, he, rfl⟩ := refs_get hx
      obtain ⟨o, ho, hE⟩ := h2.get' he
      have hel := DM.pcell_len (List.mem_of_getElem? ho)
      have hxl : (DM.firstOf' o).length = n := by
        show (o.map _).length = n
        rw [List.length_map, hel]
      have sH2 := (s0.trans s1).trans s2
      -- held = table.holding(first_point(cell))
      refine ⟨_, rfl, a, dx, _, rfl, sH2 _ _ ha, tabF_no _ _ _ (by decide +kernel) (by decide +kernel), _, rfl, e, o, rfl, hE.same s2, (by omega), fun H3 p s3 np hp => ?_⟩
      refine ⟨a, p, t, DM.firstOf' o, rfl, ht.same (sH2.trans s3), SqL.of hp, (fun r hr => by rw [(hg r hr).len, hxl]), (by omega), (by omega), fun H4 u s4 nu hu => ?_⟩
      have sH4 := (sH2.trans s3).trans s4
      have hhl := hits_len t (DM.firstOf' o)
      -- number = table.decision(held)
      refine ⟨_, rfl, a, dx, _, rfl, sH4 _ _ ha, tabF_no _ _ _ (by decide +kernel) (by decide +kernel), _, rfl, a, u, t, t.hits (DM.firstOf' o), rfl, ht.same sH4, SqL.of hu, (fun i hi => DM.hits_lt hi), (by omega), fun H5 s5 => ?_⟩
      rw [decision_hits]
      have s25 := s3.trans (s4.trans s5)
      have sH5 := sH4.trans s5
      have hq5 := s25 _ _ hq
      have hu5 := s5 _ _ hu
      have hil := DM.idleTo_len t (DM.pcells t.rules n) j
      -- idle = [..]
      refine ⟨_, rfl, q, rfl, ⟨_, SqL.of hq5⟩, fun D nD => ?_⟩
      refine lc_it (walk_list (xs := vi (DM.idleTo t (DM.pcells t.rules n) j))) (fun i H' => Same H5 H' ∧ H' D = some (.lst (vi (((DM.idleTo t (DM.pcells t.rules n) j).take i).filter fun i => (t.without i).decides (DM.firstOf' o) == t.decides (DM.firstOf' o))))) ⟨same_new nD, upd_same⟩ (fun i H' _ h => SqL.of (h.1 _ _ hq5)) ?_ ?_
      · rintro i y H0 H6 hi ⟨s6, hD6⟩ ⟨rfl, hy⟩
        obtain ⟨m, hm, rfl⟩ := vi_get hy
        have ef := filter_more (fun i => (t.without i).decides (DM.firstOf' o) == t.decides (DM.firstOf' o)) hm
        refine ⟨rfl, _, rfl, a, dx, _, rfl, (sH5.trans s6) _ _ ha, tabF_no _ _ _ (by decide +kernel) (by decide +kernel), _, rfl, _, rfl, u, m, t.hits (DM.firstOf' o), rfl, SqL.of (s6 _ _ hu5), (by omega), fun H7 z s7 nz hz => ?_⟩
        have hfl := List.length_filter_le (fun w => w != m) (t.hits (DM.firstOf' o))
        refine ⟨a, z, t, (t.hits (DM.firstOf' o)).filter fun w => w != m, rfl, ht.same ((sH5.trans s6).trans s7), SqL.of hz, (fun i hi => DM.hits_lt (List.mem_filter.mp hi).1), (by omega), fun H8 s8 => ?_⟩
        rw [idle_is]
        refine ⟨_, rfl, rfl, _, rfl, ?_⟩
        rw [vint_eq, ← DM.word_beq]
        have s68 := s6.trans (s7.trans s8)
        have hD8 := (s7.trans s8) _ _ hD6
        by_cases cz : ((t.without m).decides (DM.firstOf' o) == t.decides (DM.firstOf' o)) = true
        · rw [if_pos cz] at ef
          refine ifT cz ⟨_, rfl, _, hD8, ?_, same_upd s68 nD, ?_⟩
          · rw [List.length_map, sizeLine_eq]
            have h1 := List.length_filter_le (fun i => (t.without i).decides (DM.firstOf' o) == t.decides (DM.firstOf' o)) ((DM.idleTo t (DM.pcells t.rules n) j).take i)
            rw [List.length_take] at h1
            omega
          · rw [upd_same, ef]
            simp [vi]
        · rw [if_neg cz] at ef
          refine ifF (Bool.eq_false_iff.mpr cz) ⟨s68, ?_⟩
          rw [ef]
          exact hD8
      · rintro H6 ⟨s6, hD6⟩
        rw [List.length_map, List.take_length, ← DM.idleTo_succ ho] at hD6
        exact ⟨⟨_, _, _, D, rfl, sH5.free nD, hD6⟩, s2.trans (s25.trans s6)⟩
    · rintro σ H2 ⟨⟨v3, v4, v5, q, rfl, nq, hq⟩, s2⟩
      rw [List.length_map, h2.len, DM.idleTo_all] at hq
      exact ⟨_, rfl, k H2 q ((s0.trans s1).trans s2) nq hq⟩
/-! ### counted -/
abbrev nCounted : List Str := ["table", "width", "nothing", "clashing", "numbered", "cell", "number"]
theorem scCounted : FnScope nCounted ["table", "width"] (defScope sCounted) := ⟨rfl, rfl, rfl, by decide +kernel, rfl, by decide +kernel, by decide +kernel⟩
abbrev isCl (t : Wf07.Table) : Wf07.Point → Bool := fun x => t.decides x == Wf07.Word.clash
abbrev isNu (t : Wf07.Table) : Wf07.Point → Bool := fun x => t.decides x != Wf07.Word.nothing && t.decides x != Wf07.Word.clash
def spCounted (CR CT : Addr) : Sp := fun vs H Q _ => ∃ (a : Addr) (n : Nat) (t : Wf07.Table), vs = [.ref a, .int (n : Int)] ∧ TableAt CR CT H a t ∧ (∀ r ∈ t.rules, DM.Good n r) ∧ n ≤ 3 ∧ t.rules.length ≤ 6 ∧
  ∀ H' p, Same H H' → H p = none → H' p = some (.lst [.int (Wf07.count n t.rules (isNo t) : Nat), .int (Wf07.count n t.rules (isCl t) : Nat), .int (Wf07.count n t.rules (isNu t) : Nat)]) → Q (.ref p) H'
abbrev cntOf (t : Wf07.Table) (n : Nat) (p : Wf07.Point → Bool) (i : Nat) : Nat := DM.cntTo (DM.pcells t.rules n) (fun c => p (DM.firstOf' c)) i
theorem ok_counted (F : Fun K "counted" "counted" sCounted f fd) (TT : TT K mg CT) (TD : TD mg) (cC : Fn P w K mg base 2 "cells" ["rules", "width"] (spCells K CR)) (cF : Fn P w K mg base 1 "first_point" ["cell"] spFirst) (cS : Fn P w K mg base 1 "size" ["cell"] spSize)
    (cA : Me P w K mg base 3 CT "decision_at" ["self", "point"] (spDecAt K CR CT)) : FnOk P w K mg base CX0 4 f fd ["table", "width"] (spCounted CR CT) := by
  refine F.ok scCounted (fun vs H Q E h => ?_) (fun cdv A outer s H vs Q E hr h => ?_)
  · obtain ⟨a, n, t, rfl, _⟩ := h
    rfl
  · have hr1 : Room 1 _ := hr.mono (by decide)
    have hr2 : Room 2 _ := hr.mono (by decide)
    refine ⟨_, pss_cons (ps_set (i := 2) scCounted.nd rfl (Or.inl rfl) pe_int) (pss_cons (ps_set (i := 3) scCounted.nd rfl (Or.inl rfl) pe_int) (pss_cons (ps_set (i := 4) scCounted.nd rfl (Or.inl rfl) pe_int)
      (pss_cons (ps_for PassesOwn.never rfl (pi_list (pe_fn cC hr2 (pa_cons (pe_fld (pv 0) rfl) (pa_cons (pv 1) pa_nil)))) (pg_name (i := 5) scCounted.nd rfl (Or.inl rfl))
        (pss_cons (ps_set (i := 6) scCounted.nd rfl (Or.inl rfl) (pe_me cA hr (pv 0) (pa_cons (pe_fn cF hr1 (pa_cons (pv 5) pa_nil)) pa_nil)))
        (pss_one (ps_if (pt_cmpR op_eq (pv 6) (pe_const TD.nothing) (nomark _)) (pss_one (ps_set (i := 2) scCounted.nd rfl (Or.inl rfl) (pe_op op_add (pv 2) (pe_fn cS hr1 (pa_cons (pv 5) pa_nil)))))
          (pss_one (ps_if (pt_cmpR op_eq (pv 6) (pe_const TD.clash) (nomark _)) (pss_one (ps_set (i := 3) scCounted.nd rfl (Or.inl rfl) (pe_op op_add (pv 3) (pe_fn cS hr1 (pa_cons (pv 5) pa_nil)))))
            (pss_one (ps_set (i := 4) scCounted.nd rfl (Or.inl rfl) (pe_op op_add (pv 4) (pe_fn cS hr1 (pa_cons (pv 5) pa_nil)))))))))))
      (pss_one (ps_ret (pe_lst (pa_cons (pv 2) (pa_cons (pv 3) (pa_cons (pv 4) pa_nil))))))))), ?_⟩
    obtain ⟨a, n, t, rfl, ht, hg, h3, h6, k⟩ := h
    obtain ⟨dx, l, as, ha, hl, hR⟩ := id ht
    refine ⟨_, rfl, a, CT, dx, _, _, rfl, ha, TT.cl, TT.nRules, tabF_rules _ _, _, rfl, l, n, t.rules, rfl, ⟨as, SqL.of hl, hR⟩, hg, h3, (by omega), fun H1 c s1 nc hC => ?_⟩
    obtain ⟨cs, hc, h2⟩ := hC
    refine ⟨c, rfl, ⟨_, SqL.of hc⟩, for_it (walk_list (xs := cs.map V.ref)) (fun i σ H' => (∃ v5 v6 : Option V, σ = [some (.ref a), some (.int (n : Int)), some (.int (cntOf t n (isNo t) i : Int)), some (.int (cntOf t n (isCl t) i : Int)), some (.int (cntOf t n (isNu t) i : Int)), v5, v6]) ∧ Same H1 H')
      ⟨⟨none, none, rfl⟩, Same.refl _⟩ (fun i σ H' _ h => SqL.of (h.2 _ _ hc)) ?_ ?_⟩
    · rintro i v σ H0 H2 hi ⟨⟨v5, v6, rfl⟩, s2⟩ ⟨rfl, hx⟩
      obtain ⟨e, he, rfl⟩ := refs_get hx
      obtain ⟨o, ho, hE⟩ := h2.get' he
      have hel := DM.pcell_len (List.mem_of_getElem? ho)
      have hog := DM.pcell_good (List.mem_of_getElem? ho)
      have hxl : (DM.firstOf' o).length = n := by
        show (o.map _).length = n
        rw [List.length_map, hel]
      have sH2 := s1.trans s2
      refine ⟨_, rfl, a, dx, _, rfl, sH2 _ _ ha, tabF_no _ _ _ (by decide +kernel) (by decide +kernel), _, rfl, e, o, rfl, hE.same s2, (by omega), fun H3 p s3 np hp => ?_⟩
      refine ⟨a, p, t, DM.firstOf' o, rfl, ht.same (sH2.trans s3), SqL.of hp, (fun r hr => by rw [(hg r hr).len, hxl]), (by omega), (by omega), fun H4 s4 => ?_⟩
      have s24 := s2.trans (s3.trans s4)
      have hE4 := hE.same s24
      have c1 := DM.cntTo_succ (f := fun c => isNo t (DM.firstOf' c)) ho
      have c2 := DM.cntTo_succ (f := fun c => isCl t (DM.firstOf' c)) ho
      have c3 := DM.cntTo_succ (f := fun c => isNu t (DM.firstOf' c)) ho
      refine ⟨_, rfl, rfl, _, rfl, ?_⟩
      rw [vint_eq]
      cases ed : t.decides (DM.firstOf' o) with
      | nothing =>
        have e1 : isNo t (DM.firstOf' o) = true := by show (t.decides (DM.firstOf' o) == _) = true; rw [ed]; rfl
        have e2 : isCl t (DM.firstOf' o) = false := by show (t.decides (DM.firstOf' o) == _) = false; rw [ed]; rfl
        have e3 : isNu t (DM.firstOf' o) = false := by show ((t.decides (DM.firstOf' o) != _) && (t.decides (DM.firstOf' o) != _)) = false; rw [ed]; rfl
        rw [e1, if_pos rfl] at c1
        rw [e2, if_neg Bool.false_ne_true] at c2
        rw [e3, if_neg Bool.false_ne_true] at c3
        refine ifT (decide_eq_true rfl) ⟨_, rfl, _, rfl, e, o, rfl, hE4, hog, _, _, rfl, rfl, ⟨some (.ref e), some (.int (Wf07.word .nothing)), ?_⟩, s24⟩
        show [some (V.ref a), some (V.int (n : Int)), some (V.int ((cntOf t n (isNo t) i : Int) + (DM.sizeOf' o : Int))), some (V.int (cntOf t n (isCl t) i : Int)), some (V.int (cntOf t n (isNu t) i : Int)), some (V.ref e), some (V.int (Wf07.word .nothing))] = _
        rw [show cntOf t n (isNo t) (i + 1) = cntOf t n (isNo t) i + DM.sizeOf' o from c1, show cntOf t n (isCl t) (i + 1) = cntOf t n (isCl t) i from c2, show cntOf t n (isNu t) (i + 1) = cntOf t n (isNu t) i from c3, Int.natCast_add]
      | clash =>
        have e1 : isNo t (DM.firstOf' o) = false := by show (t.decides (DM.firstOf' o) == _) = false; rw [ed]; rfl
        have e2 : isCl t (DM.firstOf' o) = true := by show (t.decides (DM.firstOf' o) == _) = true; rw [ed]; rfl
        have e3 : isNu t (DM.firstOf' o) = false := by show ((t.decides (DM.firstOf' o) != _) && (t.decides (DM.firstOf' o) != _)) = false; rw [ed]; rfl
        rw [e1, if_neg Bool.false_ne_true] at c1
        rw [e2, if_pos rfl] at c2
        rw [e3, if_neg Bool.false_ne_true] at c3
        refine ifF (decide_eq_false (by decide)) ⟨_, rfl, rfl, _, rfl, ?_⟩
        rw [vint_eq]
        refine ifT (decide_eq_true rfl) ⟨_, rfl, _, rfl, e, o, rfl, hE4, hog, _, _, rfl, rfl, ⟨some (.ref e), some (.int (Wf07.word .clash)), ?_⟩, s24⟩
        show [some (V.ref a), some (V.int (n : Int)), some (V.int (cntOf t n (isNo t) i : Int)), some (V.int ((cntOf t n (isCl t) i : Int) + (DM.sizeOf' o : Int))), some (V.int (cntOf t n (isNu t) i : Int)), some (V.ref e), some (V.int (Wf07.word .clash))] = _
        rw [show cntOf t n (isNo t) (i + 1) = cntOf t n (isNo t) i from c1, show cntOf t n (isCl t) (i + 1) = cntOf t n (isCl t) i + DM.sizeOf' o from c2, show cntOf t n (isNu t) (i + 1) = cntOf t n (isNu t) i from c3, Int.natCast_add]
      | says m =>
        have e1 : isNo t (DM.firstOf' o) = false := by show (t.decides (DM.firstOf' o) == _) = false; rw [ed]; rfl
        have e2 : isCl t (DM.firstOf' o) = false := by show (t.decides (DM.firstOf' o) == _) = false; rw [ed]; rfl
        have e3 : isNu t (DM.firstOf' o) = true := by show ((t.decides (DM.firstOf' o) != _) && (t.decides (DM.firstOf' o) != _)) = true; rw [ed]; rfl
        rw [e1, if_neg Bool.false_ne_true] at c1
        rw [e2, if_neg Bool.false_ne_true] at c2
        rw [e3, if_pos rfl] at c3
        refine ifF (decide_eq_false (by show ¬ (m : Int) = -6; omega)) ⟨_, rfl, rfl, _, rfl, ?_⟩
        rw [vint_eq]
        refine ifF (decide_eq_false (by show ¬ (m : Int) = -9; omega)) ⟨_, rfl, _, rfl, e, o, rfl, hE4, hog, _, _, rfl, rfl, ⟨some (.ref e), some (.int (Wf07.word (.says m))), ?_⟩, s24⟩
        show [some (V.ref a), some (V.int (n : Int)), some (V.int (cntOf t n (isNo t) i : Int)), some (V.int (cntOf t n (isCl t) i : Int)), some (V.int ((cntOf t n (isNu t) i : Int) + (DM.sizeOf' o : Int))), some (V.ref e), some (V.int (Wf07.word (.says m)))] = _
        rw [show cntOf t n (isNo t) (i + 1) = cntOf t n (isNo t) i from c1, show cntOf t n (isCl t) (i + 1) = cntOf t n (isCl t) i from c2, show cntOf t n (isNu t) (i + 1) = cntOf t n (isNu t) i + DM.sizeOf' o from c3, Int.natCast_add]
    · rintro σ H2 ⟨⟨v5, v6, rfl⟩, s2⟩
      rw [List.length_map, h2.len]
      have sH := s1.trans s2
      refine ⟨_, rfl, _, rfl, _, rfl, (by show 3 ≤ sizeLine; decide), fun q nq => k _ q (sH.trans (same_new nq)) (sH.free nq) ?_⟩
      rw [upd_same, show cntOf t n (isNo t) (DM.pcells t.rules n).length = _ from DM.cntTo_all n t.rules (isNo t), show cntOf t n (isCl t) (DM.pcells t.rules n).length = _ from DM.cntTo_all n t.rules (isCl t), show cntOf t n (isNu t) (DM.pcells t.rules n).length = _ from DM.cntTo_all n t.rules (isNu t)]
end
end DC

set_option Elab.async false
set_option linter.all false
set_option maxRecDepth 100000
set_option maxHeartbeats 2000000
namespace DC
open PySem PySem.Spec PyProof.Rows L2
section
variable {P : Program} {w : World} {K : PySem.W.Frag} {mg : Str → Option Value} {base : Heap} {CR CT CH : Addr} {f : Addr} {fd : FuncData}
abbrev nNearD : List Str := ["table", "number", "point", "found", "cell", "near"]
theorem scNearD : FnScope nNearD ["table", "number", "point"] (defScope sNearD) := ⟨rfl, rfl, rfl, by decide +kernel, rfl, by decide +kernel, by decide +kernel⟩
abbrev isSay (t : Wf07.Table) (s : Nat) : Wf07.Point → Bool := fun y => t.decides y == .says s
def nearV (x : Wf07.Point) : Option Wf07.Point → List V
  | none => []
  | some y => vi (Wf07.far y x :: y)
def spNearD (K : PySem.W.Frag) (CR CT : Addr) : Sp := fun vs H Q _ => ∃ (a p : Addr) (n s : Nat) (t : Wf07.Table) (x : List Nat), vs = [.ref a, .int (s : Int), .ref p] ∧ TableAt CR CT H a t ∧ SqL K H p (vi x) ∧ x.length = n ∧ (∀ r ∈ t.rules, DM.Good n r) ∧ 1 ≤ n ∧ n ≤ 3 ∧ t.rules.length ≤ 6 ∧
  ∀ H' q, Same H H' → H q = none → H' q = some (.lst (nearV x (Wf07.nearest n t.rules (isSay t s) x))) → Q (.ref q) H'
/-- what is found: new lists, none of them the list that grows -/
def Found (L : Addr) (H H' : Hp) (t : Addr) (xs : List Int) : Prop := t ≠ L ∧ H t = none ∧ H' t = some (.lst (xs.map V.int))
theorem Found.same {L : Addr} {H H1 H2 : Hp} {t : Addr} {xs : List Int} (s : Same H1 H2) (h : Found L H H1 t xs) : Found L H H2 t xs := ⟨h.1, h.2.1, s _ _ h.2.2⟩
theorem Found.upd {L : Addr} {H H1 : Hp} {t : Addr} {xs : List Int} {ys : List V} (h : Found L H H1 t xs) : Found L H (upd H1 L (.lst ys)) t xs := ⟨h.1, h.2.1, upd_keep h.2.2 h.1⟩
theorem ok_nearD (F : Fun K "nearest_deciding" "nearest_deciding" sNearD f fd) (TT : TT K mg CT) (TR : TR K mg CR) (TD : TD mg) (cC : Fn P w K mg base 2 "cells" ["rules", "width"] (spCells K CR)) (cF : Fn P w K mg base 1 "first_point" ["cell"] spFirst)
    (cA : Me P w K mg base 3 CT "decision_at" ["self", "point"] (spDecAt K CR CT)) (cN : Fn P w K mg base 1 "nearest_point" ["cell", "point"] (spNearPt K)) (cX : Fn P w K mg base 1 "distance" ["one", "other"] (spDist K)) : FnOk P w K mg base CX0 4 f fd ["table", "number", "point"] (spNearD K CR CT) := by
  refine F.ok scNearD (fun vs H Q E h => ?_) (fun cdv A outer s H vs Q E hr h => ?_)
  · obtain ⟨a, p, n, sy, t, x, rfl, _⟩ := h
    rfl
  · have hr1 : Room 1 _ := hr.mono (by decide)
    have hr2 : Room 2 _ := hr.mono (by decide)
    refine ⟨_, pss_cons (ps_set (i := 3) scNearD.nd rfl (Or.inl rfl) (pe_lst pa_nil))
      (pss_cons (ps_for PassesOwn.never rfl (pi_list (pe_fn cC hr2 (pa_cons (pe_fld (pv 0) rfl) (pa_cons (pe_callB call_len_seq (by rfl) TR.len PySem.boot_len (pa_cons (pv 2) pa_nil)) pa_nil)))) (pg_name (i := 4) scNearD.nd rfl (Or.inl rfl))
        (pss_one (ps_if (pt_cmpR op_eq (pe_me cA hr (pv 0) (pa_cons (pe_fn cF hr1 (pa_cons (pv 4) pa_nil)) pa_nil)) (pv 1) (nomark _))
          (pss_cons (ps_set (i := 5) scNearD.nd rfl (Or.inl rfl) (pe_fn cN hr1 (pa_cons (pv 4) (pa_cons (pv 2) pa_nil))))
          (pss_one (ps_expr (pe_bm PySem.F.plainAttrs_list PySem.F.slot_list_append PySem.F.type_list_append mt_append (pv 3) (pa_cons (pe_op op_cat (pe_lst (pa_cons (pe_fn cX hr1 (pa_cons (pv 5) (pa_cons (pv 2) pa_nil))) pa_nil)) (pv 5)) pa_nil))))) pss_nil)))
      (pss_one (ps_ret (pe_callBK (r := rMinD K) (ks := [Str.ofString "default"]) (cr_minD rfl hr.units) (by rfl) TD.min (by decide +kernel) (pa_cons (pv 3) pa_nil) (pk_cons (pe_lst pa_nil) pk_nil))))), ?_⟩
    obtain ⟨a, p, n, sy, t, x, rfl, ht, hx, hxn, hg, h1, h3, h6, k⟩ := h
    obtain ⟨dx, l, as, ha, hl, hR⟩ := id ht
    refine ⟨(by decide), fun L nL => ?_⟩
    have s0 : Same H (upd H L (.lst [])) := same_new nL
    refine ⟨_, rfl, a, CT, dx, _, _, rfl, s0 _ _ ha, TT.cl, TT.nRules, tabF_rules _ _, _, rfl, p, _, rfl, .inl (s0.seq hx), l, n, t.rules, (by rw [List.length_map, hxn]; rfl), ⟨as, SqL.of (s0 _ _ hl), hR.mono fun _ _ q => q.same s0⟩, hg, h3, (by omega), fun H1 c s2 nc hC => ?_⟩
    obtain ⟨cs, hc, h2⟩ := hC
    have hcb := cells_few t.rules (n := n) (by omega) h3
    have hL1 : H1 L = some (.lst []) := s2 _ _ upd_same
    have ncL : c ≠ L := (ne_of_none upd_same nc).symm
    have hap := cells_apart hL1 (fun e he z => by have := DM.pcell_len he; rw [z] at this; simp at this; omega) h2
    refine ⟨c, rfl, ⟨_, SqL.of hc⟩, for_it (walk_list (xs := cs.map V.ref)) (fun i σ H' => (∃ v4 v5 : Option V, σ = [some (.ref a), some (.int (sy : Int)), some (.ref p), some (.ref L), v4, v5]) ∧ Same H H' ∧ H' c = some (.lst (cs.map V.ref)) ∧ All2 (Apart L H') cs (DM.pcells t.rules n) ∧
        ∃ es : List Addr, H' L = some (.lst (es.map V.ref)) ∧ All2 (Found L H H') es ((((DM.pcells t.rules n).take i).filter fun c => isSay t sy (DM.firstOf' c)).map fun c => DM.ci (DM.keyOf x (DM.clampC c x))))
      ⟨⟨none, none, rfl⟩, s0.trans s2, hc, hap, [], hL1, trivial⟩ (fun i σ H' _ h => SqL.of h.2.2.1) ?_ ?_⟩
    · rintro i v σ H0 H2 hi ⟨⟨v4, v5, rfl⟩, sH, hc2, hap2, es, hL2, h4⟩ ⟨rfl, hv⟩
      obtain ⟨e, he, rfl⟩ := refs_get hv
      obtain ⟨o, ho, hE⟩ := hap2.get' he
      have hel := DM.pcell_len (List.mem_of_getElem? ho)
      have hog := DM.pcell_good (List.mem_of_getElem? ho)
      have ef := filter_more (fun c => isSay t sy (DM.firstOf' c)) ho
      have hxl : (DM.firstOf' o).length = n := by
        show (o.map _).length = n
        rw [List.length_map, hel]
      refine ⟨_, rfl, a, dx, _, rfl, sH _ _ ha, tabF_no _ _ _ (by decide +kernel) (by decide +kernel), _, rfl, e, o, rfl, hE.2, (by omega), fun H3 q s3 nq hq => ?_⟩
      have sH3 := sH.trans s3
      refine ⟨a, q, t, DM.firstOf' o, rfl, ht.same sH3, SqL.of hq, (fun r hr => by rw [(hg r hr).len, hxl]), (by omega), (by omega), fun H4 s4 => ⟨_, rfl, rfl, _, rfl, ?_⟩⟩
      have s24 := s3.trans s4
      have sH4 := sH.trans s24
      rw [vint_eq]
      have ed : isSay t sy (DM.firstOf' o) = decide (Wf07.word (t.decides (DM.firstOf' o)) = (sy : Int)) := DM.word_beq _ (.says sy)
      rw [← ed]
      have hL4 := s24 _ _ hL2
      have hesl : es.length ≤ 15625 := by
        rw [h4.len, List.length_map]
        refine Nat.le_trans (List.length_filter_le _ _) ?_
        rw [List.length_take]
        omega
      by_cases cz : isSay t sy (DM.firstOf' o) = true
      · rw [if_pos cz] at ef
        -- near = nearest_point(cell, point)
        refine ifT cz ⟨_, rfl, _, rfl, e, p, o, x, rfl, hE.2.same s24, sH4.seq hx, (by omega), (by omega), (fun s hs => (hog s hs).1), fun H5 u s5 nu hu => ?_⟩
        have hcl : (DM.clampC o x).length = n := by rw [DM.clamp_len, hel]
        have sH5 := sH4.trans s5
        refine ⟨_, rfl, .inl ⟨rfl, _, SqL.of (s5 _ _ hL4)⟩, _, rfl, _, rfl, u, p, DM.clampC o x, x, rfl, SqL.of hu, sH5.seq hx, (by omega), fun H6 s6 => ⟨(by show 1 ≤ sizeLine; decide), fun g ng => ?_⟩⟩
        have s7 : Same H6 (upd H6 g (.lst [V.int (Wf07.far (DM.clampC o x) x : Int)])) := same_new ng
        refine ⟨_, rfl, g, u, _, _, rfl, rfl, upd_same, s7 _ _ (s6 _ _ hu), (by rw [List.length_map, hcl, sizeLine_eq]; simp only [List.length_cons, List.length_nil]; omega), fun z nz => ?_⟩
        have s8 : Same (upd H6 g (.lst [V.int (Wf07.far (DM.clampC o x) x : Int)])) (upd (upd H6 g (.lst [V.int (Wf07.far (DM.clampC o x) x : Int)])) z (.lst ([V.int (Wf07.far (DM.clampC o x) x : Int)] ++ vi (DM.clampC o x)))) := same_new nz
        have s28 := s24.trans (s5.trans (s6.trans (s7.trans s8)))
        have hL8 := s28 _ _ hL2
        have nzL : z ≠ L := (ne_of_none ((s24.trans (s5.trans (s6.trans s7))) _ _ hL2) nz).symm
        have nzH : H z = none := (sH.trans (s24.trans (s5.trans (s6.trans s7)))).free nz
        refine ⟨L, _, _, rfl, rfl, hL8, (by rw [List.length_map, sizeLine_eq]; omega), ⟨_, _, rfl⟩, same_upd (sH.trans s28) nL, upd_keep (s28 _ _ hc2) ncL, hap2.mono (fun _ _ y => (y.same s28).upd hL8), es ++ [z], ?_, ?_⟩
        · rw [upd_same, List.map_append]
          rfl
        · rw [ef, List.map_append]
          refine (h4.mono fun _ _ y => (y.same s28).upd).snoc (Found.upd ⟨nzL, nzH, ?_⟩)
          rw [upd_same]
          show some (HO.lst (V.int (Wf07.far (DM.clampC o x) x : Int) :: vi (DM.clampC o x))) = some (HO.lst (V.int (Wf07.far (DM.clampC o x) x : Int) :: ((DM.clampC o x).map fun (n : Nat) => (n : Int)).map V.int))
          rw [← vi_ints]
      · rw [if_neg cz] at ef
        refine ifF (Bool.eq_false_iff.mpr cz) ⟨⟨_, _, rfl⟩, sH4, s24 _ _ hc2, hap2.mono (fun _ _ z => z.same s24), es, hL4, ?_⟩
        rw [ef]
        exact h4.mono fun _ _ z => z.same s24
    · rintro σ H2 ⟨⟨v4, v5, rfl⟩, sH, hc2, hap2, es, hL2, h4⟩
      rw [List.length_map, h2.len, List.take_length] at h4
      refine ⟨_, rfl, (by decide), fun z nz => ?_⟩
      have s3 : Same H2 (upd H2 z (.lst [])) := same_new nz
      refine ⟨L, .ref z, es, _, rfl, rfl, SqL.of (s3 _ _ hL2), h4.mono (fun _ _ y => s3 _ _ y.2.2), fun e => ?_, fun y ys u e hu hu2 => ?_⟩
      · have hw : DM.wanted t.rules n (isSay t sy) = [] := List.map_eq_nil_iff.mp e
        refine k _ z (sH.trans s3) (sH.free nz) ?_
        rw [upd_same, DM.nearest_no hw]
        rfl
      · obtain ⟨b, _, hb⟩ := h4.mem u hu
        cases hw : DM.wanted t.rules n (isSay t sy) with
        | nil =>
          rw [show (DM.pcells t.rules n).filter (fun c => isSay t sy (DM.firstOf' c)) = [] from hw] at e
          cases e
        | cons o os =>
          rw [show (DM.pcells t.rules n).filter (fun c => isSay t sy (DM.firstOf' c)) = o :: os from hw, List.map_cons] at e
          injection e with e1 e2
          obtain ⟨r, hr1, hr2⟩ := DM.nearest_key (x := x) hw
          refine k _ u (sH.trans s3) hb.2.1 ?_
          rw [hu2, minOf_is, ← e1, ← e2, hr2, hr1]
          show some (HO.lst ((DM.ci (DM.keyOf x r)).map V.int)) = some (HO.lst (vi (Wf07.far r x :: r)))
          rw [vi_ints]
          rfl
end
end DC

set_option Elab.async false
set_option linter.all false
set_option maxRecDepth 100000
set_option maxHeartbeats 2000000
namespace DC
open PySem PySem.Spec PyProof.Rows L2
abbrev sOverlaps : Stmt := inClass (top 42) 7
abbrev sIdle : Stmt := inClass (top 42) 8
abbrev sSame : Stmt := inClass (top 42) 9
abbrev sCounts : Stmt := inClass (top 42) 10
abbrev sNearest : Stmt := inClass (top 42) 11
section
variable {P : Program} {w : World} {K : PySem.W.Frag} {mg : Str → Option Value} {base : Heap} {CR CT CH : Addr} {f : Addr} {fd : FuncData}
/-- a call that has a table alone -/
def spTab (CR CT CH : Addr) (c : Nat → Wf07.Call) : Sp := fun vs H Q _ => ∃ (h : Addr) (av : List Addr) (m : Wf07.House) (k : Nat), vs = [.ref h, .int (k : Int)] ∧ HouseAt CR CT CH av H h m ∧ HV m ∧ Done CR CT CH av h m (c k) H Q
theorem wanted_good {rs : List Wf07.Rule} {n : Nat} {p : Wf07.Point → Bool} (h : n ≤ 3) : ∀ c ∈ DM.wanted rs n p, (∀ s ∈ c, s.1 ≤ s.2 ∧ s.2 ≤ 100) ∧ c.length ≤ 3 := fun c hc => ⟨DM.pcell_good (List.mem_filter.mp hc).1, by rw [DM.pcell_len (List.mem_filter.mp hc).1]; exact h⟩
theorem wanted_few {rs : List Wf07.Rule} {n : Nat} {p : Wf07.Point → Bool} (h : rs.length ≤ 12) (hn : n ≤ 3) : (DM.wanted rs n p).length ≤ 15625 := Nat.le_trans (List.length_filter_le _ _) (cells_few rs h hn)
theorem scGaps : FnScope ["self", "table"] ["self", "table"] (defScope sGaps) := ⟨rfl, rfl, rfl, by decide +kernel, rfl, by decide +kernel, by decide +kernel⟩
theorem ok_gaps (F : Fun K "gaps" "House.gaps" sGaps f fd) (T : TH K mg CH) (cHas : Me P w K mg base 1 CH "has_table" ["self", "table"] (spHas CR CT CH)) (cU : Fn P w K mg base 4 "undecided" ["table", "width"] (spUndec CR CT)) (cW : Fn P w K mg base 2 "how_many_and_first" ["found"] spHow) :
    FnOk P w K mg base CX0 5 f fd ["self", "table"] (spTab CR CT CH .gaps) := by
  refine F.ok scGaps (fun vs H Q E h => ?_) (fun cdv A outer s H vs Q E hr h => ?_)
  · obtain ⟨h, av, m, k, rfl, _⟩ := h
    rfl
  · refine ⟨_, pss_cons (ps_if (pt_not (pt_val (pe_me cHas (hr.mono (by decide)) (pv 0) (pa_cons (pv 1) pa_nil)))) (pss_one (ps_ret (pe_lst (pa_cons (pe_const T.absent) pa_nil)))) pss_nil)
      (pss_one (ps_ret (pe_fn cW (hr.mono (by decide)) (pa_cons (pe_fn cU hr (pa_cons (pe_ix ix_list (pe_fld (pv 0) rfl) (pv 1) (fun _ _ => rfl)) (pa_cons (pe_fld (pv 0) rfl) pa_nil))) pa_nil)))), ?_⟩
    obtain ⟨h, av, m, k, rfl, hh, hv, done⟩ := h
    obtain ⟨dx, tl, t, d, l, as, hP⟩ := id hh
    refine ⟨_, rfl, h, dx, _, rfl, hP.hh, houF_no _ _ _ (by decide +kernel) (by decide +kernel), _, rfl, h, av, m, k, rfl, hh, _, rfl, ?_⟩
    by_cases ck : k < 2
    · refine ifF (by rw [decide_eq_true ck]; rfl) ?_
      have h6 := hv.many k
      have e0 : Wf07.step m (.gaps k) = (m, DM.toldC (DM.wanted (m.t k).rules m.values (isNo (m.t k)))) := by
        show (if 2 ≤ k then _ else (m, _)) = _
        rw [if_neg (by omega), ← DM.toldC_is]
      refine ⟨_, rfl, h, CH, dx, _, _, rfl, hP.hh, T.cl, T.nTables, houF_tables _ _, _, rfl, tl, _, _, _, rfl, rfl, SqL.of hP.htl, hP.at_ ck, _, rfl, h, CH, dx, _, _, rfl, hP.hh, T.cl, T.nWidth, houF_width _ _,
        t k, m.values, m.t k, rfl, hP.table ck, hv.good k, hv.hi, h6, fun H1 p s1 np hC => ?_⟩
      exact ⟨p, _, rfl, hC, wanted_good hv.hi, wanted_few (by omega) hv.hi, fun H2 q s2 nq hq => done.same e0 hh (s1.trans s2) (s1.free nq) hq⟩
    · have e : Wf07.step m (.gaps k) = (m, Wf07.ok (-2)) := by
        show (if 2 ≤ k then (m, Wf07.ok (-2)) else _) = _
        rw [if_pos (by omega)]
      exact ifT (by rw [decide_eq_false ck]; rfl) (ret_one fun q nq => done.same e hh (same_new nq) nq upd_same)
theorem scCounts : FnScope ["self", "table"] ["self", "table"] (defScope sCounts) := ⟨rfl, rfl, rfl, by decide +kernel, rfl, by decide +kernel, by decide +kernel⟩
theorem ok_counts (F : Fun K "counts" "House.counts" sCounts f fd) (T : TH K mg CH) (cHas : Me P w K mg base 1 CH "has_table" ["self", "table"] (spHas CR CT CH)) (cU : Fn P w K mg base 4 "counted" ["table", "width"] (spCounted CR CT)) :
    FnOk P w K mg base CX0 5 f fd ["self", "table"] (spTab CR CT CH .counts) := by
  refine F.ok scCounts (fun vs H Q E h => ?_) (fun cdv A outer s H vs Q E hr h => ?_)
  · obtain ⟨h, av, m, k, rfl, _⟩ := h
    rfl
  · refine ⟨_, pss_cons (ps_if (pt_not (pt_val (pe_me cHas (hr.mono (by decide)) (pv 0) (pa_cons (pv 1) pa_nil)))) (pss_one (ps_ret (pe_lst (pa_cons (pe_const T.absent) pa_nil)))) pss_nil)
      (pss_one (ps_ret (pe_fn cU hr (pa_cons (pe_ix ix_list (pe_fld (pv 0) rfl) (pv 1) (fun _ _ => rfl)) (pa_cons (pe_fld (pv 0) rfl) pa_nil))))), ?_⟩
    obtain ⟨h, av, m, k, rfl, hh, hv, done⟩ := h
    obtain ⟨dx, tl, t, d, l, as, hP⟩ := id hh
    refine ⟨_, rfl, h, dx, _, rfl, hP.hh, houF_no _ _ _ (by decide +kernel) (by decide +kernel), _, rfl, h, av, m, k, rfl, hh, _, rfl, ?_⟩
    by_cases ck : k < 2
    · refine ifF (by rw [decide_eq_true ck]; rfl) ?_
      have h6 := hv.many k
      have e0 : Wf07.step m (.counts k) = (m, ⟨(Wf07.count m.values (m.t k).rules (isNo (m.t k)) : Nat), [Wf07.count m.values (m.t k).rules (isCl (m.t k)), Wf07.count m.values (m.t k).rules (isNu (m.t k))]⟩) := by
        show (if 2 ≤ k then _ else (m, _)) = _
        rw [if_neg (by omega)]
      refine ⟨_, rfl, h, CH, dx, _, _, rfl, hP.hh, T.cl, T.nTables, houF_tables _ _, _, rfl, tl, _, _, _, rfl, rfl, SqL.of hP.htl, hP.at_ ck, _, rfl, h, CH, dx, _, _, rfl, hP.hh, T.cl, T.nWidth, houF_width _ _,
        t k, m.values, m.t k, rfl, hP.table ck, hv.good k, hv.hi, h6, fun H1 p s1 np hC => done.same e0 hh s1 np hC⟩
    · have e : Wf07.step m (.counts k) = (m, Wf07.ok (-2)) := by
        show (if 2 ≤ k then (m, Wf07.ok (-2)) else _) = _
        rw [if_pos (by omega)]
      exact ifT (by rw [decide_eq_false ck]; rfl) (ret_one fun q nq => done.same e hh (same_new nq) nq upd_same)
theorem scIdle : FnScope ["self", "table", "rules"] ["self", "table"] (defScope sIdle) := ⟨rfl, rfl, rfl, by decide +kernel, rfl, by decide +kernel, by decide +kernel⟩
theorem ok_idle (F : Fun K "idle" "House.idle" sIdle f fd) (T : TH K mg CH) (TR : TR K mg CR) (cHas : Me P w K mg base 1 CH "has_table" ["self", "table"] (spHas CR CT CH)) (cU : Fn P w K mg base 3 "idle_rules" ["table", "width"] (spIdleR CR CT)) :
    FnOk P w K mg base CX0 4 f fd ["self", "table"] (spTab CR CT CH .idle) := by
  refine F.ok scIdle (fun vs H Q E h => ?_) (fun cdv A outer s H vs Q E hr h => ?_)
  · obtain ⟨h, av, m, k, rfl, _⟩ := h
    rfl
  · refine ⟨_, pss_cons (ps_if (pt_not (pt_val (pe_me cHas (hr.mono (by decide)) (pv 0) (pa_cons (pv 1) pa_nil)))) (pss_one (ps_ret (pe_lst (pa_cons (pe_const T.absent) pa_nil)))) pss_nil)
      (pss_cons (ps_set (i := 2) scIdle.nd rfl (Or.inl rfl) (pe_fn cU hr (pa_cons (pe_ix ix_list (pe_fld (pv 0) rfl) (pv 1) (fun _ _ => rfl)) (pa_cons (pe_fld (pv 0) rfl) pa_nil))))
      (pss_one (ps_ret (pe_op op_cat (pe_lst (pa_cons (pe_callB call_len_seq (by rfl) TR.len PySem.boot_len (pa_cons (pv 2) pa_nil)) pa_nil)) (pv 2))))), ?_⟩
    obtain ⟨h, av, m, k, rfl, hh, hv, done⟩ := h
    obtain ⟨dx, tl, t, d, l, as, hP⟩ := id hh
    refine ⟨_, rfl, h, dx, _, rfl, hP.hh, houF_no _ _ _ (by decide +kernel) (by decide +kernel), _, rfl, h, av, m, k, rfl, hh, _, rfl, ?_⟩
    by_cases ck : k < 2
    · refine ifF (by rw [decide_eq_true ck]; rfl) ?_
      have h6 := hv.many k
      have e0 : Wf07.step m (.idle k) = (m, ⟨(((List.range (m.t k).rules.length).filter ((m.t k).idle m.values)).length : Nat), (List.range (m.t k).rules.length).filter ((m.t k).idle m.values)⟩) := by
        show (if 2 ≤ k then _ else (m, _)) = _
        rw [if_neg (by omega)]
      have hfl : ((List.range (m.t k).rules.length).filter ((m.t k).idle m.values)).length ≤ 6 := by
        refine Nat.le_trans (List.length_filter_le _ _) ?_
        rw [List.length_range]
        exact h6
      refine ⟨_, rfl, h, CH, dx, _, _, rfl, hP.hh, T.cl, T.nTables, houF_tables _ _, _, rfl, tl, _, _, _, rfl, rfl, SqL.of hP.htl, hP.at_ ck, _, rfl, h, CH, dx, _, _, rfl, hP.hh, T.cl, T.nWidth, houF_width _ _,
        t k, m.values, m.t k, rfl, hP.table ck, hv.good k, hv.hi, h6, fun H1 p s1 np hC => ?_⟩
      generalize (List.range (m.t k).rules.length).filter ((m.t k).idle m.values) = I at hC e0 hfl
      refine ⟨_, rfl, p, _, rfl, .inl (SqL.of hC), (by show 1 ≤ sizeLine; decide), fun g ng => ?_⟩
      have hIl : (vi I).length = I.length := List.length_map _
      rw [hIl]
      have s2 : Same H1 (upd H1 g (.lst [V.int (I.length : Int)])) := same_new ng
      refine ⟨_, rfl, g, p, _, _, rfl, rfl, upd_same, s2 _ _ hC, (by rw [hIl, sizeLine_eq]; simp only [List.length_cons, List.length_nil]; omega), fun z nz => ?_⟩
      have s12 := s1.trans s2
      refine done.same e0 hh (s12.trans (same_new nz)) (s12.free nz) ?_
      rw [upd_same]
      show some (HO.lst (V.int (I.length : Int) :: vi I)) = some (HO.lst (V.int (I.length : Int) :: (I.map fun (n : Nat) => (n : Int)).map V.int))
      rw [← vi_ints]
    · have e : Wf07.step m (.idle k) = (m, Wf07.ok (-2)) := by
        show (if 2 ≤ k then (m, Wf07.ok (-2)) else _) = _
        rw [if_pos (by omega)]
      exact ifT (by rw [decide_eq_false ck]; rfl) (ret_one fun q nq => done.same e hh (same_new nq) nq upd_same)
abbrev nOverlaps : List Str := ["self", "table", "pairs", "answer", "pair"]
theorem scOverlaps : FnScope nOverlaps ["self", "table"] (defScope sOverlaps) := ⟨rfl, rfl, rfl, by decide +kernel, rfl, by decide +kernel, by decide +kernel⟩
def twoP (p : Nat × Nat) : List Nat := [p.1, p.2]
theorem twoP_len (ps : List (Nat × Nat)) : (ps.flatMap twoP).length = 2 * ps.length := by
  induction ps with
  | nil => rfl
  | cons p ps ih =>
    rw [List.flatMap_cons, List.length_append, ih, List.length_cons]
    show 2 + _ = _
    omega
theorem ok_overlaps (F : Fun K "overlaps" "House.overlaps" sOverlaps f fd) (T : TH K mg CH) (TT : TT K mg CT) (TR : TR K mg CR) (cHas : Me P w K mg base 1 CH "has_table" ["self", "table"] (spHas CR CT CH)) (cO : Fn P w K mg base 2 "overlapping" ["rules"] (spOvl K CR)) :
    FnOk P w K mg base CX0 3 f fd ["self", "table"] (spTab CR CT CH .overlaps) := by
  refine F.ok scOverlaps (fun vs H Q E h => ?_) (fun cdv A outer s H vs Q E hr h => ?_)
  · obtain ⟨h, av, m, k, rfl, _⟩ := h
    rfl
  · refine ⟨_, pss_cons (ps_if (pt_not (pt_val (pe_me cHas (hr.mono (by decide)) (pv 0) (pa_cons (pv 1) pa_nil)))) (pss_one (ps_ret (pe_lst (pa_cons (pe_const T.absent) pa_nil)))) pss_nil)
      (pss_cons (ps_set (i := 2) scOverlaps.nd rfl (Or.inl rfl) (pe_fn cO hr (pa_cons (pe_fld (pe_ix ix_list (pe_fld (pv 0) rfl) (pv 1) (fun _ _ => rfl)) rfl) pa_nil)))
      (pss_cons (ps_set (i := 3) scOverlaps.nd rfl (Or.inl rfl) (pe_lst (pa_cons (pe_callB call_len_seq (by rfl) TR.len PySem.boot_len (pa_cons (pv 2) pa_nil)) pa_nil)))
      (pss_cons (ps_for PassesOwn.never rfl (pi_list (pv 2)) (pg_name (i := 4) scOverlaps.nd rfl (Or.inl rfl))
        (pss_one (ps_expr (pe_bm PySem.F.plainAttrs_list PySem.F.slot_list_extend PySem.F.type_list_extend mt_extT (pv 3) (pa_cons (pv 4) pa_nil)))))
      (pss_one (ps_ret (pv 3)))))), ?_⟩
    obtain ⟨h, av, m, k, rfl, hh, hv, done⟩ := h
    obtain ⟨dx, tl, t, d, l, as, hP⟩ := id hh
    refine ⟨_, rfl, h, dx, _, rfl, hP.hh, houF_no _ _ _ (by decide +kernel) (by decide +kernel), _, rfl, h, av, m, k, rfl, hh, _, rfl, ?_⟩
    by_cases ck : k < 2
    · refine ifF (by rw [decide_eq_true ck]; rfl) ?_
      have h6 := hv.many k
      have h3 := hv.hi
      have e0 : Wf07.step m (.overlaps k) = (m, ⟨((DM.ovTo (m.t k).rules (m.t k).rules.length).length : Nat), (DM.ovTo (m.t k).rules (m.t k).rules.length).flatMap twoP⟩) := by
        rw [← DM.ovTo_all (hv.good k)]
        show (if 2 ≤ k then _ else (m, _)) = _
        rw [if_neg (by omega)]
        rfl
      have hfl : (DM.ovTo (m.t k).rules (m.t k).rules.length).length ≤ 36 := Nat.le_trans (DM.ovTo_len _ _) (Nat.mul_le_mul h6 h6)
      refine ⟨_, rfl, h, CH, dx, _, _, rfl, hP.hh, T.cl, T.nTables, houF_tables _ _, _, rfl, tl, _, _, _, rfl, rfl, SqL.of hP.htl, hP.at_ ck, t k, CT, d k, _, _, rfl, hP.tab k ck, TT.cl, TT.nRules, tabF_rules _ _,
        l k, m.values, (m.t k).rules, rfl, ⟨as k, SqL.of (hP.lst k ck), (hP.rul k ck).mono fun _ _ q => q.at_⟩, (fun r hr => (hv.good k r hr).len), h3, h6, fun H1 p s1 np hC => ?_⟩
      generalize DM.ovTo (m.t k).rules (m.t k).rules.length = I at hC e0 hfl
      obtain ⟨ts, hp, h4⟩ := hC
      have htl : (ts.map V.ref).length = I.length := by rw [List.length_map, h4.len]
      refine ⟨_, rfl, p, _, rfl, .inl (SqL.of hp), (by show 1 ≤ sizeLine; decide), fun L nL => ?_⟩
      rw [htl]
      have s2 : Same H1 (upd H1 L (.lst [V.int (I.length : Int)])) := same_new nL
      refine ⟨_, rfl, p, rfl, ⟨_, SqL.of (s2 _ _ hp)⟩, for_it (walk_list (xs := ts.map V.ref)) (fun i σ H' => (∃ v4 : Option V, σ = [some (.ref h), some (.int (k : Int)), some (.ref p), some (.ref L), v4]) ∧ Same H1 H' ∧ H' L = some (.lst (.int (I.length : Int) :: vi ((I.take i).flatMap twoP))))
        ⟨⟨none, rfl⟩, s2, upd_same⟩ (fun i σ H' _ h => SqL.of (h.2.1 _ _ hp)) ?_ ?_⟩
      · rintro i v σ H0 H2 hi ⟨⟨v4, rfl⟩, s3, hL⟩ ⟨rfl, hx⟩
        obtain ⟨e, he, rfl⟩ := refs_get hx
        obtain ⟨q, hq, hE⟩ := h4.get' he
        refine ⟨_, rfl, .inl ⟨rfl, _, SqL.of hL⟩, _, rfl, L, e, _, _, rfl, rfl, hL, s3 _ _ hE, ?_, ⟨_, rfl⟩, same_upd s3 nL, ?_⟩
        · rw [List.length_cons, List.length_map, twoP_len, List.length_take, sizeLine_eq]
          simp only [List.length_cons, List.length_nil]
          omega
        · rw [upd_same, take_more hq, List.flatMap_append]
          simp [vi, twoP]
      · rintro σ H2 ⟨⟨v4, rfl⟩, s3, hL⟩
        rw [htl, List.take_length] at hL
        refine ⟨_, rfl, done.same e0 hh (s1.trans s3) (s1.free nL) ?_⟩
        rw [hL]
        show some (HO.lst (V.int (I.length : Int) :: vi (I.flatMap twoP))) = some (HO.lst (V.int (I.length : Int) :: ((I.flatMap twoP).map fun (n : Nat) => (n : Int)).map V.int))
        rw [← vi_ints]
    · have e : Wf07.step m (.overlaps k) = (m, Wf07.ok (-2)) := by
        show (if 2 ≤ k then (m, Wf07.ok (-2)) else _) = _
        rw [if_pos (by omega)]
      exact ifT (by rw [decide_eq_false ck]; rfl) (ret_one fun q nq => done.same e hh (same_new nq) nq upd_same)
theorem scSame : FnScope ["self"] ["self"] (defScope sSame) := ⟨rfl, rfl, rfl, by decide +kernel, rfl, by decide +kernel, by decide +kernel⟩
def spSame (CR CT CH : Addr) : Sp := fun vs H Q _ => ∃ (h : Addr) (av : List Addr) (m : Wf07.House), vs = [.ref h] ∧ HouseAt CR CT CH av H h m ∧ HV m ∧ Done CR CT CH av h m .same H Q
theorem ok_same (F : Fun K "same" "House.same" sSame f fd) (T : TH K mg CH) (cU : Fn P w K mg base 4 "unlike" ["one", "other", "width"] (spUnlike CR CT)) (cW : Fn P w K mg base 2 "how_many_and_first" ["found"] spHow) : FnOk P w K mg base CX0 5 f fd ["self"] (spSame CR CT CH) := by
  refine F.ok scSame (fun vs H Q E h => ?_) (fun cdv A outer s H vs Q E hr h => ?_)
  · obtain ⟨h, av, m, rfl, _⟩ := h
    rfl
  · refine ⟨_, pss_one (ps_ret (pe_fn cW (hr.mono (by decide)) (pa_cons (pe_fn cU hr (pa_cons (pe_ix ix_list (pe_fld (pv 0) rfl) pe_int (fun _ _ => rfl)) (pa_cons (pe_ix ix_list (pe_fld (pv 0) rfl) pe_int (fun _ _ => rfl)) (pa_cons (pe_fld (pv 0) rfl) pa_nil)))) pa_nil))), ?_⟩
    obtain ⟨h, av, m, rfl, hh, hv, done⟩ := h
    obtain ⟨dx, tl, t, d, l, as, hP⟩ := id hh
    have h60 := hv.many 0
    have h61 := hv.many 1
    have e0 : Wf07.step m .same = (m, DM.toldC (DM.wanted ((m.t 0).rules ++ (m.t 1).rules) m.values (isUn (m.t 0) (m.t 1)))) := by
      rw [← DM.toldC_is]
      rfl
    refine ⟨_, rfl, h, CH, dx, _, _, rfl, hP.hh, T.cl, T.nTables, houF_tables _ _, tl, _, 0, _, rfl, rfl, SqL.of hP.htl, hP.at_ (k := 0) (by omega), _, rfl, h, CH, dx, _, _, rfl, hP.hh, T.cl, T.nTables, houF_tables _ _, tl, _, 1, _, rfl, rfl, SqL.of hP.htl, hP.at_ (k := 1) (by omega),
      _, rfl, h, CH, dx, _, _, rfl, hP.hh, T.cl, T.nWidth, houF_width _ _, t 0, t 1, m.values, m.t 0, m.t 1, rfl, hP.table (by omega), hP.table (by omega), hv.good 0, hv.good 1, hv.lo, hv.hi, h60, h61, fun H1 p s1 np hC => ?_⟩
    exact ⟨p, _, rfl, hC, wanted_good hv.hi, wanted_few (by rw [List.length_append]; omega) hv.hi, fun H2 q s2 nq hq => done.same e0 hh (s1.trans s2) (s1.free nq) hq⟩
abbrev nNearest : List Str := ["self", "table", "number", "point", "found"]
theorem scNearest : FnScope nNearest ["self", "table", "number", "point"] (defScope sNearest) := ⟨rfl, rfl, rfl, by decide +kernel, rfl, by decide +kernel, by decide +kernel⟩
def spNearest (K : PySem.W.Frag) (CR CT CH : Addr) : Sp := fun vs H Q _ => ∃ (h p : Addr) (av : List Addr) (m : Wf07.House) (k sy : Nat) (x : List Nat), vs = [.ref h, .int (k : Int), .int (sy : Int), .ref p] ∧ HouseAt CR CT CH av H h m ∧ HV m ∧ SqL K H p (vi x) ∧ x.length ≤ 1000 ∧ Done CR CT CH av h m (.nearest k sy x) H Q
theorem ok_nearest (F : Fun K "nearest" "House.nearest" sNearest f fd) (T : TH K mg CH) (TR : TR K mg CR) (nowhere : IntC mg "NOWHERE" (-6)) (cHas : Me P w K mg base 1 CH "has_table" ["self", "table"] (spHas CR CT CH)) (cIs : Fn P w K mg base 1 "is_point" ["row", "width"] (spIsPoint K))
    (cN : Fn P w K mg base 4 "nearest_deciding" ["table", "number", "point"] (spNearD K CR CT)) : FnOk P w K mg base CX0 5 f fd ["self", "table", "number", "point"] (spNearest K CR CT CH) := by
  refine F.ok scNearest (fun vs H Q E h => ?_) (fun cdv A outer s H vs Q E hr h => ?_)
  · obtain ⟨h, p, av, m, k, sy, x, rfl, _⟩ := h
    rfl
  · refine ⟨_, pss_cons (ps_if (pt_not (pt_val (pe_me cHas (hr.mono (by decide)) (pv 0) (pa_cons (pv 1) pa_nil)))) (pss_one (ps_ret (pe_lst (pa_cons (pe_const T.absent) pa_nil)))) pss_nil)
      (pss_cons (ps_if (pt_not (pt_val (pe_fn cIs (hr.mono (by decide)) (pa_cons (pv 3) (pa_cons (pe_fld (pv 0) rfl) pa_nil))))) (pss_one (ps_ret (pe_lst (pa_cons (pe_const T.wrong) pa_nil)))) pss_nil)
      (pss_cons (ps_set (i := 4) scNearest.nd rfl (Or.inl rfl) (pe_fn cN hr (pa_cons (pe_ix ix_list (pe_fld (pv 0) rfl) (pv 1) (fun _ _ => rfl)) (pa_cons (pv 2) (pa_cons (pv 3) pa_nil)))))
      (pss_cons (ps_if (pt_cmpR op_eq (pe_callB call_len_seq (by rfl) TR.len PySem.boot_len (pa_cons (pv 4) pa_nil)) pe_int (nomark _)) (pss_one (ps_ret (pe_lst (pa_cons (pe_const nowhere) pa_nil)))) pss_nil)
      (pss_one (ps_ret (pv 4)))))), ?_⟩
    obtain ⟨h, p, av, m, k, sy, x, rfl, hh, hv, hp, hx, done⟩ := h
    obtain ⟨dx, tl, t, d, l, as, hP⟩ := id hh
    refine ⟨_, rfl, h, dx, _, rfl, hP.hh, houF_no _ _ _ (by decide +kernel) (by decide +kernel), _, rfl, h, av, m, k, rfl, hh, _, rfl, ?_⟩
    by_cases ck : k < 2
    · refine ifF (by rw [decide_eq_true ck]; rfl) ?_
      refine ⟨_, rfl, _, rfl, h, CH, dx, _, _, rfl, hP.hh, T.cl, T.nWidth, houF_width _ _, p, m.values, x, rfl, hp, hx, fun H1 s1 => ⟨_, rfl, ?_⟩⟩
      rw [← isPoint_eq]
      cases hpt : Wf07.isPoint m x with
      | false =>
        have e : Wf07.step m (.nearest k sy x) = (m, Wf07.ok (-1)) := by
          show (if 2 ≤ k then _ else if Wf07.isPoint m x = false then (m, Wf07.ok (-1)) else _) = _
          rw [if_neg (by omega), if_pos hpt]
        exact ret_one fun q nq => done.same e hh (s1.trans (same_new nq)) (s1.free nq) upd_same
      | true =>
        have hxl : x.length = m.values := by
          rw [isPoint_eq, Bool.and_eq_true] at hpt
          exact beq_iff_eq.mp hpt.1
        have e : Wf07.step m (.nearest k sy x) = (m, match Wf07.nearest m.values (m.t k).rules (isSay (m.t k) sy) x with | none => Wf07.ok (-6) | some y => ⟨(Wf07.far y x : Nat), y⟩) := by
          show (if 2 ≤ k then _ else if Wf07.isPoint m x = false then _ else (m, _)) = _
          rw [if_neg (by omega), hpt, if_neg (by simp)]
          rfl
        have hP1 := hP.same s1
        have h6 := hv.many k
        refine ⟨_, rfl, h, CH, dx, _, _, rfl, hP1.hh, T.cl, T.nTables, houF_tables _ _, _, rfl, tl, _, _, _, rfl, rfl, SqL.of hP1.htl, hP.at_ ck, _, rfl, _, rfl, t k, p, m.values, sy, m.t k, x, rfl, hP1.table ck, s1.seq hp, hxl, hv.good k, hv.lo, hv.hi, h6, fun H2 q s2 nq hq => ?_⟩
        have s12 := s1.trans s2
        refine ⟨_, rfl, q, _, rfl, .inl (SqL.of hq), rfl, _, rfl, ?_⟩
        cases en : Wf07.nearest m.values (m.t k).rules (isSay (m.t k) sy) x with
        | none =>
          rw [en] at e
          exact ifT (decide_eq_true rfl) (ret_one fun z nz => done.same e hh (s12.trans (same_new nz)) (s12.free nz) upd_same)
        | some y =>
          rw [en] at e hq
          refine ifF (decide_eq_false (by intro z; have := V.int.inj z; simp [nearV, vi] at this; omega)) ⟨_, rfl, done.same e hh s12 (s1.free nq) ?_⟩
          rw [hq]
          show some (HO.lst (V.int (Wf07.far y x : Int) :: vi y)) = some (HO.lst (V.int (Wf07.far y x : Int) :: (y.map fun (n : Nat) => (n : Int)).map V.int))
          rw [← vi_ints]
    · have e : Wf07.step m (.nearest k sy x) = (m, Wf07.ok (-2)) := by
        show (if 2 ≤ k then (m, Wf07.ok (-2)) else _) = _
        rw [if_pos (by omega)]
      exact ifT (by rw [decide_eq_false ck]; rfl) (ret_one fun q nq => done.same e hh (same_new nq) nq upd_same)
end
end DC

set_option Elab.async false
set_option linter.all false
set_option maxRecDepth 100000
set_option maxHeartbeats 2000000
namespace DC
open PySem PySem.Spec PyProof.Rows L2
/-! ### a dict of the top: whole numbers to whole numbers -/
def tabOne (e : DictEntry) : Option (Int × Int) := match e.key, e.val with
  | .int k _, .int v _ => if e.hash = hashInt k then some (k, v) else none
  | _, _ => none
def tabOf : List DictEntry → Option (List (Int × Int))
  | [] => some []
  | e :: es => match tabOne e, tabOf es with
    | some p, some ps => some (p :: ps)
    | _, _ => none
theorem tabOne_is {e : DictEntry} {p : Int × Int} (h : tabOne e = some p) : ∃ t u, e.key = .int p.1 t ∧ e.val = .int p.2 u ∧ e.hash = hashInt p.1 := by
  obtain ⟨hs, ky, vl⟩ := e
  unfold tabOne at h
  cases ky <;> cases vl <;> dsimp only at h <;> try (cases h; done)
  split at h
  · cases h
    exact ⟨_, _, rfl, rfl, by assumption⟩
  · cases h
theorem tabOf_is : ∀ {es : List DictEntry} {kvs : List (Int × Int)}, tabOf es = some kvs → (∀ e ∈ es, ∃ k t, e.key = .int k t ∧ e.hash = hashInt k) ∧ ∀ i n, kvs.lookup i = some n → ∃ u, (es.find? fun e => Value.isInt i e.key).map (·.val) = some (.int n u)
  | [], kvs, h => by
    cases h
    exact ⟨by simp, by intro i n h; cases h⟩
  | e :: es, kvs, h => by
    unfold tabOf at h
    cases h1 : tabOne e with
    | none => rw [h1] at h; cases h
    | some p =>
      cases h2 : tabOf es with
      | none => rw [h1, h2] at h; cases h
      | some ps =>
        rw [h1, h2] at h
        cases h
        obtain ⟨t, u, e1, e2, e3⟩ := tabOne_is h1
        obtain ⟨i1, i2⟩ := tabOf_is h2
        refine ⟨fun x hx => ?_, fun i n hl => ?_⟩
        · rcases List.mem_cons.mp hx with z | z
          · rw [z]
            exact ⟨p.1, t, e1, e3⟩
          · exact i1 x z
        · obtain ⟨k, v⟩ := p
          rw [List.lookup_cons] at hl
          rw [List.find?_cons]
          have ek : Value.isInt i e.key = (i == k) := by
            rw [e1]
            show (k == i) = (i == k)
            exact Bool.eq_iff_iff.mpr (by simp only [beq_iff_eq]; exact ⟨Eq.symm, Eq.symm⟩)
          rw [ek]
          cases c : i == k with
          | true =>
            rw [c] at hl
            cases hl
            exact ⟨u, congrArg some e2⟩
          | false =>
            rw [c] at hl
            exact i2 i n hl
/-- such a dict at a -/
def IDct (K : PySem.W.Frag) (a : Addr) (kvs : List (Int × Int)) : Prop := ∃ (es : Array DictEntry) (n : Nat), K.lookup a = some ⟨.type "dict", none, .dict es n, #[]⟩ ∧ tabOf es.toList = some kvs
def rIxI (K : PySem.W.Frag) : R2 := fun x y H Q => ∃ (a : Addr) (kvs : List (Int × Int)) (i n : Int), x = .ref a ∧ y = .int i ∧ IDct K a kvs ∧ kvs.lookup i = some n ∧ Q (.int n) H
theorem ix_idct {X : Cx} : IxR X (rIxI X.K) := by
  intro value slice pins s σ H x y v u Q I rx ry h hs
  obtain ⟨a, kvs, i, n, rfl, rfl, ⟨⟨es⟩, ep, hl, ht⟩, hi, q⟩ := h
  obtain rfl : v = Value.ref a := rx
  obtain ⟨t, rfl⟩ := ry
  obtain ⟨hk, hf⟩ := tabOf_is ht
  obtain ⟨z, hz⟩ := hf i n hi
  have hm : s.heap.MapOf (PySem.intKind X.prog X.w) a (fun k => findBy (PySem.intKind X.prog X.w).is es.toArray k) := ⟨_, es.toArray, ep, I.kIn _ _ hl, ⟨rfl, rfl, rfl⟩, rfl, fun e he => by
    obtain ⟨k, t, e1, e2⟩ := hk e (by simpa using he)
    exact ⟨k, by rw [e1]; exact PySem.intKind_is _ _ _ _, e2⟩, fun _ => rfl⟩
  have hv : findBy (PySem.intKind X.prog X.w).is es.toArray i = some (.int n z) := by
    unfold findBy
    rw [List.find?_toArray]
    exact hz
  exact tail_any hm.typeIs PySem.slot_dict_getitem.lookup (wpAny_getItem_of (PySem.intKind_is _ _ i t) hm hv ⟨.int n, H, I.tok _, ⟨_, rfl⟩, q⟩) hs
/-! ### the house stays as it may be -/
theorem HV.init : HV Wf07.init := by
  have e : ∀ k, (Wf07.init.t k).rules = [] := fun k => by
    match k with
    | 0 => rfl
    | 1 => rfl
    | k + 2 => rfl
  refine ⟨by decide, by decide, rfl, fun k => ?_, fun k r hr => ?_⟩
  · rw [e k]
    exact Nat.zero_le _
  · rw [e k] at hr
    cases hr
theorem HV.setR {m : Wf07.House} (h : HV m) {k : Nat} (hk : k < 2) {rs : List Wf07.Rule} (h6 : rs.length ≤ 6) (hg : ∀ r ∈ rs, DM.Good m.values r) : HV (DC.setR m k rs) := by
  refine ⟨h.lo, h.hi, ?_, fun j => ?_, fun j r hr => ?_⟩
  · show (m.tables.set k _).length = 2
    rw [List.length_set]
    exact h.two
  · rw [setR_t h.two hk]
    split
    · exact h6
    · exact h.many j
  · rw [setR_t h.two hk] at hr
    split at hr
    · exact hg r hr
    · exact h.good j r hr
theorem HV.step {m : Wf07.House} (h : HV m) (c : Wf07.Call) : HV (Wf07.step m c).1 := by
  cases c with
  | begins n a b =>
    show HV (if n = 0 ∨ 3 < n ∨ 3 < a ∨ 3 < b then (m, Wf07.ok (-1)) else ((⟨n, [⟨a, []⟩, ⟨b, []⟩]⟩ : Wf07.House), Wf07.ok 0)).1
    split
    · exact h
    · rename_i hc
      have e : ∀ k, ((⟨n, [⟨a, []⟩, ⟨b, []⟩]⟩ : Wf07.House).t k).rules = [] := fun k => by
        match k with
        | 0 => rfl
        | 1 => rfl
        | k + 2 => rfl
      refine ⟨?_, ?_, rfl, fun k => ?_, fun k r hr => ?_⟩
      · show 1 ≤ n
        omega
      · show n ≤ 3
        omega
      · rw [e k]
        exact Nat.zero_le _
      · rw [e k] at hr
        cases hr
  | rule k l =>
    show HV (if 2 ≤ k then (m, Wf07.ok (-2)) else match Wf07.rule? m.values l with | none => (m, Wf07.ok (-1)) | some r => if (m.t k).rules.length = 6 then (m, Wf07.ok (-7)) else (DC.setR m k ((m.t k).rules ++ [r]), Wf07.ok ((m.t k).rules.length : Nat))).1
    split
    · exact h
    · split
      · exact h
      · rename_i hk _ r hr
        split
        · exact h
        · rename_i h6
          have := h.many k
          refine h.setR (by omega) ?_ fun q hq => ?_
          · rw [List.length_append]
            simp only [List.length_cons, List.length_nil]
            omega
          · rcases List.mem_append.mp hq with z | z
            · exact h.good k q z
            · rw [List.mem_singleton.mp z]
              cases l with
              | nil => cases hr
              | cons c l => exact (rule_some hr).2.2
  | drop k i =>
    show HV (if 2 ≤ k ∨ (m.t k).rules.length ≤ i then (m, Wf07.ok (-2)) else (({ m with tables := m.tables.set k ((m.t k).without i) } : Wf07.House), Wf07.ok ((m.t k).rules.length - 1 : Nat))).1
    split
    · exact h
    · rename_i hc
      rw [DM.without_is]
      have := h.many k
      refine h.setR (k := k) (by omega) (Nat.le_trans (List.length_eraseIdx_le ..) this) fun q hq => h.good k q (List.mem_of_mem_eraseIdx hq)
  | decides k x =>
    show HV (if 2 ≤ k then _ else if Wf07.isPoint m x = false then _ else (m, _)).1
    split
    · exact h
    · split
      · exact h
      · exact h
  | gaps k =>
    show HV (if 2 ≤ k then _ else (m, _)).1
    split
    · exact h
    · exact h
  | overlaps k =>
    show HV (if 2 ≤ k then _ else (m, _)).1
    split
    · exact h
    · exact h
  | idle k =>
    show HV (if 2 ≤ k then _ else (m, _)).1
    split
    · exact h
    · exact h
  | same => exact h
  | counts k =>
    show HV (if 2 ≤ k then _ else (m, _)).1
    split
    · exact h
    · exact h
  | nearest k z x =>
    show HV (if 2 ≤ k then _ else if Wf07.isPoint m x = false then _ else (m, _)).1
    split
    · exact h
    · split
      · exact h
      · exact h
end DC

set_option Elab.async false
set_option linter.all false
set_option maxRecDepth 100000
set_option maxHeartbeats 2000000
namespace DC
open PySem PySem.Spec PyProof.Rows L2
abbrev sAns : Stmt := top 54
abbrev sEnd : Stmt := top 55
abbrev sTo : Stmt := top 56
/-- the list that was handed in, apart from what is written -/
def SqA (K : PySem.W.Frag) (H : Hp) (av : List Addr) (a : Addr) (xs : List V) : Prop := (H a = some (.lst xs) ∧ a ∈ av) ∨ (∃ o, H a = some (.frz o (.lst xs))) ∨ ∀ H', SqL K H' a xs
theorem SqA.seq {K : PySem.W.Frag} {H : Hp} {av : List Addr} {a : Addr} {xs : List V} (h : SqA K H av a xs) : SqL K H a xs := by
  rcases h with ⟨h, _⟩ | ⟨o, h⟩ | h
  · exact .inl (.inl h)
  · exact .inl (.inr ⟨o, h⟩)
  · exact h H
theorem SqA.of {K : PySem.W.Frag} {H : Hp} {a : Addr} {xs : List V} (h : SqL K H a xs) : ∃ av : List Addr, (∀ b ∈ av, H b ≠ none) ∧ SqA K H av a xs := by
  rcases h with (h | ⟨o, h⟩) | h
  · exact ⟨[a], (fun b hb => by rw [List.mem_singleton.mp hb, h]; intro z; cases z), .inl ⟨h, by simp⟩⟩
  · exact ⟨[], by simp, .inr (.inl ⟨o, h⟩)⟩
  · exact ⟨[], by simp, .inr (.inr fun _ => .inr h)⟩
theorem SqA.same {K : PySem.W.Frag} {H H' : Hp} {av : List Addr} {a : Addr} {xs : List V} (s : Same H H') (h : SqA K H av a xs) : SqA K H' av a xs := by
  rcases h with ⟨h, m⟩ | ⟨o, h⟩ | h
  · exact .inl ⟨s _ _ h, m⟩
  · exact .inr (.inl ⟨o, s _ _ h⟩)
  · exact .inr (.inr h)
theorem SqA.more {K : PySem.W.Frag} {H : Hp} {av : List Addr} {a b : Addr} {xs : List V} (h : SqA K H av a xs) : SqA K H (b :: av) a xs := by
  rcases h with ⟨h, m⟩ | h | h
  · exact .inl ⟨h, List.mem_cons_of_mem _ m⟩
  · exact .inr (.inl h)
  · exact .inr (.inr h)
theorem SqA.fr {K : PySem.W.Frag} {H H' : Hp} {av : List Addr} {a h : Addr} {xs : List V} {C dx : Addr} {fs : List (Str × V)} (hh : H h = some (.ins C dx fs)) (f : Fr av h H H') (q : SqA K H av a xs) : SqA K H' av a xs := by
  rcases q with ⟨q, m⟩ | ⟨o, q⟩ | q
  · exact .inl ⟨f a _ q (ne_of q hh (by intro z; cases z)) (.inl m), m⟩
  · exact .inr (.inl ⟨o, f a _ q (ne_of q hh (by intro z; cases z)) (.inr fun _ z => by cases z)⟩)
  · exact .inr (.inr q)
/-- another list is written -/
theorem SqA.write {K : PySem.W.Frag} {H : Hp} {av : List Addr} {a b : Addr} {xs ys zs : List V} (hb : H b = some (.lst ys)) (n : a ≠ b) (q : SqA K H av a xs) : SqA K (upd H b (.lst zs)) av a xs := by
  rcases q with ⟨q, m⟩ | ⟨o, q⟩ | q
  · exact .inl ⟨upd_keep q n, m⟩
  · exact .inr (.inl ⟨o, upd_keep q n⟩)
  · exact .inr (.inr q)
section
variable {P : Program} {w : World} {K : PySem.W.Frag} {mg : Str → Option Value} {base : Heap} {CR CT CH : Addr} {f : Addr} {fd : FuncData} {S : Wf07.Call → Prop}
def spEnd (K : PySem.W.Frag) (S : Wf07.Call → Prop) : Sp := fun vs H Q _ => ∃ (a : Addr) (pre g rest : List Nat) (c : Wf07.Call), vs = [.ref a, .int (pre.length : Int)] ∧ SqL K H a (vi (pre ++ (g ++ rest))) ∧ DM.Flat g c ∧ S c ∧ Q (.int ((pre.length + g.length : Nat) : Int)) H
def spTo (K : PySem.W.Frag) (CR CT CH : Addr) (S : Wf07.Call → Prop) : Sp := fun vs H Q _ => ∃ (h p : Addr) (av : List Addr) (m : Wf07.House) (g : List Nat) (c : Wf07.Call), vs = [.ref h, .ref p] ∧ HouseAt CR CT CH av H h m ∧ HV m ∧ (∀ b ∈ av, H b ≠ none) ∧ SqL K H p (vi g) ∧ DM.Flat g c ∧ S c ∧
  Done CR CT CH av h m c H Q
def spAns (K : PySem.W.Frag) (S : Wf07.Call → Prop) : Sp := fun vs H Q _ => ∃ (a : Addr) (l : List Nat) (cs : List Wf07.Call), vs = [.ref a] ∧ SqL K H a (vi l) ∧ DM.Parsed l cs ∧ (∀ c ∈ cs, S c) ∧ l.length ≤ 1000 ∧ (PyFlat.told (DM.outs Wf07.init cs)).length ≤ 10000000 ∧
  ∀ (H' : Hp) (p : Addr), H' p = some (.lst ((PyFlat.told (DM.outs Wf07.init cs)).map V.int)) → Q (.ref p) H'
abbrev nAns : List Str := ["calls", "house", "told", "start", "end", "answer"]
theorem scAns : FnScope nAns ["calls"] (defScope sAns) := ⟨rfl, rfl, rfl, by decide +kernel, rfl, by decide +kernel, by decide +kernel⟩
theorem cut_is (pre g rest : List Nat) : cutV (vi (pre ++ (g ++ rest))) (some (pre.length : Int)) (some ((pre.length + g.length : Nat) : Int)) = vi g := by
  unfold cutV
  rw [HT.sIx_nat, HT.sIx_nat, ← List.map_drop, ← List.map_take]
  congr 1
  rw [List.length_map]
  have h1 : min pre.length (pre ++ (g ++ rest)).length = pre.length := by
    rw [List.length_append]
    omega
  have h2 : min (pre.length + g.length) (pre ++ (g ++ rest)).length = pre.length + g.length := by
    rw [List.length_append, List.length_append]
    omega
  rw [h1, h2, List.drop_left, Nat.add_sub_cancel_left, List.take_left]
theorem flat_pos {g : List Nat} {c : Wf07.Call} (h : DM.Flat g c) : 0 < g.length := by
  cases h <;> simp
theorem ok_ans (F : Fun K "answers" "answers" sAns f fd) (TR : TR K mg CR) (cM : Ma P w K mg base 3 "House" CH ["self"] (spHInit CR CT CH)) (cE : Fn P w K mg base 1 "end_of_call" ["calls", "start"] (spEnd K S)) (cA : Fn P w K mg base 7 "answer_to" ["house", "call"] (spTo K CR CT CH S)) :
    FnOk P w K mg base CX0 8 f fd ["calls"] (spAns K S) := by
  refine F.ok scAns (fun vs H Q E h => ?_) (fun cdv A outer s H vs Q E hr h => ?_)
  · obtain ⟨a, l, cs, rfl, _⟩ := h
    rfl
  · obtain ⟨fM, fdM, hM, GM, bM⟩ := cM.ex
    refine ⟨_, pss_cons (ps_set (i := 1) scAns.nd rfl (Or.inl rfl) (pe_make0 hM GM (hr.mono (by decide)) rfl cM.gC bM .nil pass0))
      (pss_cons (ps_set (i := 2) scAns.nd rfl (Or.inl rfl) (pe_lst pa_nil))
      (pss_cons (ps_set (i := 3) scAns.nd rfl (Or.inl rfl) pe_int)
      (pss_cons (ps_while PassesOwn.never (pt_cmpR op_lt (pv 3) (pe_callB call_len_seq (by rfl) TR.len PySem.boot_len (pa_cons (pv 0) pa_nil)) (nomark _))
        (pss_cons (ps_set (i := 4) scAns.nd rfl (Or.inl rfl) (pe_fn cE (hr.mono (by decide)) (pa_cons (pv 0) (pa_cons (pv 3) pa_nil))))
        (pss_cons (ps_set (i := 5) scAns.nd rfl (Or.inl rfl) (pe_fn cA hr (pa_cons (pv 1) (pa_cons (pe_slice sl_list (pv 0) (po_some (pv 3)) (po_some (pv 4))) pa_nil))))
        (pss_cons (ps_expr (pe_bm PySem.F.plainAttrs_list PySem.F.slot_list_append PySem.F.type_list_append mt_append (pv 2) (pa_cons (pe_callB call_len_seq (by rfl) TR.len PySem.boot_len (pa_cons (pv 5) pa_nil)) pa_nil)))
        (pss_cons (ps_expr (pe_bm PySem.F.plainAttrs_list PySem.F.slot_list_extend PySem.F.type_list_extend mt_extend (pv 2) (pa_cons (pv 5) pa_nil)))
        (pss_one (ps_set (i := 3) scAns.nd rfl (Or.inl rfl) (pv 4))))))))
      (pss_one (ps_ret (pv 2)))))), ?_⟩
    obtain ⟨a, l, cs, rfl, hl, hp, hS, hlen, hbig, k⟩ := h
    obtain ⟨ava, hava, hA⟩ := SqA.of hl
    -- house = House()
    intro h dx nh nd ne
    have s0 : Same H (upd (upd H dx (.own h)) h (.ins CH dx [])) := (same_new nd).trans (same_new (by rw [upd_ne ne.symm]; exact nh))
    refine ⟨h, dx, ava, rfl, upd_same, (fun b hb z => hava b hb (s0.free z)), fun H1 hH1 kp => ⟨rfl, ?_⟩⟩
    have s1 : Same H H1 := Same.made nh nd kp
    -- told = []
    refine ⟨(by decide), fun T nT => ?_⟩
    have aT : a ≠ T ∨ ∀ H', SqL K H' a (vi l) := by
      rcases hA with ⟨q, _⟩ | ⟨o, q⟩ | q
      · exact .inl (ne_of_none (s1 _ _ q) nT)
      · exact .inl (ne_of_none (s1 _ _ q) nT)
      · exact .inr q
    have hA1 : SqA K (upd H1 T (.lst [])) (T :: ava) a (vi l) := ((hA.same s1).same (same_new nT)).more
    have wr : ∀ {H2 : Hp} {ys zs : List V}, H2 T = some (.lst ys) → SqA K H2 (T :: ava) a (vi l) → SqA K (upd H2 T (.lst zs)) (T :: ava) a (vi l) := fun hT q => by
      rcases aT with n | n
      · exact q.write hT n
      · exact .inr (.inr n)
    refine while_by (fun σ H2 => ∃ (v4 v5 : Option V) (pre rest : List Nat) (cs2 : List Wf07.Call) (m : Wf07.House) (tl : List Int), σ = [some (.ref a), some (.ref h), some (.ref T), some (.int (pre.length : Int)), v4, v5] ∧ l = pre ++ rest ∧ DM.Parsed rest cs2 ∧ (∀ c ∈ cs2, S c) ∧ HV m ∧
        HouseAt CR CT CH (T :: ava) H2 h m ∧ H2 T = some (.lst (tl.map V.int)) ∧ tl ++ PyFlat.told (DM.outs m cs2) = PyFlat.told (DM.outs Wf07.init cs) ∧ SqA K H2 (T :: ava) a (vi l) ∧ (∀ b ∈ T :: ava, H2 b ≠ none))
      (fun σ _ => match σ[3]? with | some (some (V.int i)) => l.length - i.toNat | _ => 0) ?_ ?_ ?_
    · refine ⟨none, none, [], l, cs, Wf07.init, [], rfl, rfl, hp, hS, HV.init, hH1.more nT, upd_same, rfl, hA1, fun b hb => ?_⟩
      rcases List.mem_cons.mp hb with z | z
      · rw [z, upd_same]
        intro y
        cases y
      · intro y
        exact hava b z (s1.free ((same_new nT).free y))
    · rintro σ H2 ⟨v4, v5, pre, rest, cs2, m, tl, rfl, rfl, hp2, hS2, hv, hh, hT, htold, hA2, hav⟩
      refine ⟨_, rfl, _, rfl, a, _, rfl, .inl hA2.seq, _, _, rfl, rfl, _, rfl, ?_⟩
      have hL : (vi (pre ++ rest)).length = pre.length + rest.length := by rw [List.length_map, List.length_append]
      cases hp2 with
      | nil =>
        refine ifF (decide_eq_false (by rw [hL]; simp)) ⟨_, rfl, k _ T ?_⟩
        rw [hT, ← htold]
        show some (HO.lst (tl.map V.int)) = some (HO.lst ((tl ++ []).map V.int))
        rw [List.append_nil]
      | @cons g rest2 c cs3 hg hp3 =>
        have hg0 := flat_pos hg
        refine ifT (decide_eq_true (by rw [hL, List.length_append]; omega)) ?_
        refine ⟨_, rfl, _, rfl, a, pre, g, rest2, c, rfl, hA2.seq, hg, hS2 c (by simp), ?_⟩
        refine ⟨_, rfl, _, rfl, _, rfl, _, rfl, _, rfl, _, rfl, a, _, rfl, hA2.seq, fun p np => ?_⟩
        rw [cut_is]
        have s3 : Same H2 (upd H2 p (.lst (vi g))) := same_new np
        refine ⟨h, p, T :: ava, m, g, c, rfl, hh.same s3, hv, (fun b hb z => hav b hb (s3.free z)), SqL.of upd_same, hg, hS2 c (by simp), fun H3 q hH3 fr nq hq => ?_⟩
        have hT3 : H3 T = some (.lst (tl.map V.int)) := by
          obtain ⟨dx', tl', t', d', l', as', hP⟩ := hh.same s3
          exact fr T _ (s3 _ _ hT) (ne_of (s3 _ _ hT) hP.hh (by intro z; cases z)) (.inl (by simp))
        have hA3 : SqA K H3 (T :: ava) a (vi (pre ++ (g ++ rest2))) := by
          obtain ⟨dx', tl', t', d', l', as', hP⟩ := hh.same s3
          exact (hA2.same s3).fr hP.hh fr
        have qT : q ≠ T := (ne_of_none (s3 _ _ hT) nq).symm
        have hout : outV (Wf07.step m c).2 = (Wf07Neutral.out (Wf07.step m c).2).map V.int := rfl
        have hol : ((Wf07Neutral.out (Wf07.step m c).2).map V.int).length = (Wf07Neutral.out (Wf07.step m c).2).length := List.length_map ..
        have etold : tl ++ PyFlat.told (DM.outs m (c :: cs3)) = (tl ++ ((Wf07Neutral.out (Wf07.step m c).2).length : Int) :: Wf07Neutral.out (Wf07.step m c).2) ++ PyFlat.told (DM.outs (Wf07.step m c).1 cs3) := by
          show tl ++ PyFlat.told (Wf07Neutral.out (Wf07.step m c).2 :: DM.outs (Wf07.step m c).1 cs3) = _
          rw [DM.told_cons]
          simp
        rw [etold] at htold
        have htl : (tl ++ ((Wf07Neutral.out (Wf07.step m c).2).length : Int) :: Wf07Neutral.out (Wf07.step m c).2).length ≤ 10000000 := by
          rw [← htold, List.length_append] at hbig
          omega
        rw [List.length_append, List.length_cons] at htl
        refine ⟨_, rfl, .inl ⟨rfl, _, SqL.of hT3⟩, _, rfl, q, _, rfl, .inl (SqL.of hq), T, _, _, rfl, rfl, hT3, (by rw [List.length_map, sizeLine_eq]; omega), ?_⟩
        refine ⟨_, rfl, .inl ⟨rfl, _, SqL.of upd_same⟩, _, rfl, T, q, _, _, rfl, rfl, upd_same, upd_keep hq qT, (by rw [List.length_append, List.length_map, hol, sizeLine_eq]; simp only [List.length_cons, List.length_nil]; omega), ?_⟩
        refine ⟨_, rfl, ⟨some (.int ((pre.length + g.length : Nat) : Int)), some (.ref q), pre ++ g, rest2, cs3, (Wf07.step m c).1, _, ?_, ?_, hp3, fun x hx => hS2 x (by simp [hx]), hv.step c, (hH3.write (by simp) hT3).write (by simp) upd_same, ?_, htold, wr upd_same (wr hT3 hA3), fun b hb => ?_⟩, ?_⟩
        · rw [List.length_append]
          rfl
        · rw [List.append_assoc]
        · rw [upd_same, hol]
          simp
        · by_cases z : b = T
          · rw [z, upd_same]
            intro y
            cases y
          · rw [upd_ne z, upd_ne z]
            by_cases y : b = h
            · obtain ⟨dx', tl', t', d', l', as', hP⟩ := hH3
              rw [y, hP.hh]
              intro x
              cases x
            · cases eb : H2 b with
              | none => exact absurd eb (hav b hb)
              | some o =>
                rw [fr b o (s3 _ _ eb) y (.inl hb)]
                intro x
                cases x
        · show (pre ++ (g ++ rest2)).length - ((pre.length + g.length : Nat) : Int).toNat < (pre ++ (g ++ rest2)).length - ((pre.length : Nat) : Int).toNat
          rw [Int.toNat_natCast, Int.toNat_natCast, List.length_append, List.length_append]
          omega
    · rintro σ H2 Q1 Q2 mono ⟨v, e1, u, e2, p, ys, e3, e4, i, j, e5, e6, b, e7, q⟩
      exact ⟨v, e1, u, e2, p, ys, e3, e4, i, j, e5, e6, b, e7, mono _ _ q⟩
end
end DC

set_option Elab.async false
set_option linter.all false
set_option maxRecDepth 100000
set_option maxHeartbeats 2000000
namespace DC
open PySem PySem.Spec PyProof.Rows L2
/-- the request: a list that may be asked, and what is due -/
theorem request {S : Wf07.Call → Prop} {K : PySem.W.Frag} {H : Hp} {a : Addr} {ns : List Int} {Q : VK} {E : XK} (hS : ∀ c, S c) (hs : SqL K H a (ns.map V.int)) (hlen : ns.length ≤ 900) (hin : ∀ x ∈ ns, 0 ≤ x) (hask : PyWf07.answers_asked ns = true)
    (k : ∀ (H' : Hp) (p : Addr), H' p = some (.lst ((PyWf07.answers ns).map V.int)) → Q (.ref p) H') : spAns K S [.ref a] H Q E := by
  have e : ns = DM.ci (ns.map Int.toNat) := by
    unfold DM.ci
    rw [List.map_map]
    conv => lhs; rw [← List.map_id ns]
    refine List.map_congr_left fun x hx => ?_
    have := hin x hx
    show x = ((x.toNat : Nat) : Int)
    omega
  generalize ns.map Int.toNat = l at e
  subst e
  obtain ⟨cs, hp, ha, hb⟩ := DM.asked_is hask
  rw [ha] at k hb
  refine ⟨a, l, cs, rfl, ?_, hp, fun c _ => hS c, ?_, hb, k⟩
  · rw [vi_ints]
    exact hs
  · rw [List.length_map] at hlen
    omega
end DC

set_option Elab.async false
set_option linter.all false
set_option maxRecDepth 100000
set_option maxHeartbeats 2000000
namespace DC
open PySem PySem.Spec PyProof.Rows L2
abbrev sOfTab : Stmt := top 57
/-- any call -/
def S1 : Wf07.Call → Prop := fun _ => True
abbrev numbers : List (Int × Int) := [(0, 3), (1, 1), (2, 2), (3, 1), (4, 1), (5, 1), (6, 1), (7, 0), (8, 1), (9, 2)]
structure TZ (K : PySem.W.Frag) (mg : Str → Option Value) : Prop where
  begins : IntC mg "BEGINS" 0
  rule : IntC mg "RULE" 1
  drop : IntC mg "DROP" 2
  decides : IntC mg "DECIDES" 3
  gaps : IntC mg "GAPS" 4
  overlaps : IntC mg "OVERLAPS" 5
  idle : IntC mg "IDLE" 6
  same : IntC mg "SAME" 7
  nearest : IntC mg "NEAREST" 9
  num : ∃ a, mg "NUMBERS_OF_CALL" = some (.ref a) ∧ IDct K a numbers
section
variable {P : Program} {w : World} {K : PySem.W.Frag} {mg : Str → Option Value} {base : Heap} {CR CT CH : Addr} {f : Addr} {fd : FuncData}
theorem at_pre {pre g rest : List Nat} {i v : Nat} (h : g[i]? = some v) : (pre ++ (g ++ rest))[pre.length + i]? = some v := by
  have hi := (List.getElem?_eq_some_iff.mp h).1
  rw [List.getElem?_append_right (by omega), Nat.add_sub_cancel_left, List.getElem?_append_left hi]
  exact h
theorem flat_end {g : List Nat} {c : Wf07.Call} (h : DM.Flat g c) : ∃ p n : Nat, g[0]? = some p ∧ numbers.lookup (p : Int) = some (n : Int) ∧ ((p ≠ 1 ∧ p ≠ 3 ∧ p ≠ 9 ∧ g.length = 1 + n) ∨ ((p = 1 ∨ p = 3 ∨ p = 9) ∧ ∃ r, g[1 + n]? = some r ∧ g.length = 2 + n + r)) := by
  cases h with
  | begins n a b => exact ⟨0, 3, rfl, rfl, .inl ⟨by decide, by decide, by decide, rfl⟩⟩
  | rule k row _ => exact ⟨1, 1, rfl, rfl, .inr ⟨.inl rfl, row.length, rfl, by simp; omega⟩⟩
  | drop k i => exact ⟨2, 2, rfl, rfl, .inl ⟨by decide, by decide, by decide, rfl⟩⟩
  | decides k x _ => exact ⟨3, 1, rfl, rfl, .inr ⟨.inr (.inl rfl), x.length, rfl, by simp; omega⟩⟩
  | gaps k => exact ⟨4, 1, rfl, rfl, .inl ⟨by decide, by decide, by decide, rfl⟩⟩
  | overlaps k => exact ⟨5, 1, rfl, rfl, .inl ⟨by decide, by decide, by decide, rfl⟩⟩
  | idle k => exact ⟨6, 1, rfl, rfl, .inl ⟨by decide, by decide, by decide, rfl⟩⟩
  | same => exact ⟨7, 0, rfl, rfl, .inl ⟨by decide, by decide, by decide, rfl⟩⟩
  | counts k => exact ⟨8, 1, rfl, rfl, .inl ⟨by decide, by decide, by decide, rfl⟩⟩
  | nearest k s x _ => exact ⟨9, 2, rfl, rfl, .inr ⟨.inr (.inr rfl), x.length, rfl, by simp; omega⟩⟩
abbrev nEnd : List Str := ["calls", "start", "kind", "end"]
theorem scEnd : FnScope nEnd ["calls", "start"] (defScope sEnd) := ⟨rfl, rfl, rfl, by decide +kernel, rfl, by decide +kernel, by decide +kernel⟩
theorem ok_end (F : Fun K "end_of_call" "end_of_call" sEnd f fd) (T : TZ K mg) : FnOk P w K mg base CX0 1 f fd ["calls", "start"] (spEnd K S1) := by
  refine F.ok scEnd (fun vs H Q E h => ?_) (fun cdv A outer s H vs Q E hr h => ?_)
  · obtain ⟨a, pre, g, rest, c, rfl, _⟩ := h
    rfl
  · obtain ⟨aN, gN, hN⟩ := T.num
    refine ⟨_, pss_cons (ps_set (i := 2) scEnd.nd rfl (Or.inl rfl) (pe_ix ix_list (pv 0) (pv 1) (fun _ _ => rfl)))
      (pss_cons (ps_set (i := 3) scEnd.nd rfl (Or.inl rfl) (pe_op op_add (pe_op op_add (pv 1) pe_int) (pe_ix ix_idct (pe_glob (v := .ref aN) rfl gN rfl) (pv 2) (fun _ _ => rfl))))
      (pss_cons (ps_if (PW.pt (pw_or (pt_cmpR op_eq (pv 2) (pe_const T.rule) (nomark _)) (pw_or (pt_cmpR op_eq (pv 2) (pe_const T.decides) (nomark _)) (pw_or1 (pt_cmpR op_eq (pv 2) (pe_const T.nearest) (nomark _))))))
        (pss_one (ps_set (i := 3) scEnd.nd rfl (Or.inl rfl) (pe_op op_add (pe_op op_add (pv 3) pe_int) (pe_ix ix_list (pv 0) (pv 3) (fun _ _ => rfl))))) pss_nil)
      (pss_one (ps_ret (pv 3))))), ?_⟩
    obtain ⟨a, pre, g, rest, c, rfl, hl, hg, hS, k⟩ := h
    obtain ⟨p, n, h0, hn, hcase⟩ := flat_end hg
    refine ⟨_, rfl, _, rfl, a, _, _, _, rfl, rfl, hl, vi_at (at_pre h0) (by omega), _, rfl, _, _, rfl, rfl, _, rfl, aN, numbers, _, _, rfl, rfl, hN, hn, _, _, rfl, rfl, ?_⟩
    have one : ∀ b : Int, (decide (V.int (p : Int) = V.int b)) = decide ((p : Int) = b) := fun b => decide_eq_decide.mpr ⟨V.int.inj, congrArg _⟩
    refine ⟨_, rfl, rfl, _, rfl, ?_⟩
    rcases hcase with ⟨n1, n3, n9, hlen⟩ | ⟨hp, r, hr2, hlen⟩
    · refine ifF ((one 1).trans (decide_eq_false (by omega))) ⟨_, rfl, rfl, _, rfl, ?_⟩
      refine ifF ((one 3).trans (decide_eq_false (by omega))) ⟨_, rfl, rfl, _, rfl, ?_⟩
      refine ifF ((one 9).trans (decide_eq_false (by omega))) ⟨_, rfl, ?_⟩
      rw [hlen] at k
      show Q (.int ((pre.length : Int) + 1 + (n : Int))) H
      rw [show (pre.length : Int) + 1 + (n : Int) = ((pre.length + (1 + n) : Nat) : Int) by omega]
      exact k
    · have row : tSeq (tAsg (tOp (rI0 fun i j => .int (i + j)) (tOp (rI0 fun i j => .int (i + j)) (tVar 3) (tC (.int 1))) (tOp (rIxL K) (tVar 0) (tVar 3))) (gName 3)) (tRet (tVar 3)) { nx := fun _ H' => Q .non H', rt := Q }
          [some (.ref a), some (.int (pre.length : Int)), some (.int (p : Int)), some (.int ((pre.length : Int) + 1 + (n : Int)))] H := by
        refine ⟨_, rfl, _, _, rfl, rfl, _, rfl, _, rfl, a, _, _, _, rfl, rfl, hl, vi_at (at_pre hr2) (by omega), _, _, rfl, rfl, _, rfl, ?_⟩
        rw [hlen] at k
        show Q (.int ((pre.length : Int) + 1 + (n : Int) + 1 + (r : Int))) H
        rw [show (pre.length : Int) + 1 + (n : Int) + 1 + (r : Int) = ((pre.length + (2 + n + r) : Nat) : Int) by omega]
        exact k
      rcases hp with rfl | rfl | rfl
      · exact ifT ((one 1).trans (decide_eq_true rfl)) row
      · exact ifF ((one 1).trans (decide_eq_false (by omega))) ⟨_, rfl, rfl, _, rfl, ifT ((one 3).trans (decide_eq_true rfl)) row⟩
      · exact ifF ((one 1).trans (decide_eq_false (by omega))) ⟨_, rfl, rfl, _, rfl, ifF ((one 3).trans (decide_eq_false (by omega))) ⟨_, rfl, rfl, _, rfl, ifT ((one 9).trans (decide_eq_true rfl)) row⟩⟩
/-! ### answer_of_table -/
inductive KT : Nat → Nat → Wf07.Call → Prop
  | gaps (k : Nat) : KT 4 k (.gaps k)
  | overlaps (k : Nat) : KT 5 k (.overlaps k)
  | idle (k : Nat) : KT 6 k (.idle k)
  | counts (k : Nat) : KT 8 k (.counts k)
abbrev nOfTab : List Str := ["house", "kind", "table"]
theorem scOfTab : FnScope nOfTab nOfTab (defScope sOfTab) := ⟨rfl, rfl, rfl, by decide +kernel, rfl, by decide +kernel, by decide +kernel⟩
def spOfTab (CR CT CH : Addr) : Sp := fun vs H Q _ => ∃ (h : Addr) (av : List Addr) (m : Wf07.House) (p k : Nat) (c : Wf07.Call), vs = [.ref h, .int (p : Int), .int (k : Int)] ∧ HouseAt CR CT CH av H h m ∧ HV m ∧ KT p k c ∧ Done CR CT CH av h m c H Q
theorem ok_ofTab (F : Fun K "answer_of_table" "answer_of_table" sOfTab f fd) (T : TZ K mg) (cG : Me P w K mg base 5 CH "gaps" ["self", "table"] (spTab CR CT CH .gaps)) (cO : Me P w K mg base 3 CH "overlaps" ["self", "table"] (spTab CR CT CH .overlaps))
    (cI : Me P w K mg base 4 CH "idle" ["self", "table"] (spTab CR CT CH .idle)) (cC : Me P w K mg base 5 CH "counts" ["self", "table"] (spTab CR CT CH .counts)) : FnOk P w K mg base CX0 6 f fd nOfTab (spOfTab CR CT CH) := by
  refine F.ok scOfTab (fun vs H Q E h => ?_) (fun cdv A outer s H vs Q E hr h => ?_)
  · obtain ⟨h, av, m, p, k, c, rfl, _⟩ := h
    rfl
  · refine ⟨_, pss_cons (ps_if (pt_cmpR op_eq (pv 1) (pe_const T.gaps) (nomark _)) (pss_one (ps_ret (pe_me cG hr (pv 0) (pa_cons (pv 2) pa_nil)))) pss_nil)
      (pss_cons (ps_if (pt_cmpR op_eq (pv 1) (pe_const T.overlaps) (nomark _)) (pss_one (ps_ret (pe_me cO (hr.mono (by decide)) (pv 0) (pa_cons (pv 2) pa_nil)))) pss_nil)
      (pss_cons (ps_if (pt_cmpR op_eq (pv 1) (pe_const T.idle) (nomark _)) (pss_one (ps_ret (pe_me cI (hr.mono (by decide)) (pv 0) (pa_cons (pv 2) pa_nil)))) pss_nil)
      (pss_one (ps_ret (pe_me cC hr (pv 0) (pa_cons (pv 2) pa_nil)))))), ?_⟩
    obtain ⟨h, av, m, p, k, c, rfl, hh, hv, hk, done⟩ := h
    obtain ⟨dx, tl, t, d, l, as, hP⟩ := id hh
    have no : ∀ (x : Str), (x == ("width" : Str)) = false → (x == ("tables" : Str)) = false → (houF m.values tl).lookup x = none := fun x h1 h2 => houF_no _ _ _ h1 h2
    cases hk with
    | gaps =>
      refine ⟨_, rfl, rfl, _, rfl, ifT (decide_eq_true rfl) ⟨_, rfl, h, dx, _, rfl, hP.hh, no _ (by decide +kernel) (by decide +kernel), _, rfl, ?_⟩⟩
      exact ⟨h, av, m, k, rfl, hh, hv, done⟩
    | overlaps =>
      refine ⟨_, rfl, rfl, _, rfl, ifF (decide_eq_false (by intro z; cases z)) ⟨_, rfl, rfl, _, rfl, ?_⟩⟩
      refine ifT (decide_eq_true rfl) ⟨_, rfl, h, dx, _, rfl, hP.hh, no _ (by decide +kernel) (by decide +kernel), _, rfl, ?_⟩
      exact ⟨h, av, m, k, rfl, hh, hv, done⟩
    | idle =>
      refine ⟨_, rfl, rfl, _, rfl, ifF (decide_eq_false (by intro z; cases z)) ⟨_, rfl, rfl, _, rfl, ?_⟩⟩
      refine ifF (decide_eq_false (by intro z; cases z)) ⟨_, rfl, rfl, _, rfl, ?_⟩
      refine ifT (decide_eq_true rfl) ⟨_, rfl, h, dx, _, rfl, hP.hh, no _ (by decide +kernel) (by decide +kernel), _, rfl, ?_⟩
      exact ⟨h, av, m, k, rfl, hh, hv, done⟩
    | counts =>
      refine ⟨_, rfl, rfl, _, rfl, ifF (decide_eq_false (by intro z; cases z)) ⟨_, rfl, rfl, _, rfl, ?_⟩⟩
      refine ifF (decide_eq_false (by intro z; cases z)) ⟨_, rfl, rfl, _, rfl, ?_⟩
      refine ifF (decide_eq_false (by intro z; cases z)) ⟨_, rfl, h, dx, _, rfl, hP.hh, no _ (by decide +kernel) (by decide +kernel), _, rfl, ?_⟩
      exact ⟨h, av, m, k, rfl, hh, hv, done⟩
abbrev nTo : List Str := ["house", "call", "kind"]
theorem scTo : FnScope nTo ["house", "call"] (defScope sTo) := ⟨rfl, rfl, rfl, by decide +kernel, rfl, by decide +kernel, by decide +kernel⟩
theorem cut_from {l : List Nat} {z : Int} {i : Nat} (e : z = (i : Int)) (h : i ≤ l.length) : cutV (vi l) (some z) none = vi (l.drop i) := by
  subst e
  unfold cutV
  rw [HT.sIx_nat, HT.sIx_none, List.length_map, Nat.min_eq_left h, ← List.map_drop, List.take_of_length_le (by rw [List.length_map, List.length_drop]; exact Nat.le_refl _)]
theorem ok_to (F : Fun K "answer_to" "answer_to" sTo f fd) (T : TZ K mg) (cB : Me P w K mg base 3 CH "begins" nBegins (spBegins CR CT CH)) (cR : Me P w K mg base 4 CH "rule" ["self", "table", "row"] (spRule K CR CT CH)) (cD : Me P w K mg base 2 CH "drop" ["self", "table", "which"] (spDrop CR CT CH))
    (cX : Me P w K mg base 3 CH "decides" ["self", "table", "point"] (spDecides K CR CT CH)) (cS : Me P w K mg base 5 CH "same" ["self"] (spSame CR CT CH)) (cN : Me P w K mg base 5 CH "nearest" ["self", "table", "number", "point"] (spNearest K CR CT CH)) (cT : Fn P w K mg base 6 "answer_of_table" nOfTab (spOfTab CR CT CH)) : FnOk P w K mg base CX0 7 f fd ["house", "call"] (spTo K CR CT CH S1) := by
  refine F.ok scTo (fun vs H Q E h => ?_) (fun cdv A outer s H vs Q E hr h => ?_)
  · obtain ⟨h, p, av, m, g, c, rfl, _⟩ := h
    rfl
  · obtain ⟨fS, fdS, hmS, GS, bS⟩ := cS.ex
    refine ⟨_, pss_cons (ps_set (i := 2) scTo.nd rfl (Or.inl rfl) (pe_ix ix_list (pv 1) pe_int (fun _ _ => rfl)))
      (pss_cons (ps_if (pt_cmpR op_eq (pv 2) (pe_const T.begins) (nomark _)) (pss_one (ps_ret (pe_me cB (hr.mono (by decide)) (pv 0) (pa_cons (pe_ix ix_list (pv 1) pe_int (fun _ _ => rfl)) (pa_cons (pe_ix ix_list (pv 1) pe_int (fun _ _ => rfl)) (pa_cons (pe_ix ix_list (pv 1) pe_int (fun _ _ => rfl)) pa_nil)))))) pss_nil)
      (pss_cons (ps_if (pt_cmpR op_eq (pv 2) (pe_const T.rule) (nomark _)) (pss_one (ps_ret (pe_me cR (hr.mono (by decide)) (pv 0) (pa_cons (pe_ix ix_list (pv 1) pe_int (fun _ _ => rfl)) (pa_cons (pe_slice sl_list (pv 1) (po_some pe_int) po_none) pa_nil))))) pss_nil)
      (pss_cons (ps_if (pt_cmpR op_eq (pv 2) (pe_const T.drop) (nomark _)) (pss_one (ps_ret (pe_me cD (hr.mono (by decide)) (pv 0) (pa_cons (pe_ix ix_list (pv 1) pe_int (fun _ _ => rfl)) (pa_cons (pe_ix ix_list (pv 1) pe_int (fun _ _ => rfl)) pa_nil))))) pss_nil)
      (pss_cons (ps_if (pt_cmpR op_eq (pv 2) (pe_const T.decides) (nomark _)) (pss_one (ps_ret (pe_me cX (hr.mono (by decide)) (pv 0) (pa_cons (pe_ix ix_list (pv 1) pe_int (fun _ _ => rfl)) (pa_cons (pe_slice sl_list (pv 1) (po_some pe_int) po_none) pa_nil))))) pss_nil)
      (pss_cons (ps_if (pt_cmpR op_eq (pv 2) (pe_const T.same) (nomark _)) (pss_one (ps_ret (pe_meth0 (pv 0) cS.cl hmS GS (hr.mono (by decide)) bS .nil pass0))) pss_nil)
      (pss_cons (ps_if (pt_cmpR op_eq (pv 2) (pe_const T.nearest) (nomark _)) (pss_one (ps_ret (pe_me cN (hr.mono (by decide)) (pv 0) (pa_cons (pe_ix ix_list (pv 1) pe_int (fun _ _ => rfl)) (pa_cons (pe_ix ix_list (pv 1) pe_int (fun _ _ => rfl)) (pa_cons (pe_slice sl_list (pv 1) (po_some pe_int) po_none) pa_nil)))))) pss_nil)
      (pss_one (ps_ret (pe_fn cT hr (pa_cons (pv 0) (pa_cons (pv 2) (pa_cons (pe_ix ix_list (pv 1) pe_int (fun _ _ => rfl)) pa_nil)))))))))))), ?_⟩
    obtain ⟨h, p, av, m, g, c, rfl, hh, hv, hav, hp, hg, hS, done⟩ := h
    obtain ⟨dx, tl, t, d, l, as, hP⟩ := id hh
    have no : ∀ (x : Str), (x == ("width" : Str)) = false → (x == ("tables" : Str)) = false → (houF m.values tl).lookup x = none := fun x h1 h2 => houF_no _ _ _ h1 h2
    have dn : ∀ {c' : Wf07.Call} {H' : Hp}, c' = c → Same H H' → (∀ b ∈ av, H' b ≠ none) ∧ Done CR CT CH av h m c' H' Q := fun {c' H'} e s => ⟨fun b hb z => hav b hb (s.free z), fun H2 q a1 a2 a3 a4 => by
      subst e
      exact done H2 q a1 (fun b o e n x => a2 b o (s _ _ e) n x) (s.free a3) a4⟩
    cases hg with
    | begins n a b =>
      refine ⟨_, rfl, p, _, 0, _, rfl, rfl, hp, vi_at (i := 0) rfl rfl, _, rfl, rfl, _, rfl, ?_⟩
      refine ifT (decide_eq_true rfl) ⟨_, rfl, h, dx, _, rfl, hP.hh, no _ (by decide +kernel) (by decide +kernel), _, rfl, p, _, 1, _, rfl, rfl, hp, vi_at (i := 1) rfl rfl, _, rfl, p, _, 2, _, rfl, rfl, hp, vi_at (i := 2) rfl rfl, _, rfl, p, _, 3, _, rfl, rfl, hp, vi_at (i := 3) rfl rfl, ?_⟩
      exact ⟨h, av, m, n, a, b, rfl, hh, hav, done⟩
    | rule k row hrow =>
      refine ⟨_, rfl, p, _, 0, _, rfl, rfl, hp, vi_at (i := 0) rfl rfl, _, rfl, rfl, _, rfl, ?_⟩
      refine ifF (decide_eq_false (by intro z; cases z)) ⟨_, rfl, rfl, _, rfl, ?_⟩
      refine ifT (decide_eq_true rfl) ⟨_, rfl, h, dx, _, rfl, hP.hh, no _ (by decide +kernel) (by decide +kernel), _, rfl, p, _, 1, _, rfl, rfl, hp, vi_at (i := 1) rfl rfl, _, rfl, _, rfl, p, _, rfl, hp, fun q nq => ?_⟩
      rw [cut_from (z := 3) (i := 3) rfl (by simp)]
      have s1 : Same H (upd H q (.lst (vi ((1 :: k :: row.length :: row).drop 3)))) := same_new nq
      exact ⟨h, q, av, m, k, row, rfl, hh.same s1, hv, SqL.of upd_same, (dn rfl s1).1, (dn rfl s1).2⟩
    | drop k i =>
      refine ⟨_, rfl, p, _, 0, _, rfl, rfl, hp, vi_at (i := 0) rfl rfl, _, rfl, rfl, _, rfl, ?_⟩
      refine ifF (decide_eq_false (by intro z; cases z)) ⟨_, rfl, rfl, _, rfl, ?_⟩
      refine ifF (decide_eq_false (by intro z; cases z)) ⟨_, rfl, rfl, _, rfl, ?_⟩
      refine ifT (decide_eq_true rfl) ⟨_, rfl, h, dx, _, rfl, hP.hh, no _ (by decide +kernel) (by decide +kernel), _, rfl, p, _, 1, _, rfl, rfl, hp, vi_at (i := 1) rfl rfl, _, rfl, p, _, 2, _, rfl, rfl, hp, vi_at (i := 2) rfl rfl, ?_⟩
      exact ⟨h, av, m, k, i, rfl, hh, hv, done⟩
    | decides k x hx =>
      refine ⟨_, rfl, p, _, 0, _, rfl, rfl, hp, vi_at (i := 0) rfl rfl, _, rfl, rfl, _, rfl, ?_⟩
      refine ifF (decide_eq_false (by intro z; cases z)) ⟨_, rfl, rfl, _, rfl, ?_⟩
      refine ifF (decide_eq_false (by intro z; cases z)) ⟨_, rfl, rfl, _, rfl, ?_⟩
      refine ifF (decide_eq_false (by intro z; cases z)) ⟨_, rfl, rfl, _, rfl, ?_⟩
      refine ifT (decide_eq_true rfl) ⟨_, rfl, h, dx, _, rfl, hP.hh, no _ (by decide +kernel) (by decide +kernel), _, rfl, p, _, 1, _, rfl, rfl, hp, vi_at (i := 1) rfl rfl, _, rfl, _, rfl, p, _, rfl, hp, fun q nq => ?_⟩
      rw [cut_from (z := 3) (i := 3) rfl (by simp)]
      have s1 : Same H (upd H q (.lst (vi ((3 :: k :: x.length :: x).drop 3)))) := same_new nq
      exact ⟨h, q, av, m, k, x, rfl, hh.same s1, hv, SqL.of upd_same, (by omega), (dn rfl s1).2⟩
    | gaps k =>
      refine ⟨_, rfl, p, _, 0, _, rfl, rfl, hp, vi_at (i := 0) rfl rfl, _, rfl, rfl, _, rfl, ?_⟩
      refine ifF (decide_eq_false (by intro z; cases z)) ⟨_, rfl, rfl, _, rfl, ?_⟩
      refine ifF (decide_eq_false (by intro z; cases z)) ⟨_, rfl, rfl, _, rfl, ?_⟩
      refine ifF (decide_eq_false (by intro z; cases z)) ⟨_, rfl, rfl, _, rfl, ?_⟩
      refine ifF (decide_eq_false (by intro z; cases z)) ⟨_, rfl, rfl, _, rfl, ?_⟩
      refine ifF (decide_eq_false (by intro z; cases z)) ⟨_, rfl, rfl, _, rfl, ?_⟩
      refine ifF (decide_eq_false (by intro z; cases z)) ⟨_, rfl, _, rfl, _, rfl, p, _, 1, _, rfl, rfl, hp, vi_at (i := 1) rfl rfl, ?_⟩
      exact ⟨h, av, m, _, k, _, rfl, hh, hv, .gaps k, done⟩
    | overlaps k =>
      refine ⟨_, rfl, p, _, 0, _, rfl, rfl, hp, vi_at (i := 0) rfl rfl, _, rfl, rfl, _, rfl, ?_⟩
      refine ifF (decide_eq_false (by intro z; cases z)) ⟨_, rfl, rfl, _, rfl, ?_⟩
      refine ifF (decide_eq_false (by intro z; cases z)) ⟨_, rfl, rfl, _, rfl, ?_⟩
      refine ifF (decide_eq_false (by intro z; cases z)) ⟨_, rfl, rfl, _, rfl, ?_⟩
      refine ifF (decide_eq_false (by intro z; cases z)) ⟨_, rfl, rfl, _, rfl, ?_⟩
      refine ifF (decide_eq_false (by intro z; cases z)) ⟨_, rfl, rfl, _, rfl, ?_⟩
      refine ifF (decide_eq_false (by intro z; cases z)) ⟨_, rfl, _, rfl, _, rfl, p, _, 1, _, rfl, rfl, hp, vi_at (i := 1) rfl rfl, ?_⟩
      exact ⟨h, av, m, _, k, _, rfl, hh, hv, .overlaps k, done⟩
    | idle k =>
      refine ⟨_, rfl, p, _, 0, _, rfl, rfl, hp, vi_at (i := 0) rfl rfl, _, rfl, rfl, _, rfl, ?_⟩
      refine ifF (decide_eq_false (by intro z; cases z)) ⟨_, rfl, rfl, _, rfl, ?_⟩
      refine ifF (decide_eq_false (by intro z; cases z)) ⟨_, rfl, rfl, _, rfl, ?_⟩
      refine ifF (decide_eq_false (by intro z; cases z)) ⟨_, rfl, rfl, _, rfl, ?_⟩
      refine ifF (decide_eq_false (by intro z; cases z)) ⟨_, rfl, rfl, _, rfl, ?_⟩
      refine ifF (decide_eq_false (by intro z; cases z)) ⟨_, rfl, rfl, _, rfl, ?_⟩
      refine ifF (decide_eq_false (by intro z; cases z)) ⟨_, rfl, _, rfl, _, rfl, p, _, 1, _, rfl, rfl, hp, vi_at (i := 1) rfl rfl, ?_⟩
      exact ⟨h, av, m, _, k, _, rfl, hh, hv, .idle k, done⟩
    | counts k =>
      refine ⟨_, rfl, p, _, 0, _, rfl, rfl, hp, vi_at (i := 0) rfl rfl, _, rfl, rfl, _, rfl, ?_⟩
      refine ifF (decide_eq_false (by intro z; cases z)) ⟨_, rfl, rfl, _, rfl, ?_⟩
      refine ifF (decide_eq_false (by intro z; cases z)) ⟨_, rfl, rfl, _, rfl, ?_⟩
      refine ifF (decide_eq_false (by intro z; cases z)) ⟨_, rfl, rfl, _, rfl, ?_⟩
      refine ifF (decide_eq_false (by intro z; cases z)) ⟨_, rfl, rfl, _, rfl, ?_⟩
      refine ifF (decide_eq_false (by intro z; cases z)) ⟨_, rfl, rfl, _, rfl, ?_⟩
      refine ifF (decide_eq_false (by intro z; cases z)) ⟨_, rfl, _, rfl, _, rfl, p, _, 1, _, rfl, rfl, hp, vi_at (i := 1) rfl rfl, ?_⟩
      exact ⟨h, av, m, _, k, _, rfl, hh, hv, .counts k, done⟩
    | same =>
      refine ⟨_, rfl, p, _, 0, _, rfl, rfl, hp, vi_at (i := 0) rfl rfl, _, rfl, rfl, _, rfl, ?_⟩
      refine ifF (decide_eq_false (by intro z; cases z)) ⟨_, rfl, rfl, _, rfl, ?_⟩
      refine ifF (decide_eq_false (by intro z; cases z)) ⟨_, rfl, rfl, _, rfl, ?_⟩
      refine ifF (decide_eq_false (by intro z; cases z)) ⟨_, rfl, rfl, _, rfl, ?_⟩
      refine ifF (decide_eq_false (by intro z; cases z)) ⟨_, rfl, rfl, _, rfl, ?_⟩
      refine ifT (decide_eq_true rfl) ⟨_, rfl, h, dx, _, rfl, hP.hh, no _ (by decide +kernel) (by decide +kernel), ?_⟩
      exact ⟨h, av, m, rfl, hh, hv, done⟩
    | nearest k sy x hx =>
      refine ⟨_, rfl, p, _, 0, _, rfl, rfl, hp, vi_at (i := 0) rfl rfl, _, rfl, rfl, _, rfl, ?_⟩
      refine ifF (decide_eq_false (by intro z; cases z)) ⟨_, rfl, rfl, _, rfl, ?_⟩
      refine ifF (decide_eq_false (by intro z; cases z)) ⟨_, rfl, rfl, _, rfl, ?_⟩
      refine ifF (decide_eq_false (by intro z; cases z)) ⟨_, rfl, rfl, _, rfl, ?_⟩
      refine ifF (decide_eq_false (by intro z; cases z)) ⟨_, rfl, rfl, _, rfl, ?_⟩
      refine ifF (decide_eq_false (by intro z; cases z)) ⟨_, rfl, rfl, _, rfl, ?_⟩
      refine ifT (decide_eq_true rfl) ⟨_, rfl, h, dx, _, rfl, hP.hh, no _ (by decide +kernel) (by decide +kernel), _, rfl, p, _, 1, _, rfl, rfl, hp, vi_at (i := 1) rfl rfl, _, rfl, p, _, 2, _, rfl, rfl, hp, vi_at (i := 2) rfl rfl, _, rfl, _, rfl, p, _, rfl, hp, fun q nq => ?_⟩
      rw [cut_from (z := 4) (i := 4) rfl (by simp)]
      have s1 : Same H (upd H q (.lst (vi ((9 :: k :: sy :: x.length :: x).drop 4)))) := same_new nq
      exact ⟨h, q, av, m, k, sy, x, rfl, hh.same s1, hv, SqL.of upd_same, (by omega), (dn rfl s1).2⟩
end
end DC

set_option Elab.async false
set_option linter.all false
set_option maxRecDepth 100000
set_option maxHeartbeats 2000000
namespace DC
open PySem PySem.Spec PyProof.Rows L2
theorem all_mk {P : Program} {w : World} {K : PySem.W.Frag} {h : Heap} {mg : Str → Option Value} {fa CR CT CH aNN : Addr} {f_rInit f_holds f_meets f_isPoint f_isRange f_isRule f_rangesIn f_ruleFrom f_spans f_cells f_len f_first f_size f_nearPt f_dist f_undec f_unlike f_how f_ovl f_idleR f_without f_counted f_nearD f_decided f_tInit f_holding f_decision f_decAt f_hInit f_has f_begins f_rule f_drop f_decides f_gaps f_overlaps f_idle f_same f_counts f_nearest f_ans f_end f_to f_ofTab : Addr} (X : K.In h) (G : h.Ns mainGlobals mg) (hfa : mg "answers" = some (.ref fa))
    {od_rInit an_rInit od_holds an_holds od_meets an_meets od_isPoint an_isPoint od_isRange an_isRange od_isRule an_isRule od_rangesIn an_rangesIn od_ruleFrom an_ruleFrom od_spans an_spans od_cells an_cells od_len an_len od_first an_first od_size an_size od_nearPt an_nearPt od_dist an_dist od_undec an_undec od_unlike an_unlike od_how an_how od_ovl an_ovl od_idleR an_idleR od_without an_without od_counted an_counted od_nearD an_nearD od_decided an_decided od_tInit an_tInit od_holding an_holding od_decision an_decision od_decAt an_decAt od_hInit an_hInit od_has an_has od_begins an_begins od_rule an_rule od_drop an_drop od_decides an_decides od_gaps an_gaps od_overlaps an_overlaps od_idle an_idle od_same an_same od_counts an_counts od_nearest an_nearest od_ans an_ans od_end an_end od_to an_to od_ofTab an_ofTab : Option Addr} {sl_rInit sl_holds sl_meets sl_isPoint sl_isRange sl_isRule sl_rangesIn sl_ruleFrom sl_spans sl_cells sl_len sl_first sl_size sl_nearPt sl_dist sl_undec sl_unlike sl_how sl_ovl sl_idleR sl_without sl_counted sl_nearD sl_decided sl_tInit sl_holding sl_decision sl_decAt sl_hInit sl_has sl_begins sl_rule sl_drop sl_decides sl_gaps sl_overlaps sl_idle sl_same sl_counts sl_nearest sl_ans sl_end sl_to sl_ofTab : Array (Option Value)}
    {oc_rInit kV_rInit dc_rInit pm_rInit cd_rInit ct_rInit oc_holds kV_holds dc_holds pm_holds cd_holds ct_holds oc_meets kV_meets dc_meets pm_meets cd_meets ct_meets oc_isPoint kV_isPoint dc_isPoint pm_isPoint cd_isPoint ct_isPoint oc_isRange kV_isRange dc_isRange pm_isRange cd_isRange ct_isRange oc_isRule kV_isRule dc_isRule pm_isRule cd_isRule ct_isRule oc_rangesIn kV_rangesIn dc_rangesIn pm_rangesIn cd_rangesIn ct_rangesIn oc_ruleFrom kV_ruleFrom dc_ruleFrom pm_ruleFrom cd_ruleFrom ct_ruleFrom oc_spans kV_spans dc_spans pm_spans cd_spans ct_spans oc_cells kV_cells dc_cells pm_cells cd_cells ct_cells oc_len kV_len dc_len pm_len cd_len ct_len oc_first kV_first dc_first pm_first cd_first ct_first oc_size kV_size dc_size pm_size cd_size ct_size oc_nearPt kV_nearPt dc_nearPt pm_nearPt cd_nearPt ct_nearPt oc_dist kV_dist dc_dist pm_dist cd_dist ct_dist oc_undec kV_undec dc_undec pm_undec cd_undec ct_undec oc_unlike kV_unlike dc_unlike pm_unlike cd_unlike ct_unlike oc_how kV_how dc_how pm_how cd_how ct_how oc_ovl kV_ovl dc_ovl pm_ovl cd_ovl ct_ovl oc_idleR kV_idleR dc_idleR pm_idleR cd_idleR ct_idleR oc_without kV_without dc_without pm_without cd_without ct_without oc_counted kV_counted dc_counted pm_counted cd_counted ct_counted oc_nearD kV_nearD dc_nearD pm_nearD cd_nearD ct_nearD oc_decided kV_decided dc_decided pm_decided cd_decided ct_decided oc_tInit kV_tInit dc_tInit pm_tInit cd_tInit ct_tInit oc_holding kV_holding dc_holding pm_holding cd_holding ct_holding oc_decision kV_decision dc_decision pm_decision cd_decision ct_decision oc_decAt kV_decAt dc_decAt pm_decAt cd_decAt ct_decAt oc_hInit kV_hInit dc_hInit pm_hInit cd_hInit ct_hInit oc_has kV_has dc_has pm_has cd_has ct_has oc_begins kV_begins dc_begins pm_begins cd_begins ct_begins oc_rule kV_rule dc_rule pm_rule cd_rule ct_rule oc_drop kV_drop dc_drop pm_drop cd_drop ct_drop oc_decides kV_decides dc_decides pm_decides cd_decides ct_decides oc_gaps kV_gaps dc_gaps pm_gaps cd_gaps ct_gaps oc_overlaps kV_overlaps dc_overlaps pm_overlaps cd_overlaps ct_overlaps oc_idle kV_idle dc_idle pm_idle cd_idle ct_idle oc_same kV_same dc_same pm_same cd_same ct_same oc_counts kV_counts dc_counts pm_counts cd_counts ct_counts oc_nearest kV_nearest dc_nearest pm_nearest cd_nearest ct_nearest oc_ans kV_ans dc_ans pm_ans cd_ans ct_ans oc_end kV_end dc_end pm_end cd_end ct_end oc_to kV_to dc_to pm_to cd_to ct_to oc_ofTab kV_ofTab dc_ofTab pm_ofTab cd_ofTab ct_ofTab : Value}
    {tHIGHEST_VALUE tHIGHEST_NUMBER tHIGHEST_WAY tFIRST_ONE tALL_AGREE tGREATEST tNOTHING tCLASH tMOST_VALUES tMOST_RULES tWRONG tABSENT tNOWHERE tFULL tBEGINS tRULE tDROP tDECIDES tGAPS tOVERLAPS tIDLE tSAME tNEAREST : Tok} {esN : Array DictEntry} {nN : Nat}
    (aCR : PySem.W.nsIn K mainGlobals "Rule" = some (some (.ref CR))) (pgCR : PySem.W.plainGet K CR Str.empty = true) (hdCR : PySem.W.hasDictIn K CR = true) (poCR : PySem.W.plainOver K CR = true) (saCR : PySem.W.findIn K (.ref CR) "__setattr__" = some (some (.builtin "object.__setattr__"))) (mkCR : PySem.W.makesIn K CR = true) (kcCR : PySem.W.keepIn K (.ref CR) = true)
    (nCR_says : PySem.W.findIn K (.ref CR) "says" = some none)
    (nCR_ranges : PySem.W.findIn K (.ref CR) "ranges" = some none)
    (aCT : PySem.W.nsIn K mainGlobals "Table" = some (some (.ref CT))) (pgCT : PySem.W.plainGet K CT Str.empty = true) (hdCT : PySem.W.hasDictIn K CT = true) (poCT : PySem.W.plainOver K CT = true) (saCT : PySem.W.findIn K (.ref CT) "__setattr__" = some (some (.builtin "object.__setattr__"))) (mkCT : PySem.W.makesIn K CT = true) (kcCT : PySem.W.keepIn K (.ref CT) = true)
    (nCT_way : PySem.W.findIn K (.ref CT) "way" = some none)
    (nCT_rules : PySem.W.findIn K (.ref CT) "rules" = some none)
    (aCH : PySem.W.nsIn K mainGlobals "House" = some (some (.ref CH))) (pgCH : PySem.W.plainGet K CH Str.empty = true) (hdCH : PySem.W.hasDictIn K CH = true) (poCH : PySem.W.plainOver K CH = true) (saCH : PySem.W.findIn K (.ref CH) "__setattr__" = some (some (.builtin "object.__setattr__"))) (mkCH : PySem.W.makesIn K CH = true) (kcCH : PySem.W.keepIn K (.ref CH) = true)
    (nCH_width : PySem.W.findIn K (.ref CH) "width" = some none)
    (nCH_tables : PySem.W.findIn K (.ref CH) "tables" = some none)
    (a_rInit : PySem.W.findIn K (.ref CR) "__init__" = some (some (.ref f_rInit))) (i_rInit : PySem.W.isFn K (.ref f_rInit) = true)
    (l_rInit : K.lookup f_rInit = some ⟨oc_rInit, od_rInit, .func (PySem.W.fnOf "__init__" "Rule.__init__" (defArgs sRInit) (defBody sRInit) (defScope sRInit) .none kV_rInit dc_rInit pm_rInit an_rInit cd_rInit ct_rInit), sl_rInit⟩) (c_rInit : PySem.W.codeIn K cd_rInit "Rule.__init__" = true) (k_rInit : PySem.W.keepIn K (.ref f_rInit) = true)
    (a_holds : PySem.W.findIn K (.ref CR) "holds" = some (some (.ref f_holds))) (i_holds : PySem.W.isFn K (.ref f_holds) = true)
    (l_holds : K.lookup f_holds = some ⟨oc_holds, od_holds, .func (PySem.W.fnOf "holds" "Rule.holds" (defArgs sHolds) (defBody sHolds) (defScope sHolds) .none kV_holds dc_holds pm_holds an_holds cd_holds ct_holds), sl_holds⟩) (c_holds : PySem.W.codeIn K cd_holds "Rule.holds" = true) (k_holds : PySem.W.keepIn K (.ref f_holds) = true)
    (a_meets : PySem.W.findIn K (.ref CR) "meets" = some (some (.ref f_meets))) (i_meets : PySem.W.isFn K (.ref f_meets) = true)
    (l_meets : K.lookup f_meets = some ⟨oc_meets, od_meets, .func (PySem.W.fnOf "meets" "Rule.meets" (defArgs sMeets) (defBody sMeets) (defScope sMeets) .none kV_meets dc_meets pm_meets an_meets cd_meets ct_meets), sl_meets⟩) (c_meets : PySem.W.codeIn K cd_meets "Rule.meets" = true) (k_meets : PySem.W.keepIn K (.ref f_meets) = true)
    (a_isPoint : PySem.W.nsIn K mainGlobals "is_point" = some (some (.ref f_isPoint)))
    (l_isPoint : K.lookup f_isPoint = some ⟨oc_isPoint, od_isPoint, .func (PySem.W.fnOf "is_point" "is_point" (defArgs sIsPoint) (defBody sIsPoint) (defScope sIsPoint) .none kV_isPoint dc_isPoint pm_isPoint an_isPoint cd_isPoint ct_isPoint), sl_isPoint⟩) (c_isPoint : PySem.W.codeIn K cd_isPoint "is_point" = true) (k_isPoint : PySem.W.keepIn K (.ref f_isPoint) = true)
    (a_isRange : PySem.W.nsIn K mainGlobals "is_range" = some (some (.ref f_isRange)))
    (l_isRange : K.lookup f_isRange = some ⟨oc_isRange, od_isRange, .func (PySem.W.fnOf "is_range" "is_range" (defArgs sIsRange) (defBody sIsRange) (defScope sIsRange) .none kV_isRange dc_isRange pm_isRange an_isRange cd_isRange ct_isRange), sl_isRange⟩) (c_isRange : PySem.W.codeIn K cd_isRange "is_range" = true) (k_isRange : PySem.W.keepIn K (.ref f_isRange) = true)
    (a_isRule : PySem.W.nsIn K mainGlobals "is_rule" = some (some (.ref f_isRule)))
    (l_isRule : K.lookup f_isRule = some ⟨oc_isRule, od_isRule, .func (PySem.W.fnOf "is_rule" "is_rule" (defArgs sIsRule) (defBody sIsRule) (defScope sIsRule) .none kV_isRule dc_isRule pm_isRule an_isRule cd_isRule ct_isRule), sl_isRule⟩) (c_isRule : PySem.W.codeIn K cd_isRule "is_rule" = true) (k_isRule : PySem.W.keepIn K (.ref f_isRule) = true)
    (a_rangesIn : PySem.W.nsIn K mainGlobals "ranges_in" = some (some (.ref f_rangesIn)))
    (l_rangesIn : K.lookup f_rangesIn = some ⟨oc_rangesIn, od_rangesIn, .func (PySem.W.fnOf "ranges_in" "ranges_in" (defArgs sRangesIn) (defBody sRangesIn) (defScope sRangesIn) .none kV_rangesIn dc_rangesIn pm_rangesIn an_rangesIn cd_rangesIn ct_rangesIn), sl_rangesIn⟩) (c_rangesIn : PySem.W.codeIn K cd_rangesIn "ranges_in" = true) (k_rangesIn : PySem.W.keepIn K (.ref f_rangesIn) = true)
    (a_ruleFrom : PySem.W.nsIn K mainGlobals "rule_from" = some (some (.ref f_ruleFrom)))
    (l_ruleFrom : K.lookup f_ruleFrom = some ⟨oc_ruleFrom, od_ruleFrom, .func (PySem.W.fnOf "rule_from" "rule_from" (defArgs sRuleFrom) (defBody sRuleFrom) (defScope sRuleFrom) .none kV_ruleFrom dc_ruleFrom pm_ruleFrom an_ruleFrom cd_ruleFrom ct_ruleFrom), sl_ruleFrom⟩) (c_ruleFrom : PySem.W.codeIn K cd_ruleFrom "rule_from" = true) (k_ruleFrom : PySem.W.keepIn K (.ref f_ruleFrom) = true)
    (a_spans : PySem.W.nsIn K mainGlobals "spans" = some (some (.ref f_spans)))
    (l_spans : K.lookup f_spans = some ⟨oc_spans, od_spans, .func (PySem.W.fnOf "spans" "spans" (defArgs sSpans) (defBody sSpans) (defScope sSpans) .none kV_spans dc_spans pm_spans an_spans cd_spans ct_spans), sl_spans⟩) (c_spans : PySem.W.codeIn K cd_spans "spans" = true) (k_spans : PySem.W.keepIn K (.ref f_spans) = true)
    (a_cells : PySem.W.nsIn K mainGlobals "cells" = some (some (.ref f_cells)))
    (l_cells : K.lookup f_cells = some ⟨oc_cells, od_cells, .func (PySem.W.fnOf "cells" "cells" (defArgs sCells) (defBody sCells) (defScope sCells) .none kV_cells dc_cells pm_cells an_cells cd_cells ct_cells), sl_cells⟩) (c_cells : PySem.W.codeIn K cd_cells "cells" = true) (k_cells : PySem.W.keepIn K (.ref f_cells) = true)
    (a_len : PySem.W.nsIn K mainGlobals "lengthened" = some (some (.ref f_len)))
    (l_len : K.lookup f_len = some ⟨oc_len, od_len, .func (PySem.W.fnOf "lengthened" "lengthened" (defArgs sLengthened) (defBody sLengthened) (defScope sLengthened) .none kV_len dc_len pm_len an_len cd_len ct_len), sl_len⟩) (c_len : PySem.W.codeIn K cd_len "lengthened" = true) (k_len : PySem.W.keepIn K (.ref f_len) = true)
    (a_first : PySem.W.nsIn K mainGlobals "first_point" = some (some (.ref f_first)))
    (l_first : K.lookup f_first = some ⟨oc_first, od_first, .func (PySem.W.fnOf "first_point" "first_point" (defArgs sFirstPoint) (defBody sFirstPoint) (defScope sFirstPoint) .none kV_first dc_first pm_first an_first cd_first ct_first), sl_first⟩) (c_first : PySem.W.codeIn K cd_first "first_point" = true) (k_first : PySem.W.keepIn K (.ref f_first) = true)
    (a_size : PySem.W.nsIn K mainGlobals "size" = some (some (.ref f_size)))
    (l_size : K.lookup f_size = some ⟨oc_size, od_size, .func (PySem.W.fnOf "size" "size" (defArgs sSize) (defBody sSize) (defScope sSize) .none kV_size dc_size pm_size an_size cd_size ct_size), sl_size⟩) (c_size : PySem.W.codeIn K cd_size "size" = true) (k_size : PySem.W.keepIn K (.ref f_size) = true)
    (a_nearPt : PySem.W.nsIn K mainGlobals "nearest_point" = some (some (.ref f_nearPt)))
    (l_nearPt : K.lookup f_nearPt = some ⟨oc_nearPt, od_nearPt, .func (PySem.W.fnOf "nearest_point" "nearest_point" (defArgs sNearPt) (defBody sNearPt) (defScope sNearPt) .none kV_nearPt dc_nearPt pm_nearPt an_nearPt cd_nearPt ct_nearPt), sl_nearPt⟩) (c_nearPt : PySem.W.codeIn K cd_nearPt "nearest_point" = true) (k_nearPt : PySem.W.keepIn K (.ref f_nearPt) = true)
    (a_dist : PySem.W.nsIn K mainGlobals "distance" = some (some (.ref f_dist)))
    (l_dist : K.lookup f_dist = some ⟨oc_dist, od_dist, .func (PySem.W.fnOf "distance" "distance" (defArgs sDist) (defBody sDist) (defScope sDist) .none kV_dist dc_dist pm_dist an_dist cd_dist ct_dist), sl_dist⟩) (c_dist : PySem.W.codeIn K cd_dist "distance" = true) (k_dist : PySem.W.keepIn K (.ref f_dist) = true)
    (a_undec : PySem.W.nsIn K mainGlobals "undecided" = some (some (.ref f_undec)))
    (l_undec : K.lookup f_undec = some ⟨oc_undec, od_undec, .func (PySem.W.fnOf "undecided" "undecided" (defArgs sUndec) (defBody sUndec) (defScope sUndec) .none kV_undec dc_undec pm_undec an_undec cd_undec ct_undec), sl_undec⟩) (c_undec : PySem.W.codeIn K cd_undec "undecided" = true) (k_undec : PySem.W.keepIn K (.ref f_undec) = true)
    (a_unlike : PySem.W.nsIn K mainGlobals "unlike" = some (some (.ref f_unlike)))
    (l_unlike : K.lookup f_unlike = some ⟨oc_unlike, od_unlike, .func (PySem.W.fnOf "unlike" "unlike" (defArgs sUnlike) (defBody sUnlike) (defScope sUnlike) .none kV_unlike dc_unlike pm_unlike an_unlike cd_unlike ct_unlike), sl_unlike⟩) (c_unlike : PySem.W.codeIn K cd_unlike "unlike" = true) (k_unlike : PySem.W.keepIn K (.ref f_unlike) = true)
    (a_how : PySem.W.nsIn K mainGlobals "how_many_and_first" = some (some (.ref f_how)))
    (l_how : K.lookup f_how = some ⟨oc_how, od_how, .func (PySem.W.fnOf "how_many_and_first" "how_many_and_first" (defArgs sHow) (defBody sHow) (defScope sHow) .none kV_how dc_how pm_how an_how cd_how ct_how), sl_how⟩) (c_how : PySem.W.codeIn K cd_how "how_many_and_first" = true) (k_how : PySem.W.keepIn K (.ref f_how) = true)
    (a_ovl : PySem.W.nsIn K mainGlobals "overlapping" = some (some (.ref f_ovl)))
    (l_ovl : K.lookup f_ovl = some ⟨oc_ovl, od_ovl, .func (PySem.W.fnOf "overlapping" "overlapping" (defArgs sOvl) (defBody sOvl) (defScope sOvl) .none kV_ovl dc_ovl pm_ovl an_ovl cd_ovl ct_ovl), sl_ovl⟩) (c_ovl : PySem.W.codeIn K cd_ovl "overlapping" = true) (k_ovl : PySem.W.keepIn K (.ref f_ovl) = true)
    (a_idleR : PySem.W.nsIn K mainGlobals "idle_rules" = some (some (.ref f_idleR)))
    (l_idleR : K.lookup f_idleR = some ⟨oc_idleR, od_idleR, .func (PySem.W.fnOf "idle_rules" "idle_rules" (defArgs sIdleR) (defBody sIdleR) (defScope sIdleR) .none kV_idleR dc_idleR pm_idleR an_idleR cd_idleR ct_idleR), sl_idleR⟩) (c_idleR : PySem.W.codeIn K cd_idleR "idle_rules" = true) (k_idleR : PySem.W.keepIn K (.ref f_idleR) = true)
    (a_without : PySem.W.nsIn K mainGlobals "without" = some (some (.ref f_without)))
    (l_without : K.lookup f_without = some ⟨oc_without, od_without, .func (PySem.W.fnOf "without" "without" (defArgs sWithout) (defBody sWithout) (defScope sWithout) .none kV_without dc_without pm_without an_without cd_without ct_without), sl_without⟩) (c_without : PySem.W.codeIn K cd_without "without" = true) (k_without : PySem.W.keepIn K (.ref f_without) = true)
    (a_counted : PySem.W.nsIn K mainGlobals "counted" = some (some (.ref f_counted)))
    (l_counted : K.lookup f_counted = some ⟨oc_counted, od_counted, .func (PySem.W.fnOf "counted" "counted" (defArgs sCounted) (defBody sCounted) (defScope sCounted) .none kV_counted dc_counted pm_counted an_counted cd_counted ct_counted), sl_counted⟩) (c_counted : PySem.W.codeIn K cd_counted "counted" = true) (k_counted : PySem.W.keepIn K (.ref f_counted) = true)
    (a_nearD : PySem.W.nsIn K mainGlobals "nearest_deciding" = some (some (.ref f_nearD)))
    (l_nearD : K.lookup f_nearD = some ⟨oc_nearD, od_nearD, .func (PySem.W.fnOf "nearest_deciding" "nearest_deciding" (defArgs sNearD) (defBody sNearD) (defScope sNearD) .none kV_nearD dc_nearD pm_nearD an_nearD cd_nearD ct_nearD), sl_nearD⟩) (c_nearD : PySem.W.codeIn K cd_nearD "nearest_deciding" = true) (k_nearD : PySem.W.keepIn K (.ref f_nearD) = true)
    (a_decided : PySem.W.nsIn K mainGlobals "decided" = some (some (.ref f_decided)))
    (l_decided : K.lookup f_decided = some ⟨oc_decided, od_decided, .func (PySem.W.fnOf "decided" "decided" (defArgs sDecided) (defBody sDecided) (defScope sDecided) .none kV_decided dc_decided pm_decided an_decided cd_decided ct_decided), sl_decided⟩) (c_decided : PySem.W.codeIn K cd_decided "decided" = true) (k_decided : PySem.W.keepIn K (.ref f_decided) = true)
    (a_tInit : PySem.W.findIn K (.ref CT) "__init__" = some (some (.ref f_tInit))) (i_tInit : PySem.W.isFn K (.ref f_tInit) = true)
    (l_tInit : K.lookup f_tInit = some ⟨oc_tInit, od_tInit, .func (PySem.W.fnOf "__init__" "Table.__init__" (defArgs sTInit) (defBody sTInit) (defScope sTInit) .none kV_tInit dc_tInit pm_tInit an_tInit cd_tInit ct_tInit), sl_tInit⟩) (c_tInit : PySem.W.codeIn K cd_tInit "Table.__init__" = true) (k_tInit : PySem.W.keepIn K (.ref f_tInit) = true)
    (a_holding : PySem.W.findIn K (.ref CT) "holding" = some (some (.ref f_holding))) (i_holding : PySem.W.isFn K (.ref f_holding) = true)
    (l_holding : K.lookup f_holding = some ⟨oc_holding, od_holding, .func (PySem.W.fnOf "holding" "Table.holding" (defArgs sHolding) (defBody sHolding) (defScope sHolding) .none kV_holding dc_holding pm_holding an_holding cd_holding ct_holding), sl_holding⟩) (c_holding : PySem.W.codeIn K cd_holding "Table.holding" = true) (k_holding : PySem.W.keepIn K (.ref f_holding) = true)
    (a_decision : PySem.W.findIn K (.ref CT) "decision" = some (some (.ref f_decision))) (i_decision : PySem.W.isFn K (.ref f_decision) = true)
    (l_decision : K.lookup f_decision = some ⟨oc_decision, od_decision, .func (PySem.W.fnOf "decision" "Table.decision" (defArgs sDecision) (defBody sDecision) (defScope sDecision) .none kV_decision dc_decision pm_decision an_decision cd_decision ct_decision), sl_decision⟩) (c_decision : PySem.W.codeIn K cd_decision "Table.decision" = true) (k_decision : PySem.W.keepIn K (.ref f_decision) = true)
    (a_decAt : PySem.W.findIn K (.ref CT) "decision_at" = some (some (.ref f_decAt))) (i_decAt : PySem.W.isFn K (.ref f_decAt) = true)
    (l_decAt : K.lookup f_decAt = some ⟨oc_decAt, od_decAt, .func (PySem.W.fnOf "decision_at" "Table.decision_at" (defArgs sDecAt) (defBody sDecAt) (defScope sDecAt) .none kV_decAt dc_decAt pm_decAt an_decAt cd_decAt ct_decAt), sl_decAt⟩) (c_decAt : PySem.W.codeIn K cd_decAt "Table.decision_at" = true) (k_decAt : PySem.W.keepIn K (.ref f_decAt) = true)
    (a_hInit : PySem.W.findIn K (.ref CH) "__init__" = some (some (.ref f_hInit))) (i_hInit : PySem.W.isFn K (.ref f_hInit) = true)
    (l_hInit : K.lookup f_hInit = some ⟨oc_hInit, od_hInit, .func (PySem.W.fnOf "__init__" "House.__init__" (defArgs sHInit) (defBody sHInit) (defScope sHInit) .none kV_hInit dc_hInit pm_hInit an_hInit cd_hInit ct_hInit), sl_hInit⟩) (c_hInit : PySem.W.codeIn K cd_hInit "House.__init__" = true) (k_hInit : PySem.W.keepIn K (.ref f_hInit) = true)
    (a_has : PySem.W.findIn K (.ref CH) "has_table" = some (some (.ref f_has))) (i_has : PySem.W.isFn K (.ref f_has) = true)
    (l_has : K.lookup f_has = some ⟨oc_has, od_has, .func (PySem.W.fnOf "has_table" "House.has_table" (defArgs sHas) (defBody sHas) (defScope sHas) .none kV_has dc_has pm_has an_has cd_has ct_has), sl_has⟩) (c_has : PySem.W.codeIn K cd_has "House.has_table" = true) (k_has : PySem.W.keepIn K (.ref f_has) = true)
    (a_begins : PySem.W.findIn K (.ref CH) "begins" = some (some (.ref f_begins))) (i_begins : PySem.W.isFn K (.ref f_begins) = true)
    (l_begins : K.lookup f_begins = some ⟨oc_begins, od_begins, .func (PySem.W.fnOf "begins" "House.begins" (defArgs sBegins) (defBody sBegins) (defScope sBegins) .none kV_begins dc_begins pm_begins an_begins cd_begins ct_begins), sl_begins⟩) (c_begins : PySem.W.codeIn K cd_begins "House.begins" = true) (k_begins : PySem.W.keepIn K (.ref f_begins) = true)
    (a_rule : PySem.W.findIn K (.ref CH) "rule" = some (some (.ref f_rule))) (i_rule : PySem.W.isFn K (.ref f_rule) = true)
    (l_rule : K.lookup f_rule = some ⟨oc_rule, od_rule, .func (PySem.W.fnOf "rule" "House.rule" (defArgs sRule) (defBody sRule) (defScope sRule) .none kV_rule dc_rule pm_rule an_rule cd_rule ct_rule), sl_rule⟩) (c_rule : PySem.W.codeIn K cd_rule "House.rule" = true) (k_rule : PySem.W.keepIn K (.ref f_rule) = true)
    (a_drop : PySem.W.findIn K (.ref CH) "drop" = some (some (.ref f_drop))) (i_drop : PySem.W.isFn K (.ref f_drop) = true)
    (l_drop : K.lookup f_drop = some ⟨oc_drop, od_drop, .func (PySem.W.fnOf "drop" "House.drop" (defArgs sDrop) (defBody sDrop) (defScope sDrop) .none kV_drop dc_drop pm_drop an_drop cd_drop ct_drop), sl_drop⟩) (c_drop : PySem.W.codeIn K cd_drop "House.drop" = true) (k_drop : PySem.W.keepIn K (.ref f_drop) = true)
    (a_decides : PySem.W.findIn K (.ref CH) "decides" = some (some (.ref f_decides))) (i_decides : PySem.W.isFn K (.ref f_decides) = true)
    (l_decides : K.lookup f_decides = some ⟨oc_decides, od_decides, .func (PySem.W.fnOf "decides" "House.decides" (defArgs sDecides) (defBody sDecides) (defScope sDecides) .none kV_decides dc_decides pm_decides an_decides cd_decides ct_decides), sl_decides⟩) (c_decides : PySem.W.codeIn K cd_decides "House.decides" = true) (k_decides : PySem.W.keepIn K (.ref f_decides) = true)
    (a_gaps : PySem.W.findIn K (.ref CH) "gaps" = some (some (.ref f_gaps))) (i_gaps : PySem.W.isFn K (.ref f_gaps) = true)
    (l_gaps : K.lookup f_gaps = some ⟨oc_gaps, od_gaps, .func (PySem.W.fnOf "gaps" "House.gaps" (defArgs sGaps) (defBody sGaps) (defScope sGaps) .none kV_gaps dc_gaps pm_gaps an_gaps cd_gaps ct_gaps), sl_gaps⟩) (c_gaps : PySem.W.codeIn K cd_gaps "House.gaps" = true) (k_gaps : PySem.W.keepIn K (.ref f_gaps) = true)
    (a_overlaps : PySem.W.findIn K (.ref CH) "overlaps" = some (some (.ref f_overlaps))) (i_overlaps : PySem.W.isFn K (.ref f_overlaps) = true)
    (l_overlaps : K.lookup f_overlaps = some ⟨oc_overlaps, od_overlaps, .func (PySem.W.fnOf "overlaps" "House.overlaps" (defArgs sOverlaps) (defBody sOverlaps) (defScope sOverlaps) .none kV_overlaps dc_overlaps pm_overlaps an_overlaps cd_overlaps ct_overlaps), sl_overlaps⟩) (c_overlaps : PySem.W.codeIn K cd_overlaps "House.overlaps" = true) (k_overlaps : PySem.W.keepIn K (.ref f_overlaps) = true)
    (a_idle : PySem.W.findIn K (.ref CH) "idle" = some (some (.ref f_idle))) (i_idle : PySem.W.isFn K (.ref f_idle) = true)
    (l_idle : K.lookup f_idle = some ⟨oc_idle, od_idle, .func (PySem.W.fnOf "idle" "House.idle" (defArgs sIdle) (defBody sIdle) (defScope sIdle) .none kV_idle dc_idle pm_idle an_idle cd_idle ct_idle), sl_idle⟩) (c_idle : PySem.W.codeIn K cd_idle "House.idle" = true) (k_idle : PySem.W.keepIn K (.ref f_idle) = true)
    (a_same : PySem.W.findIn K (.ref CH) "same" = some (some (.ref f_same))) (i_same : PySem.W.isFn K (.ref f_same) = true)
    (l_same : K.lookup f_same = some ⟨oc_same, od_same, .func (PySem.W.fnOf "same" "House.same" (defArgs sSame) (defBody sSame) (defScope sSame) .none kV_same dc_same pm_same an_same cd_same ct_same), sl_same⟩) (c_same : PySem.W.codeIn K cd_same "House.same" = true) (k_same : PySem.W.keepIn K (.ref f_same) = true)
    (a_counts : PySem.W.findIn K (.ref CH) "counts" = some (some (.ref f_counts))) (i_counts : PySem.W.isFn K (.ref f_counts) = true)
    (l_counts : K.lookup f_counts = some ⟨oc_counts, od_counts, .func (PySem.W.fnOf "counts" "House.counts" (defArgs sCounts) (defBody sCounts) (defScope sCounts) .none kV_counts dc_counts pm_counts an_counts cd_counts ct_counts), sl_counts⟩) (c_counts : PySem.W.codeIn K cd_counts "House.counts" = true) (k_counts : PySem.W.keepIn K (.ref f_counts) = true)
    (a_nearest : PySem.W.findIn K (.ref CH) "nearest" = some (some (.ref f_nearest))) (i_nearest : PySem.W.isFn K (.ref f_nearest) = true)
    (l_nearest : K.lookup f_nearest = some ⟨oc_nearest, od_nearest, .func (PySem.W.fnOf "nearest" "House.nearest" (defArgs sNearest) (defBody sNearest) (defScope sNearest) .none kV_nearest dc_nearest pm_nearest an_nearest cd_nearest ct_nearest), sl_nearest⟩) (c_nearest : PySem.W.codeIn K cd_nearest "House.nearest" = true) (k_nearest : PySem.W.keepIn K (.ref f_nearest) = true)
    (a_ans : PySem.W.nsIn K mainGlobals "answers" = some (some (.ref f_ans)))
    (l_ans : K.lookup f_ans = some ⟨oc_ans, od_ans, .func (PySem.W.fnOf "answers" "answers" (defArgs sAns) (defBody sAns) (defScope sAns) .none kV_ans dc_ans pm_ans an_ans cd_ans ct_ans), sl_ans⟩) (c_ans : PySem.W.codeIn K cd_ans "answers" = true) (k_ans : PySem.W.keepIn K (.ref f_ans) = true)
    (a_end : PySem.W.nsIn K mainGlobals "end_of_call" = some (some (.ref f_end)))
    (l_end : K.lookup f_end = some ⟨oc_end, od_end, .func (PySem.W.fnOf "end_of_call" "end_of_call" (defArgs sEnd) (defBody sEnd) (defScope sEnd) .none kV_end dc_end pm_end an_end cd_end ct_end), sl_end⟩) (c_end : PySem.W.codeIn K cd_end "end_of_call" = true) (k_end : PySem.W.keepIn K (.ref f_end) = true)
    (a_to : PySem.W.nsIn K mainGlobals "answer_to" = some (some (.ref f_to)))
    (l_to : K.lookup f_to = some ⟨oc_to, od_to, .func (PySem.W.fnOf "answer_to" "answer_to" (defArgs sTo) (defBody sTo) (defScope sTo) .none kV_to dc_to pm_to an_to cd_to ct_to), sl_to⟩) (c_to : PySem.W.codeIn K cd_to "answer_to" = true) (k_to : PySem.W.keepIn K (.ref f_to) = true)
    (a_ofTab : PySem.W.nsIn K mainGlobals "answer_of_table" = some (some (.ref f_ofTab)))
    (l_ofTab : K.lookup f_ofTab = some ⟨oc_ofTab, od_ofTab, .func (PySem.W.fnOf "answer_of_table" "answer_of_table" (defArgs sOfTab) (defBody sOfTab) (defScope sOfTab) .none kV_ofTab dc_ofTab pm_ofTab an_ofTab cd_ofTab ct_ofTab), sl_ofTab⟩) (c_ofTab : PySem.W.codeIn K cd_ofTab "answer_of_table" = true) (k_ofTab : PySem.W.keepIn K (.ref f_ofTab) = true)
    (nHIGHEST_VALUE : PySem.W.nsIn K mainGlobals "HIGHEST_VALUE" = some (some (.int (100) tHIGHEST_VALUE)))
    (nHIGHEST_NUMBER : PySem.W.nsIn K mainGlobals "HIGHEST_NUMBER" = some (some (.int (1000) tHIGHEST_NUMBER)))
    (nHIGHEST_WAY : PySem.W.nsIn K mainGlobals "HIGHEST_WAY" = some (some (.int (3) tHIGHEST_WAY)))
    (nFIRST_ONE : PySem.W.nsIn K mainGlobals "FIRST_ONE" = some (some (.int (0) tFIRST_ONE)))
    (nALL_AGREE : PySem.W.nsIn K mainGlobals "ALL_AGREE" = some (some (.int (1) tALL_AGREE)))
    (nGREATEST : PySem.W.nsIn K mainGlobals "GREATEST" = some (some (.int (2) tGREATEST)))
    (nNOTHING : PySem.W.nsIn K mainGlobals "NOTHING" = some (some (.int (-6) tNOTHING)))
    (nCLASH : PySem.W.nsIn K mainGlobals "CLASH" = some (some (.int (-9) tCLASH)))
    (nMOST_VALUES : PySem.W.nsIn K mainGlobals "MOST_VALUES" = some (some (.int (3) tMOST_VALUES)))
    (nMOST_RULES : PySem.W.nsIn K mainGlobals "MOST_RULES" = some (some (.int (6) tMOST_RULES)))
    (nWRONG : PySem.W.nsIn K mainGlobals "WRONG" = some (some (.int (-1) tWRONG)))
    (nABSENT : PySem.W.nsIn K mainGlobals "ABSENT" = some (some (.int (-2) tABSENT)))
    (nNOWHERE : PySem.W.nsIn K mainGlobals "NOWHERE" = some (some (.int (-6) tNOWHERE)))
    (nFULL : PySem.W.nsIn K mainGlobals "FULL" = some (some (.int (-7) tFULL)))
    (nBEGINS : PySem.W.nsIn K mainGlobals "BEGINS" = some (some (.int (0) tBEGINS)))
    (nRULE : PySem.W.nsIn K mainGlobals "RULE" = some (some (.int (1) tRULE)))
    (nDROP : PySem.W.nsIn K mainGlobals "DROP" = some (some (.int (2) tDROP)))
    (nDECIDES : PySem.W.nsIn K mainGlobals "DECIDES" = some (some (.int (3) tDECIDES)))
    (nGAPS : PySem.W.nsIn K mainGlobals "GAPS" = some (some (.int (4) tGAPS)))
    (nOVERLAPS : PySem.W.nsIn K mainGlobals "OVERLAPS" = some (some (.int (5) tOVERLAPS)))
    (nIDLE : PySem.W.nsIn K mainGlobals "IDLE" = some (some (.int (6) tIDLE)))
    (nSAME : PySem.W.nsIn K mainGlobals "SAME" = some (some (.int (7) tSAME)))
    (nNEAREST : PySem.W.nsIn K mainGlobals "NEAREST" = some (some (.int (9) tNEAREST)))
    (zall : PySem.W.nsIn K mainGlobals "all" = some none)
    (zzip : PySem.W.nsIn K mainGlobals "zip" = some none)
    (zlen : PySem.W.nsIn K mainGlobals "len" = some none)
    (zrange : PySem.W.nsIn K mainGlobals "range" = some none)
    (zsorted : PySem.W.nsIn K mainGlobals "sorted" = some none)
    (zset : PySem.W.nsIn K mainGlobals "set" = some none)
    (zenumerate : PySem.W.nsIn K mainGlobals "enumerate" = some none)
    (zmin : PySem.W.nsIn K mainGlobals "min" = some none)
    (zmax : PySem.W.nsIn K mainGlobals "max" = some none)
    (zsum : PySem.W.nsIn K mainGlobals "sum" = some none)
    (zabs : PySem.W.nsIn K mainGlobals "abs" = some none)
    (zlist : PySem.W.nsIn K mainGlobals "list" = some none)
    (aN : PySem.W.nsIn K mainGlobals "NUMBERS_OF_CALL" = some (some (.ref aNN))) (lN : K.lookup aNN = some ⟨.type "dict", none, .dict esN nN, #[]⟩) (tN : tabOf esN.toList = some numbers) :
    ∃ fd : FuncData, (∀ (s : Shared) (us : List Value), us.length = (["calls"] : List Str).length → BindsTo s fd ⟨us, []⟩ ((["calls"] : List Str).zip us)) ∧ ∀ base : Heap, K.In base → base.Ns mainGlobals mg → FnOk P w K mg base CX0 8 fa fd ["calls"] (spAns K S1) := by
  have e := hfa.symm.trans (PySem.W.mg_of X G a_ans)
  cases e
  have clCR : Cls K CR := ⟨pgCR, hdCR, poCR, saCR⟩
  have clCT : Cls K CT := ⟨pgCT, hdCT, poCT, saCT⟩
  have clCH : Cls K CH := ⟨pgCH, hdCH, poCH, saCH⟩
  have TRx : TR K mg CR := ⟨clCR, nCR_says, nCR_ranges, PySem.W.mg_of X G aCR, ⟨_, PySem.W.mg_of X G nHIGHEST_VALUE⟩, ⟨_, PySem.W.mg_of X G nHIGHEST_NUMBER⟩, PySem.W.mg_none_of X G zall, PySem.W.mg_none_of X G zzip, PySem.W.mg_none_of X G zlen, PySem.W.mg_none_of X G zrange⟩
  have TCx : TC K mg := ⟨PySem.W.mg_none_of X G zsorted, PySem.W.mg_none_of X G zset⟩
  have TDx : TD mg := ⟨⟨_, PySem.W.mg_of X G nFIRST_ONE⟩, ⟨_, PySem.W.mg_of X G nALL_AGREE⟩, ⟨_, PySem.W.mg_of X G nGREATEST⟩, ⟨_, PySem.W.mg_of X G nNOTHING⟩, ⟨_, PySem.W.mg_of X G nCLASH⟩, ⟨_, PySem.W.mg_of X G nHIGHEST_WAY⟩, PySem.W.mg_none_of X G zlen, PySem.W.mg_none_of X G zmin, PySem.W.mg_none_of X G zmax, PySem.W.mg_none_of X G zsum⟩
  have TTx : TT K mg CT := ⟨clCT, nCT_way, nCT_rules, PySem.W.mg_none_of X G zenumerate⟩
  have THx : TH K mg CH := ⟨clCH, nCH_width, nCH_tables, ⟨_, PySem.W.mg_of X G nMOST_VALUES⟩, ⟨_, PySem.W.mg_of X G nMOST_RULES⟩, ⟨_, PySem.W.mg_of X G nWRONG⟩, ⟨_, PySem.W.mg_of X G nABSENT⟩, ⟨_, PySem.W.mg_of X G nFULL⟩⟩
  have mMax : mg "max" = none := PySem.W.mg_none_of X G zmax
  have mMin : mg "min" = none := PySem.W.mg_none_of X G zmin
  have mSum : mg "sum" = none := PySem.W.mg_none_of X G zsum
  have mAbs : mg "abs" = none := PySem.W.mg_none_of X G zabs
  have mList : mg "list" = none := PySem.W.mg_none_of X G zlist
  have cNo : IntC mg "NOWHERE" (-6) := ⟨_, PySem.W.mg_of X G nNOWHERE⟩
  have TZx : TZ K mg := ⟨⟨_, PySem.W.mg_of X G nBEGINS⟩, ⟨_, PySem.W.mg_of X G nRULE⟩, ⟨_, PySem.W.mg_of X G nDROP⟩, ⟨_, PySem.W.mg_of X G nDECIDES⟩, ⟨_, PySem.W.mg_of X G nGAPS⟩, ⟨_, PySem.W.mg_of X G nOVERLAPS⟩, ⟨_, PySem.W.mg_of X G nIDLE⟩, ⟨_, PySem.W.mg_of X G nSAME⟩, ⟨_, PySem.W.mg_of X G nNEAREST⟩, _, PySem.W.mg_of X G aN, _, _, lN, tN⟩
  have F_rInit := fun_mk (st := sRInit) l_rInit c_rInit k_rInit
  have F_holds := fun_mk (st := sHolds) l_holds c_holds k_holds
  have F_meets := fun_mk (st := sMeets) l_meets c_meets k_meets
  have F_isPoint := fun_mk (st := sIsPoint) l_isPoint c_isPoint k_isPoint
  have F_isRange := fun_mk (st := sIsRange) l_isRange c_isRange k_isRange
  have F_isRule := fun_mk (st := sIsRule) l_isRule c_isRule k_isRule
  have F_rangesIn := fun_mk (st := sRangesIn) l_rangesIn c_rangesIn k_rangesIn
  have F_ruleFrom := fun_mk (st := sRuleFrom) l_ruleFrom c_ruleFrom k_ruleFrom
  have F_spans := fun_mk (st := sSpans) l_spans c_spans k_spans
  have F_cells := fun_mk (st := sCells) l_cells c_cells k_cells
  have F_len := fun_mk (st := sLengthened) l_len c_len k_len
  have F_first := fun_mk (st := sFirstPoint) l_first c_first k_first
  have F_size := fun_mk (st := sSize) l_size c_size k_size
  have F_nearPt := fun_mk (st := sNearPt) l_nearPt c_nearPt k_nearPt
  have F_dist := fun_mk (st := sDist) l_dist c_dist k_dist
  have F_undec := fun_mk (st := sUndec) l_undec c_undec k_undec
  have F_unlike := fun_mk (st := sUnlike) l_unlike c_unlike k_unlike
  have F_how := fun_mk (st := sHow) l_how c_how k_how
  have F_ovl := fun_mk (st := sOvl) l_ovl c_ovl k_ovl
  have F_idleR := fun_mk (st := sIdleR) l_idleR c_idleR k_idleR
  have F_without := fun_mk (st := sWithout) l_without c_without k_without
  have F_counted := fun_mk (st := sCounted) l_counted c_counted k_counted
  have F_nearD := fun_mk (st := sNearD) l_nearD c_nearD k_nearD
  have F_decided := fun_mk (st := sDecided) l_decided c_decided k_decided
  have F_tInit := fun_mk (st := sTInit) l_tInit c_tInit k_tInit
  have F_holding := fun_mk (st := sHolding) l_holding c_holding k_holding
  have F_decision := fun_mk (st := sDecision) l_decision c_decision k_decision
  have F_decAt := fun_mk (st := sDecAt) l_decAt c_decAt k_decAt
  have F_hInit := fun_mk (st := sHInit) l_hInit c_hInit k_hInit
  have F_has := fun_mk (st := sHas) l_has c_has k_has
  have F_begins := fun_mk (st := sBegins) l_begins c_begins k_begins
  have F_rule := fun_mk (st := sRule) l_rule c_rule k_rule
  have F_drop := fun_mk (st := sDrop) l_drop c_drop k_drop
  have F_decides := fun_mk (st := sDecides) l_decides c_decides k_decides
  have F_gaps := fun_mk (st := sGaps) l_gaps c_gaps k_gaps
  have F_overlaps := fun_mk (st := sOverlaps) l_overlaps c_overlaps k_overlaps
  have F_idle := fun_mk (st := sIdle) l_idle c_idle k_idle
  have F_same := fun_mk (st := sSame) l_same c_same k_same
  have F_counts := fun_mk (st := sCounts) l_counts c_counts k_counts
  have F_nearest := fun_mk (st := sNearest) l_nearest c_nearest k_nearest
  have F_ans := fun_mk (st := sAns) l_ans c_ans k_ans
  have F_end := fun_mk (st := sEnd) l_end c_end k_end
  have F_to := fun_mk (st := sTo) l_to c_to k_to
  have F_ofTab := fun_mk (st := sOfTab) l_ofTab c_ofTab k_ofTab
  have b_rInit := F_rInit.binds (ps := ["self", "says", "ranges"]) fun _ _ _ _ _ _ us hl => match us, hl with | [_, _, _], _ => rfl
  have b_holds := F_holds.binds (ps := ["self", "point"]) fun _ _ _ _ _ _ us hl => match us, hl with | [_, _], _ => rfl
  have b_meets := F_meets.binds (ps := ["self", "other"]) fun _ _ _ _ _ _ us hl => match us, hl with | [_, _], _ => rfl
  have b_isPoint := F_isPoint.binds (ps := ["row", "width"]) fun _ _ _ _ _ _ us hl => match us, hl with | [_, _], _ => rfl
  have b_isRange := F_isRange.binds (ps := ["span"]) fun _ _ _ _ _ _ us hl => match us, hl with | [_], _ => rfl
  have b_isRule := F_isRule.binds (ps := ["row", "width"]) fun _ _ _ _ _ _ us hl => match us, hl with | [_, _], _ => rfl
  have b_rangesIn := F_rangesIn.binds (ps := ["row"]) fun _ _ _ _ _ _ us hl => match us, hl with | [_], _ => rfl
  have b_ruleFrom := F_ruleFrom.binds (ps := ["row"]) fun _ _ _ _ _ _ us hl => match us, hl with | [_], _ => rfl
  have b_spans := F_spans.binds (ps := ["rules", "place"]) fun _ _ _ _ _ _ us hl => match us, hl with | [_, _], _ => rfl
  have b_cells := F_cells.binds (ps := ["rules", "width"]) fun _ _ _ _ _ _ us hl => match us, hl with | [_, _], _ => rfl
  have b_len := F_len.binds (ps := ["shorter", "ranges"]) fun _ _ _ _ _ _ us hl => match us, hl with | [_, _], _ => rfl
  have b_first := F_first.binds (ps := ["cell"]) fun _ _ _ _ _ _ us hl => match us, hl with | [_], _ => rfl
  have b_size := F_size.binds (ps := ["cell"]) fun _ _ _ _ _ _ us hl => match us, hl with | [_], _ => rfl
  have b_nearPt := F_nearPt.binds (ps := ["cell", "point"]) fun _ _ _ _ _ _ us hl => match us, hl with | [_, _], _ => rfl
  have b_dist := F_dist.binds (ps := ["one", "other"]) fun _ _ _ _ _ _ us hl => match us, hl with | [_, _], _ => rfl
  have b_undec := F_undec.binds (ps := ["table", "width"]) fun _ _ _ _ _ _ us hl => match us, hl with | [_, _], _ => rfl
  have b_unlike := F_unlike.binds (ps := ["one", "other", "width"]) fun _ _ _ _ _ _ us hl => match us, hl with | [_, _, _], _ => rfl
  have b_how := F_how.binds (ps := ["found"]) fun _ _ _ _ _ _ us hl => match us, hl with | [_], _ => rfl
  have b_ovl := F_ovl.binds (ps := ["rules"]) fun _ _ _ _ _ _ us hl => match us, hl with | [_], _ => rfl
  have b_idleR := F_idleR.binds (ps := ["table", "width"]) fun _ _ _ _ _ _ us hl => match us, hl with | [_, _], _ => rfl
  have b_without := F_without.binds (ps := ["left_out", "held"]) fun _ _ _ _ _ _ us hl => match us, hl with | [_, _], _ => rfl
  have b_counted := F_counted.binds (ps := ["table", "width"]) fun _ _ _ _ _ _ us hl => match us, hl with | [_, _], _ => rfl
  have b_nearD := F_nearD.binds (ps := ["table", "number", "point"]) fun _ _ _ _ _ _ us hl => match us, hl with | [_, _, _], _ => rfl
  have b_decided := F_decided.binds (ps := ["way", "said"]) fun _ _ _ _ _ _ us hl => match us, hl with | [_, _], _ => rfl
  have b_tInit := F_tInit.binds (ps := ["self", "way"]) fun _ _ _ _ _ _ us hl => match us, hl with | [_, _], _ => rfl
  have b_holding := F_holding.binds (ps := ["self", "point"]) fun _ _ _ _ _ _ us hl => match us, hl with | [_, _], _ => rfl
  have b_decision := F_decision.binds (ps := ["self", "held"]) fun _ _ _ _ _ _ us hl => match us, hl with | [_, _], _ => rfl
  have b_decAt := F_decAt.binds (ps := ["self", "point"]) fun _ _ _ _ _ _ us hl => match us, hl with | [_, _], _ => rfl
  have b_hInit := F_hInit.binds (ps := ["self"]) fun _ _ _ _ _ _ us hl => match us, hl with | [_], _ => rfl
  have b_has := F_has.binds (ps := ["self", "table"]) fun _ _ _ _ _ _ us hl => match us, hl with | [_, _], _ => rfl
  have b_begins := F_begins.binds (ps := ["self", "width", "first", "second"]) fun _ _ _ _ _ _ us hl => match us, hl with | [_, _, _, _], _ => rfl
  have b_rule := F_rule.binds (ps := ["self", "table", "row"]) fun _ _ _ _ _ _ us hl => match us, hl with | [_, _, _], _ => rfl
  have b_drop := F_drop.binds (ps := ["self", "table", "which"]) fun _ _ _ _ _ _ us hl => match us, hl with | [_, _, _], _ => rfl
  have b_decides := F_decides.binds (ps := ["self", "table", "point"]) fun _ _ _ _ _ _ us hl => match us, hl with | [_, _, _], _ => rfl
  have b_gaps := F_gaps.binds (ps := ["self", "table"]) fun _ _ _ _ _ _ us hl => match us, hl with | [_, _], _ => rfl
  have b_overlaps := F_overlaps.binds (ps := ["self", "table"]) fun _ _ _ _ _ _ us hl => match us, hl with | [_, _], _ => rfl
  have b_idle := F_idle.binds (ps := ["self", "table"]) fun _ _ _ _ _ _ us hl => match us, hl with | [_, _], _ => rfl
  have b_same := F_same.binds (ps := ["self"]) fun _ _ _ _ _ _ us hl => match us, hl with | [_], _ => rfl
  have b_counts := F_counts.binds (ps := ["self", "table"]) fun _ _ _ _ _ _ us hl => match us, hl with | [_, _], _ => rfl
  have b_nearest := F_nearest.binds (ps := ["self", "table", "number", "point"]) fun _ _ _ _ _ _ us hl => match us, hl with | [_, _, _, _], _ => rfl
  have b_end := F_end.binds (ps := ["calls", "start"]) fun _ _ _ _ _ _ us hl => match us, hl with | [_, _], _ => rfl
  have b_to := F_to.binds (ps := ["house", "call"]) fun _ _ _ _ _ _ us hl => match us, hl with | [_, _], _ => rfl
  have b_ofTab := F_ofTab.binds (ps := ["house", "kind", "table"]) fun _ _ _ _ _ _ us hl => match us, hl with | [_, _, _], _ => rfl
  refine ⟨PySem.W.fnOf "answers" "answers" (defArgs sAns) (defBody sAns) (defScope sAns) .none kV_ans dc_ans pm_ans an_ans cd_ans ct_ans, fun s us hu => match us, hu with | [_], _ => .of_eq rfl, fun base _ _ => ?_⟩
  have cHolds : Me P w K mg base 1 CR "holds" ["self", "point"] (spHolds K CR) := ⟨clCR, _, _, ⟨a_holds, i_holds, k_holds⟩, ok_holds F_holds TRx, b_holds⟩
  have cMR : Ma P w K mg base 1 "Rule" CR ["self", "says", "ranges"] (spRInit CR) := ⟨PySem.W.mg_of X G aCR, _, _, ⟨mkCR, a_rInit, i_rInit, kcCR⟩, ok_rInit F_rInit TRx, b_rInit⟩
  have cIsPoint : Fn P w K mg base 1 "is_point" ["row", "width"] (spIsPoint K) := ⟨_, _, PySem.W.mg_of X G a_isPoint, ok_isPoint F_isPoint TRx, b_isPoint, k_isPoint⟩
  have cIsRange : Fn P w K mg base 1 "is_range" ["span"] (spIsRange) := ⟨_, _, PySem.W.mg_of X G a_isRange, ok_isRange F_isRange TRx, b_isRange, k_isRange⟩
  have cRangesIn : Fn P w K mg base 1 "ranges_in" ["row"] (spRangesIn K) := ⟨_, _, PySem.W.mg_of X G a_rangesIn, ok_rangesIn F_rangesIn TRx, b_rangesIn, k_rangesIn⟩
  have cIsRule : Fn P w K mg base 2 "is_rule" ["row", "width"] (spIsRule K) := ⟨_, _, PySem.W.mg_of X G a_isRule, ok_isRule F_isRule TRx cRangesIn cIsRange, b_isRule, k_isRule⟩
  have cRuleFrom : Fn P w K mg base 3 "rule_from" ["row"] (spRuleFrom K CR) := ⟨_, _, PySem.W.mg_of X G a_ruleFrom, ok_ruleFrom F_ruleFrom cRangesIn cMR, b_ruleFrom, k_ruleFrom⟩
  have cSpans : Fn P w K mg base 1 "spans" ["rules", "place"] (spSpans K CR) := ⟨_, _, PySem.W.mg_of X G a_spans, ok_spans F_spans TRx TCx, b_spans, k_spans⟩
  have cLen : Fn P w K mg base 1 "lengthened" ["shorter", "ranges"] (spLen) := ⟨_, _, PySem.W.mg_of X G a_len, ok_len F_len , b_len, k_len⟩
  have cCells : Fn P w K mg base 2 "cells" ["rules", "width"] (spCells K CR) := ⟨_, _, PySem.W.mg_of X G a_cells, ok_cells F_cells TRx cSpans cLen, b_cells, k_cells⟩
  have cFirst : Fn P w K mg base 1 "first_point" ["cell"] (spFirst) := ⟨_, _, PySem.W.mg_of X G a_first, ok_first F_first , b_first, k_first⟩
  have cSize : Fn P w K mg base 1 "size" ["cell"] (spSize) := ⟨_, _, PySem.W.mg_of X G a_size, ok_size F_size , b_size, k_size⟩
  have cDecided : Fn P w K mg base 1 "decided" ["way", "said"] (spDecided K) := ⟨_, _, PySem.W.mg_of X G a_decided, ok_decided F_decided TDx, b_decided, k_decided⟩
  have cMT : Ma P w K mg base 1 "Table" CT ["self", "way"] (spTInit CT) := ⟨PySem.W.mg_of X G aCT, _, _, ⟨mkCT, a_tInit, i_tInit, kcCT⟩, ok_tInit F_tInit TTx, b_tInit⟩
  have cHolding : Me P w K mg base 2 CT "holding" ["self", "point"] (spHolding K CR CT) := ⟨clCT, _, _, ⟨a_holding, i_holding, k_holding⟩, ok_holding F_holding TTx cHolds, b_holding⟩
  have cDecision : Me P w K mg base 2 CT "decision" ["self", "held"] (spDecision K CR CT) := ⟨clCT, _, _, ⟨a_decision, i_decision, k_decision⟩, ok_decision F_decision TTx TRx cDecided, b_decision⟩
  have cDecAt : Me P w K mg base 3 CT "decision_at" ["self", "point"] (spDecAt K CR CT) := ⟨clCT, _, _, ⟨a_decAt, i_decAt, k_decAt⟩, ok_decAt F_decAt TTx cHolding cDecision, b_decAt⟩
  have cMeets : Me P w K mg base 1 CR "meets" ["self", "other"] (spMeets CR) := ⟨clCR, _, _, ⟨a_meets, i_meets, k_meets⟩, ok_meets F_meets TRx mMax mMin, b_meets⟩
  have cNearPt : Fn P w K mg base 1 "nearest_point" ["cell", "point"] (spNearPt K) := ⟨_, _, PySem.W.mg_of X G a_nearPt, ok_nearPt F_nearPt TRx mMax mMin, b_nearPt, k_nearPt⟩
  have cDist : Fn P w K mg base 1 "distance" ["one", "other"] (spDist K) := ⟨_, _, PySem.W.mg_of X G a_dist, ok_dist F_dist TRx mSum mAbs, b_dist, k_dist⟩
  have cUndec : Fn P w K mg base 4 "undecided" ["table", "width"] (spUndec CR CT) := ⟨_, _, PySem.W.mg_of X G a_undec, ok_undec F_undec TTx TDx cCells cFirst cDecAt, b_undec, k_undec⟩
  have cUnlike : Fn P w K mg base 4 "unlike" ["one", "other", "width"] (spUnlike CR CT) := ⟨_, _, PySem.W.mg_of X G a_unlike, ok_unlike F_unlike TTx cCells cFirst cDecAt, b_unlike, k_unlike⟩
  have cHow : Fn P w K mg base 2 "how_many_and_first" ["found"] (spHow) := ⟨_, _, PySem.W.mg_of X G a_how, ok_how F_how TRx TDx cFirst cSize, b_how, k_how⟩
  have cOvl : Fn P w K mg base 2 "overlapping" ["rules"] (spOvl K CR) := ⟨_, _, PySem.W.mg_of X G a_ovl, ok_ovl F_ovl TRx cMeets, b_ovl, k_ovl⟩
  have cWithout : Fn P w K mg base 1 "without" ["left_out", "held"] (spWithout K) := ⟨_, _, PySem.W.mg_of X G a_without, ok_without F_without , b_without, k_without⟩
  have cIdleR : Fn P w K mg base 3 "idle_rules" ["table", "width"] (spIdleR CR CT) := ⟨_, _, PySem.W.mg_of X G a_idleR, ok_idleR F_idleR TTx TRx mList cCells cFirst cHolding cDecision cWithout, b_idleR, k_idleR⟩
  have cCounted : Fn P w K mg base 4 "counted" ["table", "width"] (spCounted CR CT) := ⟨_, _, PySem.W.mg_of X G a_counted, ok_counted F_counted TTx TDx cCells cFirst cSize cDecAt, b_counted, k_counted⟩
  have cNearD : Fn P w K mg base 4 "nearest_deciding" ["table", "number", "point"] (spNearD K CR CT) := ⟨_, _, PySem.W.mg_of X G a_nearD, ok_nearD F_nearD TTx TRx TDx cCells cFirst cDecAt cNearPt cDist, b_nearD, k_nearD⟩
  have cMH : Ma P w K mg base 3 "House" CH ["self"] (spHInit CR CT CH) := ⟨PySem.W.mg_of X G aCH, _, _, ⟨mkCH, a_hInit, i_hInit, kcCH⟩, ok_hInit F_hInit THx cMT, b_hInit⟩
  have cHas : Me P w K mg base 1 CH "has_table" ["self", "table"] (spHas CR CT CH) := ⟨clCH, _, _, ⟨a_has, i_has, k_has⟩, ok_has F_has THx TRx, b_has⟩
  have cBegins : Me P w K mg base 3 CH "begins" ["self", "width", "first", "second"] (spBegins CR CT CH) := ⟨clCH, _, _, ⟨a_begins, i_begins, k_begins⟩, ok_begins F_begins THx TDx cMT, b_begins⟩
  have cRule : Me P w K mg base 4 CH "rule" ["self", "table", "row"] (spRule K CR CT CH) := ⟨clCH, _, _, ⟨a_rule, i_rule, k_rule⟩, ok_rule F_rule THx TTx TRx cHas cIsRule cRuleFrom, b_rule⟩
  have cDrop : Me P w K mg base 2 CH "drop" ["self", "table", "which"] (spDrop CR CT CH) := ⟨clCH, _, _, ⟨a_drop, i_drop, k_drop⟩, ok_drop F_drop THx TTx TRx cHas, b_drop⟩
  have cDecides : Me P w K mg base 3 CH "decides" ["self", "table", "point"] (spDecides K CR CT CH) := ⟨clCH, _, _, ⟨a_decides, i_decides, k_decides⟩, ok_decides F_decides THx TTx cHas cIsPoint cHolding cDecision, b_decides⟩
  have cGaps : Me P w K mg base 5 CH "gaps" ["self", "table"] (spTab CR CT CH .gaps) := ⟨clCH, _, _, ⟨a_gaps, i_gaps, k_gaps⟩, ok_gaps F_gaps THx cHas cUndec cHow, b_gaps⟩
  have cOverlaps : Me P w K mg base 3 CH "overlaps" ["self", "table"] (spTab CR CT CH .overlaps) := ⟨clCH, _, _, ⟨a_overlaps, i_overlaps, k_overlaps⟩, ok_overlaps F_overlaps THx TTx TRx cHas cOvl, b_overlaps⟩
  have cIdle : Me P w K mg base 4 CH "idle" ["self", "table"] (spTab CR CT CH .idle) := ⟨clCH, _, _, ⟨a_idle, i_idle, k_idle⟩, ok_idle F_idle THx TRx cHas cIdleR, b_idle⟩
  have cSame : Me P w K mg base 5 CH "same" ["self"] (spSame CR CT CH) := ⟨clCH, _, _, ⟨a_same, i_same, k_same⟩, ok_same F_same THx cUnlike cHow, b_same⟩
  have cCounts : Me P w K mg base 5 CH "counts" ["self", "table"] (spTab CR CT CH .counts) := ⟨clCH, _, _, ⟨a_counts, i_counts, k_counts⟩, ok_counts F_counts THx cHas cCounted, b_counts⟩
  have cNearest : Me P w K mg base 5 CH "nearest" ["self", "table", "number", "point"] (spNearest K CR CT CH) := ⟨clCH, _, _, ⟨a_nearest, i_nearest, k_nearest⟩, ok_nearest F_nearest THx TRx cNo cHas cIsPoint cNearD, b_nearest⟩
  have cEnd : Fn P w K mg base 1 "end_of_call" ["calls", "start"] (spEnd K S1) := ⟨_, _, PySem.W.mg_of X G a_end, ok_end F_end TZx, b_end, k_end⟩
  have cOfTab : Fn P w K mg base 6 "answer_of_table" ["house", "kind", "table"] (spOfTab CR CT CH) := ⟨_, _, PySem.W.mg_of X G a_ofTab, ok_ofTab F_ofTab TZx cGaps cOverlaps cIdle cCounts, b_ofTab, k_ofTab⟩
  have cTo : Fn P w K mg base 7 "answer_to" ["house", "call"] (spTo K CR CT CH S1) := ⟨_, _, PySem.W.mg_of X G a_to, ok_to F_to TZx cBegins cRule cDrop cDecides cSame cNearest cOfTab, b_to, k_to⟩
  exact ok_ans F_ans TRx cMH cEnd cTo
end DC

set_option Elab.async false
set_option linter.all false
open PySem PySem.W PyProof.Rows
set_option maxRecDepth 100000 in
set_option maxHeartbeats 8000000 in
theorem PySem.Challenge.cw_decisions_s01_answers_holds : PySem.Challenge.rw_decisions_s01_answers.Holds := by
  w_on; k_headS; (case hw => exact ⟨[.list [.int 4, .int 0]], by decide +kernel, by decide +kernel⟩)
  k_fillS
  refine L2.walk_specK (r := PySem.Challenge.rw_decisions_s01_answers) (k := 8) (CX := L2.CX0) (ps := ["calls"]) (sp := fun K => DC.spAns K DC.S1) (by decide +kernel) rfl rfl ⟨rfl, by decide, by decide⟩ (fun w h Y => PySem.W.kIn_of Y) ?F ?S (fun _ _ _ _ z => z)
  case F =>
    intro w mg fa h Y KX G hmg
    refine' DC.all_mk KX G hmg ?aCR ?pgCR ?hdCR ?poCR ?saCR ?mkCR ?kcCR ?nCR_says ?nCR_ranges ?aCT ?pgCT ?hdCT ?poCT ?saCT ?mkCT ?kcCT ?nCT_way ?nCT_rules ?aCH ?pgCH ?hdCH ?poCH ?saCH ?mkCH ?kcCH ?nCH_width ?nCH_tables ?a_rInit ?i_rInit ?l_rInit ?c_rInit ?k_rInit ?a_holds ?i_holds ?l_holds ?c_holds ?k_holds ?a_meets ?i_meets ?l_meets ?c_meets ?k_meets ?a_isPoint ?l_isPoint ?c_isPoint ?k_isPoint ?a_isRange ?l_isRange ?c_isRange ?k_isRange ?a_isRule ?l_isRule ?c_isRule ?k_isRule ?a_rangesIn ?l_rangesIn ?c_rangesIn ?k_rangesIn ?a_ruleFrom ?l_ruleFrom ?c_ruleFrom ?k_ruleFrom ?a_spans ?l_spans ?c_spans ?k_spans ?a_cells ?l_cells ?c_cells ?k_cells ?a_len ?l_len ?c_len ?k_len ?a_first ?l_first ?c_first ?k_first ?a_size ?l_size ?c_size ?k_size ?a_nearPt ?l_nearPt ?c_nearPt ?k_nearPt ?a_dist ?l_dist ?c_dist ?k_dist ?a_undec ?l_undec ?c_undec ?k_undec ?a_unlike ?l_unlike ?c_unlike ?k_unlike ?a_how ?l_how ?c_how ?k_how ?a_ovl ?l_ovl ?c_ovl ?k_ovl ?a_idleR ?l_idleR ?c_idleR ?k_idleR ?a_without ?l_without ?c_without ?k_without ?a_counted ?l_counted ?c_counted ?k_counted ?a_nearD ?l_nearD ?c_nearD ?k_nearD ?a_decided ?l_decided ?c_decided ?k_decided ?a_tInit ?i_tInit ?l_tInit ?c_tInit ?k_tInit ?a_holding ?i_holding ?l_holding ?c_holding ?k_holding ?a_decision ?i_decision ?l_decision ?c_decision ?k_decision ?a_decAt ?i_decAt ?l_decAt ?c_decAt ?k_decAt ?a_hInit ?i_hInit ?l_hInit ?c_hInit ?k_hInit ?a_has ?i_has ?l_has ?c_has ?k_has ?a_begins ?i_begins ?l_begins ?c_begins ?k_begins ?a_rule ?i_rule ?l_rule ?c_rule ?k_rule ?a_drop ?i_drop ?l_drop ?c_drop ?k_drop ?a_decides ?i_decides ?l_decides ?c_decides ?k_decides ?a_gaps ?i_gaps ?l_gaps ?c_gaps ?k_gaps ?a_overlaps ?i_overlaps ?l_overlaps ?c_overlaps ?k_overlaps ?a_idle ?i_idle ?l_idle ?c_idle ?k_idle ?a_same ?i_same ?l_same ?c_same ?k_same ?a_counts ?i_counts ?l_counts ?c_counts ?k_counts ?a_nearest ?i_nearest ?l_nearest ?c_nearest ?k_nearest ?a_ans ?l_ans ?c_ans ?k_ans ?a_end ?l_end ?c_end ?k_end ?a_to ?l_to ?c_to ?k_to ?a_ofTab ?l_ofTab ?c_ofTab ?k_ofTab ?nHIGHEST_VALUE ?nHIGHEST_NUMBER ?nHIGHEST_WAY ?nFIRST_ONE ?nALL_AGREE ?nGREATEST ?nNOTHING ?nCLASH ?nMOST_VALUES ?nMOST_RULES ?nWRONG ?nABSENT ?nNOWHERE ?nFULL ?nBEGINS ?nRULE ?nDROP ?nDECIDES ?nGAPS ?nOVERLAPS ?nIDLE ?nSAME ?nNEAREST ?zall ?zzip ?zlen ?zrange ?zsorted ?zset ?zenumerate ?zmin ?zmax ?zsum ?zabs ?zlist ?aN ?lN ?tN
    (case aCR => first | k_is | decide +kernel)
    (case pgCR => first | k_is | decide +kernel)
    (case hdCR => first | k_is | decide +kernel)
    (case poCR => first | k_is | decide +kernel)
    (case saCR => first | k_is | decide +kernel)
    (case mkCR => first | k_is | decide +kernel)
    (case kcCR => first | k_is | decide +kernel)
    (case nCR_says => first | k_is | decide +kernel)
    (case nCR_ranges => first | k_is | decide +kernel)
    (case aCT => first | k_is | decide +kernel)
    (case pgCT => first | k_is | decide +kernel)
    (case hdCT => first | k_is | decide +kernel)
    (case poCT => first | k_is | decide +kernel)
    (case saCT => first | k_is | decide +kernel)
    (case mkCT => first | k_is | decide +kernel)
    (case kcCT => first | k_is | decide +kernel)
    (case nCT_way => first | k_is | decide +kernel)
    (case nCT_rules => first | k_is | decide +kernel)
    (case aCH => first | k_is | decide +kernel)
    (case pgCH => first | k_is | decide +kernel)
    (case hdCH => first | k_is | decide +kernel)
    (case poCH => first | k_is | decide +kernel)
    (case saCH => first | k_is | decide +kernel)
    (case mkCH => first | k_is | decide +kernel)
    (case kcCH => first | k_is | decide +kernel)
    (case nCH_width => first | k_is | decide +kernel)
    (case nCH_tables => first | k_is | decide +kernel)
    (case a_rInit => first | k_is | decide +kernel)
    (case i_rInit => first | k_is | decide +kernel)
    (case l_rInit => first | k_is | decide +kernel)
    (case c_rInit => first | k_is | decide +kernel)
    (case k_rInit => first | k_is | decide +kernel)
    (case a_holds => first | k_is | decide +kernel)
    (case i_holds => first | k_is | decide +kernel)
    (case l_holds => first | k_is | decide +kernel)
    (case c_holds => first | k_is | decide +kernel)
    (case k_holds => first | k_is | decide +kernel)
    (case a_meets => first | k_is | decide +kernel)
    (case i_meets => first | k_is | decide +kernel)
    (case l_meets => first | k_is | decide +kernel)
    (case c_meets => first | k_is | decide +kernel)
    (case k_meets => first | k_is | decide +kernel)
    (case a_isPoint => first | k_is | decide +kernel)
    (case l_isPoint => first | k_is | decide +kernel)
    (case c_isPoint => first | k_is | decide +kernel)
    (case k_isPoint => first | k_is | decide +kernel)
    (case a_isRange => first | k_is | decide +kernel)
    (case l_isRange => first | k_is | decide +kernel)
    (case c_isRange => first | k_is | decide +kernel)
    (case k_isRange => first | k_is | decide +kernel)
    (case a_isRule => first | k_is | decide +kernel)
    (case l_isRule => first | k_is | decide +kernel)
    (case c_isRule => first | k_is | decide +kernel)
    (case k_isRule => first | k_is | decide +kernel)
    (case a_rangesIn => first | k_is | decide +kernel)
    (case l_rangesIn => first | k_is | decide +kernel)
    (case c_rangesIn => first | k_is | decide +kernel)
    (case k_rangesIn => first | k_is | decide +kernel)
    (case a_ruleFrom => first | k_is | decide +kernel)
    (case l_ruleFrom => first | k_is | decide +kernel)
    (case c_ruleFrom => first | k_is | decide +kernel)
    (case k_ruleFrom => first | k_is | decide +kernel)
    (case a_spans => first | k_is | decide +kernel)
    (case l_spans => first | k_is | decide +kernel)
    (case c_spans => first | k_is | decide +kernel)
    (case k_spans => first | k_is | decide +kernel)
    (case a_cells => first | k_is | decide +kernel)
    (case l_cells => first | k_is | decide +kernel)
    (case c_cells => first | k_is | decide +kernel)
    (case k_cells => first | k_is | decide +kernel)
    (case a_len => first | k_is | decide +kernel)
    (case l_len => first | k_is | decide +kernel)
    (case c_len => first | k_is | decide +kernel)
    (case k_len => first | k_is | decide +kernel)
    (case a_first => first | k_is | decide +kernel)
    (case l_first => first | k_is | decide +kernel)
    (case c_first => first | k_is | decide +kernel)
    (case k_first => first | k_is | decide +kernel)
    (case a_size => first | k_is | decide +kernel)
    (case l_size => first | k_is | decide +kernel)
    (case c_size => first | k_is | decide +kernel)
    (case k_size => first | k_is | decide +kernel)
    (case a_nearPt => first | k_is | decide +kernel)
    (case l_nearPt => first | k_is | decide +kernel)
    (case c_nearPt => first | k_is | decide +kernel)
    (case k_nearPt => first | k_is | decide +kernel)
    (case a_dist => first | k_is | decide +kernel)
    (case l_dist => first | k_is | decide +kernel)
    (case c_dist => first | k_is | decide +kernel)
    (case k_dist => first | k_is | decide +kernel)
    (case a_undec => first | k_is | decide +kernel)
    (case l_undec => first | k_is | decide +kernel)
    (case c_undec => first | k_is | decide +kernel)
    (case k_undec => first | k_is | decide +kernel)
    (case a_unlike => first | k_is | decide +kernel)
    (case l_unlike => first | k_is | decide +kernel)
    (case c_unlike => first | k_is | decide +kernel)
    (case k_unlike => first | k_is | decide +kernel)
    (case a_how => first | k_is | decide +kernel)
    (case l_how => first | k_is | decide +kernel)
    (case c_how => first | k_is | decide +kernel)
    (case k_how => first | k_is | decide +kernel)
    (case a_ovl => first | k_is | decide +kernel)
    (case l_ovl => first | k_is | decide +kernel)
    (case c_ovl => first | k_is | decide +kernel)
    (case k_ovl => first | k_is | decide +kernel)
    (case a_idleR => first | k_is | decide +kernel)
    (case l_idleR => first | k_is | decide +kernel)
    (case c_idleR => first | k_is | decide +kernel)
    (case k_idleR => first | k_is | decide +kernel)
    (case a_without => first | k_is | decide +kernel)
    (case l_without => first | k_is | decide +kernel)
    (case c_without => first | k_is | decide +kernel)
    (case k_without => first | k_is | decide +kernel)
    (case a_counted => first | k_is | decide +kernel)
    (case l_counted => first | k_is | decide +kernel)
    (case c_counted => first | k_is | decide +kernel)
    (case k_counted => first | k_is | decide +kernel)
    (case a_nearD => first | k_is | decide +kernel)
    (case l_nearD => first | k_is | decide +kernel)
    (case c_nearD => first | k_is | decide +kernel)
    (case k_nearD => first | k_is | decide +kernel)
    (case a_decided => first | k_is | decide +kernel)
    (case l_decided => first | k_is | decide +kernel)
    (case c_decided => first | k_is | decide +kernel)
    (case k_decided => first | k_is | decide +kernel)
    (case a_tInit => first | k_is | decide +kernel)
    (case i_tInit => first | k_is | decide +kernel)
    (case l_tInit => first | k_is | decide +kernel)
    (case c_tInit => first | k_is | decide +kernel)
    (case k_tInit => first | k_is | decide +kernel)
    (case a_holding => first | k_is | decide +kernel)
    (case i_holding => first | k_is | decide +kernel)
    (case l_holding => first | k_is | decide +kernel)
    (case c_holding => first | k_is | decide +kernel)
    (case k_holding => first | k_is | decide +kernel)
    (case a_decision => first | k_is | decide +kernel)
    (case i_decision => first | k_is | decide +kernel)
    (case l_decision => first | k_is | decide +kernel)
    (case c_decision => first | k_is | decide +kernel)
    (case k_decision => first | k_is | decide +kernel)
    (case a_decAt => first | k_is | decide +kernel)
    (case i_decAt => first | k_is | decide +kernel)
    (case l_decAt => first | k_is | decide +kernel)
    (case c_decAt => first | k_is | decide +kernel)
    (case k_decAt => first | k_is | decide +kernel)
    (case a_hInit => first | k_is | decide +kernel)
    (case i_hInit => first | k_is | decide +kernel)
    (case l_hInit => first | k_is | decide +kernel)
    (case c_hInit => first | k_is | decide +kernel)
    (case k_hInit => first | k_is | decide +kernel)
    (case a_has => first | k_is | decide +kernel)
    (case i_has => first | k_is | decide +kernel)
    (case l_has => first | k_is | decide +kernel)
    (case c_has => first | k_is | decide +kernel)
    (case k_has => first | k_is | decide +kernel)
    (case a_begins => first | k_is | decide +kernel)
    (case i_begins => first | k_is | decide +kernel)
    (case l_begins => first | k_is | decide +kernel)
    (case c_begins => first | k_is | decide +kernel)
    (case k_begins => first | k_is | decide +kernel)
    (case a_rule => first | k_is | decide +kernel)
    (case i_rule => first | k_is | decide +kernel)
    (case l_rule => first | k_is | decide +kernel)
    (case c_rule => first | k_is | decide +kernel)
    (case k_rule => first | k_is | decide +kernel)
    (case a_drop => first | k_is | decide +kernel)
    (case i_drop => first | k_is | decide +kernel)
    (case l_drop => first | k_is | decide +kernel)
    (case c_drop => first | k_is | decide +kernel)
    (case k_drop => first | k_is | decide +kernel)
    (case a_decides => first | k_is | decide +kernel)
    (case i_decides => first | k_is | decide +kernel)
    (case l_decides => first | k_is | decide +kernel)
    (case c_decides => first | k_is | decide +kernel)
    (case k_decides => first | k_is | decide +kernel)
    (case a_gaps => first | k_is | decide +kernel)
    (case i_gaps => first | k_is | decide +kernel)
    (case l_gaps => first | k_is | decide +kernel)
    (case c_gaps => first | k_is | decide +kernel)
    (case k_gaps => first | k_is | decide +kernel)
    (case a_overlaps => first | k_is | decide +kernel)
    (case i_overlaps => first | k_is | decide +kernel)
    (case l_overlaps => first | k_is | decide +kernel)
    (case c_overlaps => first | k_is | decide +kernel)
    (case k_overlaps => first | k_is | decide +kernel)
    (case a_idle => first | k_is | decide +kernel)
    (case i_idle => first | k_is | decide +kernel)
    (case l_idle => first | k_is | decide +kernel)
    (case c_idle => first | k_is | decide +kernel)
    (case k_idle => first | k_is | decide +kernel)
    (case a_same => first | k_is | decide +kernel)
    (case i_same => first | k_is | decide +kernel)
    (case l_same => first | k_is | decide +kernel)
    (case c_same => first | k_is | decide +kernel)
    (case k_same => first | k_is | decide +kernel)
    (case a_counts => first | k_is | decide +kernel)
    (case i_counts => first | k_is | decide +kernel)
    (case l_counts => first | k_is | decide +kernel)
    (case c_counts => first | k_is | decide +kernel)
    (case k_counts => first | k_is | decide +kernel)
    (case a_nearest => first | k_is | decide +kernel)
    (case i_nearest => first | k_is | decide +kernel)
    (case l_nearest => first | k_is | decide +kernel)
    (case c_nearest => first | k_is | decide +kernel)
    (case k_nearest => first | k_is | decide +kernel)
    (case a_ans => first | k_is | decide +kernel)
    (case l_ans => first | k_is | decide +kernel)
    (case c_ans => first | k_is | decide +kernel)
    (case k_ans => first | k_is | decide +kernel)
    (case a_end => first | k_is | decide +kernel)
    (case l_end => first | k_is | decide +kernel)
    (case c_end => first | k_is | decide +kernel)
    (case k_end => first | k_is | decide +kernel)
    (case a_to => first | k_is | decide +kernel)
    (case l_to => first | k_is | decide +kernel)
    (case c_to => first | k_is | decide +kernel)
    (case k_to => first | k_is | decide +kernel)
    (case a_ofTab => first | k_is | decide +kernel)
    (case l_ofTab => first | k_is | decide +kernel)
    (case c_ofTab => first | k_is | decide +kernel)
    (case k_ofTab => first | k_is | decide +kernel)
    (case nHIGHEST_VALUE => first | k_is | decide +kernel)
    (case nHIGHEST_NUMBER => first | k_is | decide +kernel)
    (case nHIGHEST_WAY => first | k_is | decide +kernel)
    (case nFIRST_ONE => first | k_is | decide +kernel)
    (case nALL_AGREE => first | k_is | decide +kernel)
    (case nGREATEST => first | k_is | decide +kernel)
    (case nNOTHING => first | k_is | decide +kernel)
    (case nCLASH => first | k_is | decide +kernel)
    (case nMOST_VALUES => first | k_is | decide +kernel)
    (case nMOST_RULES => first | k_is | decide +kernel)
    (case nWRONG => first | k_is | decide +kernel)
    (case nABSENT => first | k_is | decide +kernel)
    (case nNOWHERE => first | k_is | decide +kernel)
    (case nFULL => first | k_is | decide +kernel)
    (case nBEGINS => first | k_is | decide +kernel)
    (case nRULE => first | k_is | decide +kernel)
    (case nDROP => first | k_is | decide +kernel)
    (case nDECIDES => first | k_is | decide +kernel)
    (case nGAPS => first | k_is | decide +kernel)
    (case nOVERLAPS => first | k_is | decide +kernel)
    (case nIDLE => first | k_is | decide +kernel)
    (case nSAME => first | k_is | decide +kernel)
    (case nNEAREST => first | k_is | decide +kernel)
    (case zall => first | k_is | decide +kernel)
    (case zzip => first | k_is | decide +kernel)
    (case zlen => first | k_is | decide +kernel)
    (case zrange => first | k_is | decide +kernel)
    (case zsorted => first | k_is | decide +kernel)
    (case zset => first | k_is | decide +kernel)
    (case zenumerate => first | k_is | decide +kernel)
    (case zmin => first | k_is | decide +kernel)
    (case zmax => first | k_is | decide +kernel)
    (case zsum => first | k_is | decide +kernel)
    (case zabs => first | k_is | decide +kernel)
    (case zlist => first | k_is | decide +kernel)
    (case aN => first | k_is | decide +kernel)
    (case lN => first | k_is | decide +kernel)
    (case tN => first | rfl | decide +kernel | k_is)
  case S =>
    intro K H xs a hO hwi hask hx
    cases hx with
    | cons h1 h2 =>
      cases h2
      cases h1 with
      | lst hs ha =>
        have e := L2.ints_dw a.1 _ ha
        subst e
        have q : ((Codec.inLen 0 900 a.1 && a.1.all (Codec.inInt 0 4294967295)) && true) = true := hwi
        rw [Bool.and_eq_true, Bool.and_eq_true] at q
        exact DC.request (fun _ => trivial) hs (Codec.inNat_iff.mp q.1.1).2 (fun x hx => (Codec.inInt_iff.mp (List.all_eq_true.mp q.1.2 x hx)).1) hask fun H' p hp => .lst (L2.SqL.of hp) (L2.dw_ints _)

