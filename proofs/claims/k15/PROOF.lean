import PyProof.Rows.All
import Wide.All
import OpenK.AllK
import Wide.FinOn
import KE.KExcIs
import KE.KExcMore
import HandS.ForMost
import HandS.ForExc
import HandS.ExcInit
import HandS.ExcField
import HandS.ExcIs
import HandS.ExcValue
import HandS.IsInst
import HandS.HeadHook4
import HandS.Strs
import KE.GoesEnum
import HandS.Walk
import KE.KOpsOwn
import HandS.OwnEq
import HandS.Wide
import HandS.Dict
import KE.GoesMore
import KE.GoesZip
import PyProof.ListStr
import PyProof.StrOps2
import HandS.Style
import HandS.Text
import HandS.Replace
import HandS.Conv
import HandS.WordsDict
import KE.KDictZip
import HandS.RepeatKit
import HandS.SetKeys
import PyProof.DictMoreH
import KE.KStateDown
import HandS.Head2
import HandS.HeadEnd
import KE.SortKeyHeap
import HandS.Lambda
import HandS.SortKw
import HandS.Codes
import PyProof.ReprRoads
import PyProof.ReprLen
import PyProof.Rows.FactsT3
import HandS.Defaults
import HandS.HeadWalk
import PySem.Challenge.RW_letterfolds_k15_least_words_between_two
set_option Elab.async false
set_option linter.all false
set_option maxRecDepth 100000
set_option maxHeartbeats 2000000
/-! Maps of points, tables of monoids: plain mathematics. -/
namespace Mon
/-- first x, then y -/
def comp (x y : List Nat) : List Nat := x.map fun i => y.getD i 0
def Valid (n : Nat) (x : List Nat) : Prop := x.length = n ∧ ∀ i ∈ x, i < n
theorem getD_at {α : Type} {l : List α} {i : Nat} {d : α} (h : i < l.length) : l.getD i d = l[i] := by simp [List.getD, h]
theorem getD_of {α : Type} {l : List α} {i : Nat} {d v : α} (h : l[i]? = some v) : l.getD i d = v := by simp [List.getD, h]
theorem comp_valid {n : Nat} {x y : List Nat} (hx : Valid n x) (hy : Valid n y) : Valid n (comp x y) := by
  refine ⟨by rw [comp, List.length_map, hx.1], fun i hi => ?_⟩
  obtain ⟨j, hj, rfl⟩ := List.mem_map.mp hi
  rw [getD_at (by rw [hy.1]; exact hx.2 j hj)]
  exact hy.2 _ (List.getElem_mem _)
theorem comp_assoc {n : Nat} {x y z : List Nat} (hx : Valid n x) (hy : Valid n y) : comp (comp x y) z = comp x (comp y z) := by
  unfold comp
  rw [List.map_map]
  refine List.map_congr_left fun i hi => ?_
  have h : i < y.length := by rw [hy.1]; exact hx.2 i hi
  show z.getD (y.getD i 0) 0 = (y.map fun j => z.getD j 0).getD i 0
  rw [getD_at h, getD_at (l := y.map fun j => z.getD j 0) (by rw [List.length_map]; exact h), List.getElem_map]
def idm (n : Nat) : List Nat := List.range n
theorem idm_valid {n : Nat} : Valid n (idm n) := ⟨List.length_range, fun i hi => List.mem_range.mp hi⟩
theorem id_comp {n : Nat} {y : List Nat} (hy : Valid n y) : comp (idm n) y = y := by
  apply List.ext_getElem
  · rw [comp, List.length_map, idm, List.length_range, hy.1]
  · intro i h1 h2
    simp only [comp, idm, List.getElem_map, List.getElem_range]
    exact getD_at h2
theorem comp_id {n : Nat} {x : List Nat} (hx : Valid n x) : comp x (idm n) = x := by
  conv => rhs; rw [← List.map_id x]
  refine List.map_congr_left fun i hi => ?_
  have h : i < (idm n).length := by rw [idm, List.length_range]; exact hx.2 i hi
  rw [getD_at h]
  simp [idm]
/-! ### how many -/
theorem nodup_lt : ∀ (N : Nat) (l : List Nat), l.Nodup → (∀ x ∈ l, x < N) → l.length ≤ N
  | 0, l, _, h => by
    cases l with
    | nil => exact Nat.le_refl _
    | cons x r => exact absurd (h x List.mem_cons_self) (Nat.not_lt_zero _)
  | N + 1, l, nd, h => by
    by_cases hm : N ∈ l
    · have q := nodup_lt N (l.erase N) (nd.erase N) fun x hx => by
        have h1 := h x (List.mem_of_mem_erase hx)
        have h2 : x ≠ N := fun e => by
          rw [e] at hx
          exact (List.Nodup.not_mem_erase nd) hx
        omega
      rw [List.length_erase_of_mem hm] at q
      omega
    · have q := nodup_lt N l nd fun x hx => by
        have h1 := h x hx
        have h2 : x ≠ N := fun e => hm (e ▸ hx)
        omega
      omega
/-- the number that a list of digits tells -/
def enc (n : Nat) : List Nat → Nat
  | [] => 0
  | i :: r => i + n * enc n r
theorem enc_lt {n : Nat} : ∀ {x : List Nat}, (∀ i ∈ x, i < n) → enc n x < n ^ x.length
  | [], _ => by simp [enc]
  | i :: r, h => by
    have a := h i List.mem_cons_self
    have b := enc_lt (x := r) fun j hj => h j (List.mem_cons_of_mem _ hj)
    have c : n * (enc n r + 1) ≤ n * n ^ r.length := Nat.mul_le_mul_left _ b
    rw [Nat.mul_add, Nat.mul_one] at c
    simp only [enc, List.length_cons, Nat.pow_succ]
    rw [Nat.mul_comm (n ^ r.length) n]
    omega
theorem enc_inj {n : Nat} : ∀ {x y : List Nat}, x.length = y.length → (∀ i ∈ x, i < n) → (∀ i ∈ y, i < n) → enc n x = enc n y → x = y
  | [], [], _, _, _, _ => rfl
  | [], _ :: _, e, _, _, _ => by cases e
  | _ :: _, [], e, _, _, _ => by cases e
  | i :: r, j :: q, e, hx, hy, h => by
    have a := hx i List.mem_cons_self
    have b := hy j List.mem_cons_self
    simp only [enc] at h
    have m1 : (i + n * enc n r) % n = i := by rw [Nat.add_mul_mod_self_left, Nat.mod_eq_of_lt a]
    have m2 : (j + n * enc n q) % n = j := by rw [Nat.add_mul_mod_self_left, Nat.mod_eq_of_lt b]
    have e1 : i = j := by rw [← m1, ← m2, h]
    subst e1
    have e2 : enc n r = enc n q := by
      have z : n * enc n r = n * enc n q := by omega
      exact Nat.eq_of_mul_eq_mul_left (by omega) z
    rw [enc_inj (by simpa using e) (fun k hk => hx k (List.mem_cons_of_mem _ hk)) (fun k hk => hy k (List.mem_cons_of_mem _ hk)) e2]
theorem maps_few {n : Nat} {f : List (List Nat)} (nd : f.Nodup) (v : ∀ x ∈ f, Valid n x) : f.length ≤ n ^ n := by
  have q := nodup_lt (n ^ n) (f.map (enc n)) ?_ ?_
  · rwa [List.length_map] at q
  · rw [List.Nodup, List.pairwise_map]
    refine nd.imp_of_mem fun {a b} ha hb ne e => ne ?_
    exact enc_inj (by rw [(v a ha).1, (v b hb).1]) (v a ha).2 (v b hb).2 e
  · intro x hx
    obtain ⟨y, hy, rfl⟩ := List.mem_map.mp hx
    have := enc_lt (v y hy).2
    rwa [(v y hy).1] at this
/-! ### the order in which numbers are met -/
def madeRow (i : Nat) : Nat → List Nat → List (Nat × Nat) → Option (List (Nat × Nat))
  | _, [], m => some m
  | c, t :: r, m => if m.length + 1 < t then none else if t = m.length + 1 then madeRow i (c + 1) r (m ++ [(i, c)]) else madeRow i (c + 1) r m
def madeTab : Nat → List (List Nat) → List (Nat × Nat) → Option (List (Nat × Nat))
  | _, [], m => some m
  | i, row :: rest, m => if m.length + 1 ≤ i then none else (madeRow i 0 row m).bind (madeTab (i + 1) rest)
theorem madeRow_snoc {i t : Nat} : ∀ {row : List Nat} {c : Nat} {m : List (Nat × Nat)}, madeRow i c (row ++ [t]) m = (madeRow i c row m).bind fun m' => if m'.length + 1 < t then none else if t = m'.length + 1 then some (m' ++ [(i, c + row.length)]) else some m'
  | [], c, m => by simp [madeRow]
  | u :: r, c, m => by
    simp only [List.cons_append, madeRow]
    split
    · rfl
    · split
      · rw [madeRow_snoc, List.length_cons, Nat.add_assoc, Nat.add_comm 1]
      · rw [madeRow_snoc, List.length_cons, Nat.add_assoc, Nat.add_comm 1]
theorem madeTab_snoc {row : List Nat} : ∀ {rows : List (List Nat)} {i : Nat} {m : List (Nat × Nat)}, madeTab i (rows ++ [row]) m = (madeTab i rows m).bind fun m' => if m'.length + 1 ≤ i + rows.length then none else madeRow (i + rows.length) 0 row m'
  | [], i, m => by
    simp only [List.nil_append, madeTab, List.length_nil, Nat.add_zero, Option.bind_some]
    split
    · rfl
    · cases madeRow i 0 row m <;> rfl
  | u :: r, i, m => by
    simp only [List.cons_append, madeTab]
    split
    · rfl
    · cases h : madeRow i 0 u m with
      | none => rfl
      | some m' =>
        simp only [Option.bind_some]
        rw [madeTab_snoc, List.length_cons]
        rw [show i + 1 + r.length = i + (r.length + 1) by omega]
/-- what was met: each number at a place of the table before it -/
theorem madeRow_ok {i : Nat} : ∀ {row : List Nat} {c : Nat} {m m' : List (Nat × Nat)}, madeRow i c row m = some m' → ∃ e, m' = m ++ e ∧ ∀ k p, e[k]? = some p → p.1 = i ∧ c ≤ p.2 ∧ row[p.2 - c]? = some (m.length + k + 1)
  | [], c, m, m', h => by
    simp only [madeRow, Option.some.injEq] at h
    exact ⟨[], by simp [h], fun k p hp => by simp at hp⟩
  | t :: r, c, m, m', h => by
    simp only [madeRow] at h
    split at h
    · cases h
    · split at h
      · rename_i ht
        obtain ⟨e, he, q⟩ := madeRow_ok h
        refine ⟨(i, c) :: e, by rw [he, List.append_assoc]; rfl, fun k p hp => ?_⟩
        cases k with
        | zero =>
          have := Option.some.inj hp
          subst this
          refine ⟨rfl, Nat.le_refl _, ?_⟩
          rw [Nat.sub_self]
          simp [ht]
        | succ k =>
          obtain ⟨q1, q2, q3⟩ := q k p (by simpa using hp)
          refine ⟨q1, by omega, ?_⟩
          rw [show p.2 - c = (p.2 - (c + 1)) + 1 by omega, List.getElem?_cons_succ, q3, List.length_append]
          congr 1
          show m.length + 1 + k + 1 = m.length + (k + 1) + 1
          omega
      · obtain ⟨e, he, q⟩ := madeRow_ok h
        refine ⟨e, he, fun k p hp => ?_⟩
        obtain ⟨q1, q2, q3⟩ := q k p hp
        refine ⟨q1, by omega, ?_⟩
        rw [show p.2 - c = (p.2 - (c + 1)) + 1 by omega, List.getElem?_cons_succ, q3]
theorem madeTab_ok : ∀ {rows : List (List Nat)} {i : Nat} {m m' : List (Nat × Nat)}, madeTab i rows m = some m' → ∃ e, m' = m ++ e ∧ ∀ k p, e[k]? = some p → i ≤ p.1 ∧ p.1 < m.length + k + 1 ∧ ∃ row, rows[p.1 - i]? = some row ∧ row[p.2]? = some (m.length + k + 1)
  | [], i, m, m', h => by
    simp only [madeTab, Option.some.injEq] at h
    exact ⟨[], by simp [h], fun k p hp => by simp at hp⟩
  | u :: r, i, m, m', h => by
    simp only [madeTab] at h
    split at h
    · cases h
    · rename_i hi
      cases h1 : madeRow i 0 u m with
      | none => rw [h1] at h; cases h
      | some m1 =>
        rw [h1, Option.bind_some] at h
        obtain ⟨e1, he1, q1⟩ := madeRow_ok h1
        obtain ⟨e2, he2, q2⟩ := madeTab_ok h
        refine ⟨e1 ++ e2, by rw [he2, he1, List.append_assoc], fun k p hp => ?_⟩
        by_cases hk : k < e1.length
        · rw [List.getElem?_append_left hk] at hp
          obtain ⟨a, b, c⟩ := q1 k p hp
          refine ⟨by omega, by omega, u, by rw [a, Nat.sub_self]; rfl, ?_⟩
          rwa [Nat.sub_zero] at c
        · rw [List.getElem?_append_right (by omega)] at hp
          obtain ⟨a, b, row, c, d⟩ := q2 _ p hp
          have le : m1.length = m.length + e1.length := by rw [he1, List.length_append]
          refine ⟨by omega, by omega, row, ?_, ?_⟩
          · rw [show p.1 - i = (p.1 - (i + 1)) + 1 by omega, List.getElem?_cons_succ, c]
          · rw [d, le]
            congr 1
            omega
theorem madeTab_app {b : List (List Nat)} : ∀ {a : List (List Nat)} {i : Nat} {m : List (Nat × Nat)}, madeTab i (a ++ b) m = (madeTab i a m).bind (madeTab (i + a.length) b)
  | [], i, m => by simp [madeTab]
  | u :: r, i, m => by
    simp only [List.cons_append, madeTab]
    split
    · rfl
    · cases madeRow i 0 u m with
      | none => rfl
      | some m' =>
        simp only [Option.bind_some]
        rw [madeTab_app, List.length_cons, show i + 1 + r.length = i + (r.length + 1) by omega]
theorem take_cons {α : Type} {l : List α} {i : Nat} {x : α} (h : l[i]? = some x) : l = l.take i ++ x :: l.drop (i + 1) ∧ l.take (i + 1) = l.take i ++ [x] ∧ (l.take i).length = i := by
  obtain ⟨hi, e⟩ := List.getElem?_eq_some_iff.mp h
  refine ⟨?_, ?_, by rw [List.length_take]; omega⟩
  · rw [← e, ← List.drop_eq_getElem_cons hi, List.take_append_drop]
  · rw [← e, List.take_succ_eq_append_getElem hi]
theorem madeTab_at {rows : List (List Nat)} {i : Nat} {row : List Nat} {m : List (Nat × Nat)} (h : madeTab 0 rows [] = some m) (hr : rows[i]? = some row) :
    ∃ m', madeTab 0 (rows.take i) [] = some m' ∧ i < m'.length + 1 ∧ ∃ m'', madeRow i 0 row m' = some m'' ∧ madeTab 0 (rows.take (i + 1)) [] = some m'' := by
  obtain ⟨e1, e2, e3⟩ := take_cons hr
  rw [e1, madeTab_app, e3, Nat.zero_add] at h
  cases h1 : madeTab 0 (rows.take i) [] with
  | none => rw [h1] at h; cases h
  | some m' =>
    rw [h1, Option.bind_some] at h
    simp only [madeTab] at h
    split at h
    · cases h
    · rename_i hi
      cases h2 : madeRow i 0 row m' with
      | none => rw [h2] at h; cases h
      | some m'' =>
        refine ⟨m', rfl, by omega, m'', h2, ?_⟩
        rw [e2, madeTab_app, h1, e3, Nat.zero_add, Option.bind_some]
        simp only [madeTab]
        rw [if_neg hi, h2]
        rfl
theorem madeRow_app {i : Nat} {b : List Nat} : ∀ {a : List Nat} {c : Nat} {m : List (Nat × Nat)}, madeRow i c (a ++ b) m = (madeRow i c a m).bind (madeRow i (c + a.length) b)
  | [], c, m => by simp [madeRow]
  | u :: r, c, m => by
    simp only [List.cons_append, madeRow, List.length_cons]
    split
    · rfl
    · split
      · rw [madeRow_app, show c + 1 + r.length = c + (r.length + 1) by omega]
      · rw [madeRow_app, show c + 1 + r.length = c + (r.length + 1) by omega]
theorem madeRow_at {row : List Nat} {i c t : Nat} {m m2 : List (Nat × Nat)} (h : madeRow i 0 row m = some m2) (hr : row[c]? = some t) :
    ∃ m', madeRow i 0 (row.take c) m = some m' ∧ t ≤ m'.length + 1 ∧ madeRow i 0 (row.take (c + 1)) m = some (if t = m'.length + 1 then m' ++ [(i, c)] else m') := by
  obtain ⟨e1, e2, e3⟩ := take_cons hr
  rw [e1, madeRow_app, e3, Nat.zero_add] at h
  cases h1 : madeRow i 0 (row.take c) m with
  | none => rw [h1] at h; cases h
  | some m' =>
    rw [h1, Option.bind_some] at h
    simp only [madeRow] at h
    split at h
    · cases h
    · rename_i hi
      refine ⟨m', rfl, by omega, ?_⟩
      rw [e2, madeRow_app, h1, e3, Nat.zero_add, Option.bind_some]
      simp only [madeRow]
      rw [if_neg hi]
      split <;> rfl
theorem madeTab_lt {rows : List (List Nat)} {m : List (Nat × Nat)} (h : madeTab 0 rows [] = some m) {k : Nat} {p : Nat × Nat} (hp : m[k]? = some p) : p.1 < k + 1 ∧ ∃ row, rows[p.1]? = some row ∧ row[p.2]? = some (k + 1) := by
  obtain ⟨e, he, q⟩ := madeTab_ok h
  rw [List.nil_append] at he
  subst he
  obtain ⟨_, a, row, b, c⟩ := q k p hp
  refine ⟨by simpa using a, row, by simpa using b, by simpa using c⟩
/-! ### a table that maps act by -/
structure Tab (n : Nat) (gens found rows : List (List Nat)) : Prop where
  nd : found.Nodup
  val : ∀ x ∈ found, Valid n x
  gval : ∀ g ∈ gens, Valid n g
  head : found[0]? = some (idm n)
  len : rows.length = found.length
  wid : ∀ (i : Nat) row, rows[i]? = some row → row.length = gens.length
  ent : ∀ (i : Nat) row, rows[i]? = some row → ∀ (c t : Nat), row[c]? = some t → ∃ x g, found[i]? = some x ∧ gens[c]? = some g ∧ found[t]? = some (comp x g)
def leftStep (rows : List (List Nat)) (L : List (List Nat)) (p : Nat × Nat) : List (List Nat) := L ++ [(L.getD p.1 []).map fun x => (rows.getD x []).getD p.2 0]
def leftTab (rows : List (List Nat)) (made : List (Nat × Nat)) : List (List Nat) := made.foldl (leftStep rows) [rows.getD 0 []]
/-- row k of the left table tells what letters in front of element k are -/
def LeftOk (gens found : List (List Nat)) (k : Nat) (l : List Nat) : Prop := l.length = gens.length ∧ ∀ (a e : Nat), l[a]? = some e → ∃ g x, gens[a]? = some g ∧ found[k]? = some x ∧ found[e]? = some (comp g x)
theorem nodup_at {α : Type} {l : List α} (nd : l.Nodup) {i j : Nat} {x : α} (h1 : l[i]? = some x) (h2 : l[j]? = some x) : i = j := by
  obtain ⟨a, ha⟩ := List.getElem?_eq_some_iff.mp h1
  obtain ⟨b, hb⟩ := List.getElem?_eq_some_iff.mp h2
  have pw := List.pairwise_iff_getElem.mp nd
  rcases Nat.lt_trichotomy i j with h | h | h
  · exact absurd (ha.trans hb.symm) (pw i j a b h)
  · exact h
  · exact absurd (hb.trans ha.symm) (pw j i b a h)
section
variable {n : Nat} {gens found rows : List (List Nat)}
theorem Tab.at (T : Tab n gens found rows) {i : Nat} {x : List Nat} (h : found[i]? = some x) : ∃ row, rows[i]? = some row := by
  have := (List.getElem?_eq_some_iff.mp h).1
  exact ⟨_, List.getElem?_eq_getElem (by rw [T.len]; exact this)⟩
/-- the entry of row i at letter c -/
theorem Tab.get (T : Tab n gens found rows) {i c : Nat} {x g : List Nat} (h : found[i]? = some x) (hg : gens[c]? = some g) : found[(rows.getD i []).getD c 0]? = some (comp x g) := by
  obtain ⟨row, hr⟩ := T.at h
  have hc : c < row.length := by rw [T.wid i row hr]; exact (List.getElem?_eq_some_iff.mp hg).1
  obtain ⟨x', g', h1, h2, h3⟩ := T.ent i row hr c row[c] (List.getElem?_eq_getElem hc)
  rw [h] at h1
  rw [hg] at h2
  cases h1
  cases h2
  rw [getD_of hr, getD_at hc]
  exact h3
theorem left_len {made : List (Nat × Nat)} : (leftTab rows made).length = made.length + 1 := by
  unfold leftTab
  suffices h : ∀ (m : List (Nat × Nat)) (L : List (List Nat)), (m.foldl (leftStep rows) L).length = L.length + m.length by
    rw [h, List.length_singleton, Nat.add_comm]
  intro m
  induction m with
  | nil => intro L; simp
  | cons p r ih => intro L; rw [List.foldl_cons, ih, leftStep, List.length_append, List.length_singleton, List.length_cons]; omega
theorem left_snoc {made : List (Nat × Nat)} {p : Nat × Nat} : leftTab rows (made ++ [p]) = leftStep rows (leftTab rows made) p := by
  unfold leftTab
  rw [List.foldl_append]
  rfl
theorem left_ok (T : Tab n gens found rows) (hz : gens ≠ []) : ∀ (made : List (Nat × Nat)), (∀ k p, made[k]? = some p → p.1 < k + 1 ∧ ∃ row, rows[p.1]? = some row ∧ row[p.2]? = some (k + 1)) → ∀ k l, (leftTab rows made)[k]? = some l → LeftOk gens found k l := by
  intro made
  have base : ∀ l, rows.getD 0 [] = l → LeftOk gens found 0 l := fun l hl => by
    obtain ⟨row, hr⟩ := T.at T.head
    rw [getD_of hr] at hl
    subst hl
    refine ⟨T.wid 0 row hr, fun a e he => ?_⟩
    obtain ⟨x, g, h1, h2, h3⟩ := T.ent 0 row hr a e he
    rw [T.head] at h1
    cases h1
    have gv := T.gval g (List.mem_of_getElem? h2)
    refine ⟨g, idm n, h2, T.head, ?_⟩
    rw [comp_id gv, h3, id_comp gv]
  suffices h : ∀ (r : List (Nat × Nat)) (m : List (Nat × Nat)), (∀ k p, (m ++ r)[k]? = some p → p.1 < k + 1 ∧ ∃ row, rows[p.1]? = some row ∧ row[p.2]? = some (k + 1)) → (∀ k l, (leftTab rows m)[k]? = some l → LeftOk gens found k l) →
      ∀ k l, (leftTab rows (m ++ r))[k]? = some l → LeftOk gens found k l by
    intro hm
    have := h made [] (by simpa using hm) (fun k l hl => by
      unfold leftTab at hl
      cases k with
      | zero => exact base l (Option.some.inj hl)
      | succ k => simp at hl)
    simpa using this
  intro r
  induction r with
  | nil => intro m _ h; simpa using h
  | cons p r ih =>
    intro m hm h
    rw [List.append_cons]
    refine ih (m ++ [p]) (by rw [← List.append_cons]; exact hm) fun k l hl => ?_
    rw [left_snoc, leftStep] at hl
    by_cases hk : k < (leftTab rows m).length
    · rw [List.getElem?_append_left hk] at hl
      exact h k l hl
    · have hk2 : k = (leftTab rows m).length := by
        have := (List.getElem?_eq_some_iff.mp hl).1
        rw [List.length_append, List.length_singleton] at this
        omega
      rw [List.getElem?_append_right (by omega), hk2, Nat.sub_self] at hl
      have el := Option.some.inj hl
      have kl : k = m.length + 1 := by rw [hk2, left_len]
      obtain ⟨b1, row, hrow, hent⟩ := hm m.length p (by rw [List.getElem?_append_right (Nat.le_refl _), Nat.sub_self]; rfl)
      obtain ⟨xb, gp, hxb, hgp, hfk⟩ := T.ent p.1 row hrow p.2 _ hent
      have hb : p.1 < (leftTab rows m).length := by rw [left_len]; exact b1
      have hL := h p.1 ((leftTab rows m)[p.1]) (List.getElem?_eq_getElem hb)
      rw [getD_at hb] at el
      refine ⟨by rw [← el, List.length_map]; exact hL.1, fun a e he => ?_⟩
      rw [← el, List.getElem?_map] at he
      cases q : ((leftTab rows m)[p.1])[a]? with
      | none => rw [q] at he; cases he
      | some e0 =>
        rw [q] at he
        have ee := Option.some.inj he
        obtain ⟨g, x, h1, h2, h3⟩ := hL.2 a e0 q
        rw [hxb] at h2
        cases h2
        have z := T.get h3 hgp
        have gv := T.gval g (List.mem_of_getElem? h1)
        have xv := T.val xb (List.mem_of_getElem? hxb)
        refine ⟨g, comp xb gp, h1, by rw [kl]; exact hfk, ?_⟩
        rw [← ee, z, comp_assoc gv xv]
theorem prod_ok (T : Tab n gens found rows) (hz : gens ≠ []) {L : List (List Nat)} (hL : ∀ k l, L[k]? = some l → LeftOk gens found k l) {i c t : Nat} {row li lt : List Nat} (h1 : rows[i]? = some row) (h2 : row[c]? = some t) (h3 : L[i]? = some li) (h4 : L[t]? = some lt) :
    lt = li.map fun x => (rows.getD x []).getD c 0 := by
  obtain ⟨x, g, hx, hg, ht⟩ := T.ent i row h1 c t h2
  have a := hL i li h3
  have b := hL t lt h4
  apply List.ext_getElem
  · rw [List.length_map, a.1, b.1]
  · intro k k1 k2
    rw [List.length_map] at k2
    rw [List.getElem_map]
    obtain ⟨ga, y, e1, e2, e3⟩ := b.2 k lt[k] (List.getElem?_eq_getElem k1)
    obtain ⟨gb, z, e4, e5, e6⟩ := a.2 k li[k] (List.getElem?_eq_getElem k2)
    rw [e1] at e4
    cases e4
    rw [ht] at e2
    cases e2
    rw [hx] at e5
    cases e5
    have q := T.get e6 hg
    have gv := T.gval ga (List.mem_of_getElem? e1)
    have xv := T.val x (List.mem_of_getElem? hx)
    rw [comp_assoc gv xv] at q
    exact nodup_at T.nd e3 q
end
end Mon

set_option Elab.async false
set_option linter.all false
set_option maxRecDepth 100000
set_option maxHeartbeats 4000000
/-! Facts of error classes. -/
namespace Lf
open PySem PySem.Spec PyProof.Rows L2
/-- what isinstance of an error of the class at C wants -/
structure IsC (K : PySem.W.Frag) (C : Addr) : Prop where
  cl : (PySem.W.clsIn K C).isSome = true
  ga : PySem.W.findIn K (.ref C) "__getattribute__" = some (some (.builtin "BaseException.__getattribute__"))
  gg : PySem.W.findIn K (.ref C) "__getattr__" = some none
  sb : PySem.W.subIn K (.ref C) (.type "BaseException") = some true
  ca : PySem.W.findIn K (.ref C) "__class__" = some (some (.builtin "object.__class__"))
  sg : PySem.W.specialIn K (.builtin "object.__class__") "__get__" = some (some (.builtin "getset_descriptor.__get__"))
  tk : PySem.W.takesIn K (.builtin "object.__class__") = some true
  ob : PySem.W.mroIn K C (.type "object") = some true
/-! ### the classes by one look at the written part -/
/-- an exception class over ValueError -/
def oexB (K : PySem.W.Frag) (C : Addr) : Bool := match K.lookup C with
  | some ⟨.type t, _, .cls cd, sl⟩ => (match cd.mro, sl.toList with
    | .ref D :: bm, [_, _, _, _, some (.builtin n), _] => decide (t = "type") && (decide (D = C) && (decide (n = "ValueError.__new__") && (!cd.hasDel && (cd.hasDict && PySem.HandSPX.refsVE bm))))
    | _, _ => false)
  | _ => false
theorem oexB_ok {K : PySem.W.Frag} {C : Addr} (h : oexB K C = true) : ∃ nm q N bs bm sn sub ab col dd k0 k1 k2 k3 k5,
    K.lookup C = some (excClassObj nm q C N bs bm true sn sub ab col dd k0 k1 k2 k3 k5 "ValueError.__new__") ∧ PySem.HandSPX.refsVE bm = true := by
  unfold oexB at h
  split at h
  · rename_i t dd cd sl lk
    split at h
    · rename_i D bm k0 k1 k2 k3 n k5 hm hs
      simp only [Bool.and_eq_true, decide_eq_true_eq, Bool.not_eq_true'] at h
      obtain ⟨rfl, rfl, rfl, h4, h5, h6⟩ := h
      obtain ⟨nm, bs, mro, ns, qn, hd, sn, sub, ab, col, del⟩ := cd
      dsimp only at hm h4 h5
      subst hm h4 h5
      obtain ⟨l⟩ := sl
      dsimp only at hs
      subst hs
      exact ⟨nm, qn, ns, bs, bm, sn, sub, ab, col, dd, k0, k1, k2, k3, k5, lk, h6⟩
    · cases h
  · cases h
def errB (K : PySem.W.Frag) (C : Addr) : Bool :=
  oexB K C && (decide (PySem.W.findIn K (.ref C) "__setattr__" = some (some (.builtin "object.__setattr__"))) && (decide (PySem.W.subIn K (.ref C) (.type "BaseException") = some true) &&
  (decide (PySem.W.typeIn K (.ref C) = some (.type "type")) && (PySem.W.keepIn K (.ref C) && (PySem.W.hasDictIn K C &&
  (decide (PySem.W.findIn K (.ref C) "__getattribute__" = some (some (.builtin "BaseException.__getattribute__"))) && (decide (PySem.W.findIn K (.ref C) "__getattr__" = some none) &&
  (decide (PySem.W.findIn K (.ref C) "__class__" = some (some (.builtin "object.__class__"))) && (decide (PySem.W.specialIn K (.builtin "object.__class__") "__get__" = some (some (.builtin "getset_descriptor.__get__"))) &&
  (decide (PySem.W.takesIn K (.builtin "object.__class__") = some true) && decide (PySem.W.mroIn K C (.type "object") = some true)))))))))))
structure ErrC (K : PySem.W.Frag) (C : Addr) : Prop where
  o : OexC K C
  x : XfC K C
  i : IsC K C
theorem errB_ok {K : PySem.W.Frag} {C : Addr} (h : errB K C = true) : ErrC K C := by
  unfold errB at h
  simp only [Bool.and_eq_true, decide_eq_true_eq] at h
  obtain ⟨h1, h2, h3, h4, h5, h6, h7, h8, h9, h10, h11, h12⟩ := h
  have hc : (PySem.W.clsIn K C).isSome = true := by
    obtain ⟨nm, q, N, bs, bm, sn, sub, ab, col, dd, k0, k1, k2, k3, k5, lk, _⟩ := oexB_ok h1
    unfold PySem.W.clsIn
    rw [lk] <;> rfl
  exact ⟨⟨oexB_ok h1, h2, h3, h4, h5⟩, ⟨h7, h8, h3, h6⟩, ⟨hc, h7, h8, h3, h9, h10, h11, h12⟩⟩
end Lf

set_option Elab.async false
set_option linter.all false
set_option maxRecDepth 100000
set_option maxHeartbeats 4000000
/-! Errors of the program's own as values: made, read, asked, told. -/
namespace Lf
open PySem PySem.Spec PyProof.Rows L2

/-! ### made -/
/-- C(e, ..) as a value, C's own __init__ keeping sp -/
def tNew (C : Addr) (sp : Sp) (ta : TA) : TE := fun σ H Q => ta σ H fun vs H1 =>
  vs.length ≤ 1000 ∧ ∀ a, H1 a = none → sp (.ref a :: vs) (upd H1 a (exo a C none)) (fun v H2 => v = .non ∧ Q (.ref a) H2) E0
section
variable {X : Cx} {CX : CXT} {x : Str} {C fI : Addr} {k : Nat} {fd : FuncData} {ps : List Str} {sp : Sp} {e : Expr} {es : List Expr} {ta : TA} {p pos : Pos}
theorem pe_new (T : OexC X.K C) (iC : PySem.W.findIn X.K (.ref C) "__init__" = some (some (.ref fI)))
    (tI : PySem.W.typeIn X.K (.ref fI) = some (.type "function"))
    (F1 : FnOk X.prog X.w X.K X.mg X.base CX k fI fd ps sp) (hr : Room (k + 1) X.A) (hb : Binds X.K fd ps [])
    (hx : Passes CX X E0) (hg : Gl X x) (hm : X.mg x = some (.ref C)) (ha : PA X (e :: es) ta)
    (hdb : (x == ("__debug__" : Str)) = false := by decide +kernel)
    (he : starEach (e :: es) X.env = (false, eval e X.env) :: starEach es X.env := by rfl)
    (hpl : (backTo pos (starEach es X.env)).any (·.1) = false := by rfl) :
    PE X (.Call (.Name x p) (e :: es) [] pos) (tNew C sp ta) := by
  refine ⟨fun pins s σ H Q I h => ?_⟩
  obtain ⟨nm, q, N, bs, bm, sn, sub, ab, col, dd, k0, k1, k2, k3, k5, hC, hbm⟩ := T.cls
  refine wpAny_Call_Name_kw (ld_glob I hg hm ?_ hdb)
  refine PySem.W.callWith_K (h₀ := X.base) I.ok.mod.kin T.kC
    (thn (ha.run pos pins s σ H _ I h) fun us s1 hh => ?_) he hpl
  obtain ⟨vs, H1, I1, r1, hz, q1⟩ := hh
  refine ⟨I1.kIn, ?_⟩
  show wpAny _ _ (call (.ref C) us) _ _ _
  obtain ⟨hp, g, dr, tk, os⟩ := s1
  let a := hp.objs.size + 1
  have hsz : hp.objs.size ≤ a := Nat.le_succ _
  have hq := q1 a (I1.hok.fresh hsz)
  let hp' := (hp.push (PySem.W.kdv_tup us)).push (PySem.HandSPX.excO C hp.objs.size)
  have kk : ∀ b o, hp.get? b = some o → hp'.get? b = some o := fun b o z =>
    Heap.get?_push_of_some _ (Heap.get?_push_of_some _ z)
  have hget : ((hp.push (PySem.W.kdv_tup us)).push (PySem.HandSPX.excO C hp.objs.size)).get? (hp.objs.size + 1) =
    some (PySem.HandSPX.excO C hp.objs.size) := by heap_get
  have I2 : Inv X pins σ (upd H1 a (exo a C none)) ⟨hp', g, dr, tk, os⟩ :=
    I1.laid (t' := tk) (a := a) (o := exo a C none) (h' := hp') kk hsz (exo_ok (show hp'.get? a = _ from hget))
  have r2 : Vals (V.ref a :: vs) (Value.ref a :: us) := .cons rfl r1
  have hl : (Value.ref a :: us).length = ps.length := by
    have z := r2.length
    rw [F1.len _ _ _ _ hq] at z
    exact z.symm
  have hus : us.length ≤ sizeLine := by
    rw [← Paired.length r1, sizeLine_eq]
    omega
  have hb2 := hb ⟨hp', g, dr, tk, os⟩ (Value.ref a :: us) I2.kIn (by simpa using hl)
  rw [List.append_nil] at hb2
  refine wpAny_call (PySem.HandSPX.call_own F.excBase_ValueError (fun Y => PySem.HandSPX.refsVE_contains Y bm hbm) (I1.kIn _ _ hC)
    (PySem.W.looks_findIn I1.kIn iC) (fun self => PySem.W.bind_fn I1.kIn self tI) hus
    (codeAny_mono (F1.run _ X.stack _ _ ⟨Value.ref a :: us, []⟩ (Value.ref a :: us) _ _ E0 (hr.make C us []) (I2.env0.make C us []) hb2 r2 hq) fun r s' hq' => ?_))
  cases r with
  | error er => exact hx pins σ _ _ er s' I2 hq'
  | ok fl =>
    cases fl with
    | ret u =>
      obtain ⟨v, H2, os2, bare2, un2, hok2, rv, ev, q2⟩ := hq'
      subst ev
      exact ⟨rv, .ref a, H2, I2.call' (ch := []) os2 un2 hok2 bare2 (fun b z => nomatch z), rfl, q2⟩
    | next => exact False.elim hq'
    | brk => exact False.elim hq'
    | cont => exact False.elim hq'
end

/-! ### an error that stands -/
/-- at a an error of the class at C: its dict d, if it has one -/
def XAt (H : Hp) (a C : Addr) (d : Option Addr) : Prop := H a = some (exo a C d) ∨ (d = none ∧ H a = some (ExO (.ref C) a))
theorem XAt.obj {X : Cx} {pins : List (Addr × Obj)} {σ : L2.St} {H : Hp} {s : Shared} {a C : Addr} {d : Option Addr} (I : Inv X pins σ H s) (h : XAt H a C d) :
    ∃ oe vs, s.heap.get? a = some oe ∧ Zc (.ref C) d oe ∧ oe.data = .fields vs := by
  rcases h with h | ⟨rfl, h⟩
  · obtain ⟨t1, ho⟩ := exo_at I.hok h
    exact ⟨_, _, ho, ⟨rfl, rfl⟩, rfl⟩
  · obtain ⟨⟨oe, vs, ho, hz, hd, _⟩, _, _⟩ := I.hok a _ h
    exact ⟨oe, vs, ho, hz, hd⟩
theorem XAt.mono {H H' : Hp} {a C : Addr} {d : Option Addr} (h : XAt H a C d) (e : Same H H') : XAt H' a C d := by
  rcases h with h | ⟨z, h⟩
  · exact .inl (e _ _ h)
  · exact .inr ⟨z, e _ _ h⟩

/-! ### a field -/
def tXo (K : PySem.W.Frag) (f : Str) (te : TE) : TE := fun σ H Q => te σ H fun x H1 => ∃ (a C d : Addr) (fs : List (Str × V)) (v : V),
  x = .ref a ∧ XfC K C ∧ PySem.W.findIn K (.ref C) f = some none ∧ XAt H1 a C (some d) ∧ H1 d = some (exd d fs) ∧ fs.lookup f = some v ∧ Q v H1
theorem pe_xo {X : Cx} {e : Expr} {te : TE} {pos : Pos} {n : Str} (he : PE X e te)
    (hb : attributeBase e n X.env (eval e X.env) = eval e X.env := by rfl) : PE X (.Attribute e n pos) (tXo X.K n te) := by
  refine ⟨fun pins s σ H Q I h => ?_⟩
  refine attr_of hb (thn (he.run pins s σ H _ I h) fun u s1 hh => ?_)
  obtain ⟨x, H1, I1, rx, a, C, d, fs, v, ex, T, hno, ea, ed, l, q⟩ := hh
  subst ex
  obtain rfl : u = Value.ref a := rx
  obtain ⟨oe, vs, ho, hz, hd⟩ := ea.obj I1
  obtain ⟨mA, hns, hr⟩ := exd_at I1.hok ed
  obtain ⟨od, ho2, hl⟩ := lookIn_ns hns
  obtain ⟨u, hu, ru⟩ := RelO.some_of (v := v) (o := mA n) (by rw [← l]; exact hr n)
  have J : PySem.W.InstAt s1.heap a oe C (some od) := ⟨ho, hz.1, by unfold PySem.W.notCls; rw [hd] <;> rfl, by rw [hz.2]; exact ho2⟩
  exact HandSPX.exc_get I1.kIn J T.ga T.gg T.exC (PySem.W.findObj_own T.hdC hno rfl (by rw [hl, hu])) (handed_of ru)
    ⟨v, H1, I1.tok _, ru, q⟩

/-! ### isinstance -/
/-- its dict, if it has one, is an error's -/
def XDict (H : Hp) (d : Option Addr) : Prop := ∀ dx, d = some dx → ∃ fs, H dx = some (exd dx fs)
theorem XAt.inst {X : Cx} {pins : List (Addr × Obj)} {σ : L2.St} {H : Hp} {s : Shared} {a C : Addr} {d : Option Addr} (I : Inv X pins σ H s) (h : XAt H a C d) (hd : XDict H d) :
    ∃ ox od, PySem.W.InstAt s.heap a ox C od := by
  obtain ⟨oe, vs, ho, hz, hv⟩ := h.obj I
  have nc : PySem.W.notCls oe = true := by unfold PySem.W.notCls; rw [hv] <;> rfl
  cases d with
  | none => exact ⟨oe, none, ho, hz.1, nc, by rw [hz.2]; trivial⟩
  | some dx =>
    obtain ⟨fs, e⟩ := hd dx rfl
    obtain ⟨mA, hns, _⟩ := exd_at I.hok e
    obtain ⟨od, ho2, _⟩ := lookIn_ns hns
    exact ⟨oe, some od, ho, hz.1, nc, by rw [hz.2]; exact ho2⟩
def rIsX (K : PySem.W.Frag) : List V → Hp → VK → Prop := fun xs H Q => ∃ (a C : Addr) (d : Option Addr) (c : V) (cv : Value) (b : Bool),
  xs = [.ref a, c] ∧ ClsV c cv ∧ IsC K C ∧ XAt H a C d ∧ XDict H d ∧ PySem.W.kitOne K (.ref C) cv = some b ∧ Q (.bl b) H
theorem call_isX {X : Cx} : CallR X (.builtin "isinstance") (rIsX X.K) := by
  intro pins s σ H xs us Q I r h
  obtain ⟨a, C, d, c, cv, b, rfl, k, T, ha, hd, e, q⟩ := h
  obtain ⟨u1, u2, rfl, r1, r2⟩ := vals2 r
  obtain rfl := k.eq r2
  obtain rfl : u1 = Value.ref a := r1
  obtain ⟨ox, od, J⟩ := ha.inst I hd
  exact PySem.W.kia_one (PySem.W.kitx_exc (od := od) T.cl T.ga T.gg T.sb T.ca T.sg T.tk T.ob) I.kIn J e (fun z => nomatch z)
    fun tk => ⟨.bl b, H, I.tok tk, rfl, q⟩
def rIsXT (K : PySem.W.Frag) : List V → Hp → VK → Prop := fun xs H Q => ∃ (a C : Addr) (d : Option Addr) (tp : Addr) (cs : List V) (us : List Value) (b : Bool),
  xs = [.ref a, .ref tp] ∧ H tp = some (.tup cs) ∧ Paired ClsV cs us ∧ IsC K C ∧ XAt H a C d ∧ XDict H d ∧ PySem.W.kitAny K (.ref C) us = some b ∧ Q (.bl b) H
theorem call_isXT {X : Cx} : CallR X (.builtin "isinstance") (rIsXT X.K) := by
  intro pins s σ H xs us Q I r h
  obtain ⟨a, C, d, tp, cs, ws, b, rfl, htp, k, T, ha, hd, e, q⟩ := h
  obtain ⟨u1, u2, rfl, r1, r2⟩ := vals2 r
  obtain rfl : u1 = Value.ref a := r1
  obtain rfl : u2 = Value.ref tp := r2
  obtain ⟨ox, od, J⟩ := ha.inst I hd
  obtain ⟨_, its, rv, ⟨oc, dd, dt, sl⟩, h1, h2, n, h3⟩ := (show ObjOk X.prog X.w H s.heap tp (.tup cs) from I.hok tp _ htp)
  obtain rfl := ClsV.all k rv
  dsimp only at h2 h3
  subst h2 h3
  exact PySem.W.kia_tup (PySem.W.kitx_exc (od := od) T.cl T.ga T.gg T.sb T.ca T.sg T.tk T.ob) I.kIn J h1 e (fun z => nomatch z)
    fun tk => ⟨.bl b, H, I.tok tk, rfl, q⟩

/-! ### told() -/
/-- e.m() of an error e, by what stands of its class -/
def tTold (X : Cx) (m : Str) (te : TE) : TE := fun σ H Q => te σ H fun x H1 => ∃ (a C f : Addr) (d : Option Addr) (fd : FuncData) (sp : Sp),
  x = .ref a ∧ IsC X.K C ∧ Meth X.K C m f ∧ XAt H1 a C d ∧ (∀ dx, d = some dx → ∃ fs, H1 dx = some (exd dx fs) ∧ fs.lookup m = none) ∧
    FnOk X.prog X.w X.K X.mg X.base CX0 1 f fd ["self"] sp ∧ Binds X.K fd ["self"] [] ∧ sp [.ref a] H1 Q E0
theorem pe_told {X : Cx} {o : Expr} {m : Str} {te : TE} {pos apos : Pos} {pl : Sem Bool} (he : PE X o te) (hr : Room 1 X.A)
    (ht : eval (.Call (.Attribute o m apos) [] [] pos) X.env = (do
      let ov ← eval o X.env
      standAt apos.atName
      let (f, first) ← holding [ov] (getMethod ov m pl)
      callWith pos f first (backTo pos (starEach [] X.env)) (backToKw pos (keywordEach [] X.env))) := by rfl) :
    PE X (.Call (.Attribute o m apos) [] [] pos) (tTold X m te) := by
  refine ⟨fun pins s σ H Q I h => ?_⟩
  refine PySem.W.methodCall_KW (pl := pl) (thn (he.run pins s σ H _ I h) fun u s1 hh => ?_) ht
  obtain ⟨x, H1, I1, rx, a, C, f, d, fd, sp, rfl, T, M, ha, hd, FO, hb, q⟩ := hh
  obtain rfl : u = Value.ref a := rx
  obtain ⟨mm, fr⟩ := I1.fr
  obtain ⟨oe, vs, ho, hz, hv⟩ := ha.obj I1
  have nc : PySem.W.notCls oe = true := by unfold PySem.W.notCls; rw [hv] <;> rfl
  have go : wpAny (model X.prog X.w) X.A (callWith pos (Value.ref f) [Value.ref a] (backTo pos (starEach [] X.env)) []) (EP X pins σ Q) X.xe s1 :=
    PySem.W.callWith_K0 (first := [.ref a]) I1.kIn M.kp (run_fn (us := [.ref a]) (vs := [.ref a]) FO hr hb .nil pass0 I1 (.cons rfl .nil) q)
  cases d with
  | none =>
    have J : PySem.W.InstAt s1.heap a oe C none := ⟨ho, hz.1, nc, by rw [hz.2]; trivial⟩
    exact PySem.W.method_exc fr I1.ok.mod.kin J T.ga T.gg M.at_ M.fn rfl go
  | some dx =>
    obtain ⟨fs, e, hl⟩ := hd dx rfl
    obtain ⟨mA, hns, rel⟩ := exd_at I1.hok e
    obtain ⟨od, ho2, hk⟩ := lookIn_ns hns
    have J : PySem.W.InstAt s1.heap a oe C (some od) := ⟨ho, hz.1, nc, by rw [hz.2]; exact ho2⟩
    have hm : mA m = none := by
      have z := rel m
      rw [hl] at z
      cases y : mA m with
      | none => rfl
      | some v => rw [y] at z; exact z.elim
    exact PySem.W.method_exc fr I1.ok.mod.kin J T.ga T.gg M.at_ M.fn (by show (PySem.W.lookIn m od).map _ = _; rw [hk, hm]; rfl) go

/-! ### made without own __init__, of nothing -/
theorem pe_bare {X : Cx} {C : Addr} {bmB : List Value} {B newId initId : String} {x : Str} {p pos : Pos} (F : ExcBaseFacts B newId initId bmB)
    (q : PySem.W.excIn X.K C bmB newId = true) (gC : X.mg x = some (.ref C)) (kC : PySem.W.keepIn X.K (.ref C) = true) (hg : Gl X x)
    (hdb : (x == ("__debug__" : Str)) = false := by decide +kernel) :
    PE X (.Call (.Name x p) [] [] pos) (fun _ H Q => ∀ a, H a = none → Q (.ref a) (upd H a (ExO (.ref C) a))) := by
  refine ⟨fun pins s σ H Q I h => ?_⟩
  refine wpAny_Call_Name_kw (ld_glob I hg gC ?_ hdb)
  refine PySem.W.callWith_K0 I.kIn kC ?_
  show wpAny _ _ (call (.ref C) []) _ _ _
  obtain ⟨bm, N, nm, qn, bs, hdct, sn, sub, ab, col, dd, k0, k1, k2, k3, k5, mN, hC, hN, hni, T⟩ := exc_obj I.kIn q
  refine wpAny_call_exc_subT F T hC hN hni (fun h' a hm => ?_) (Nat.zero_le _)
  have hn : H a = none := I.hok.gone hm.new
  obtain ⟨t, ht, _, _⟩ := hm.there
  exact ⟨.ref a, _, I.laidN hm.keeps hm.new hn (exO_ok ht ⟨rfl, rfl⟩ rfl rfl rfl (show 4 < 6 by decide)), rfl, h a hn⟩

/-! ### by a weaker reading -/
theorem PE.imp {X : Cx} {e : Expr} {t t' : TE} (h : PE X e t) (f : ∀ σ H Q, t' σ H Q → t σ H Q) : PE X e t' := ⟨fun pins s σ H Q I q => h.run pins s σ H Q I (f σ H Q q)⟩
theorem PSs.imp {X : Cx} {e : List Stmt} {t t' : TS} (h : PSs X e t) (f : ∀ D σ H, t' D σ H → t D σ H) : PSs X e t' := ⟨fun pins s σ H D I q => h.run pins s σ H D I (f D σ H q)⟩
/-- a reading that may be weakened -/
def up (t : TE) : TE := fun σ H Q => ∃ Q0, t σ H Q0 ∧ ∀ v H', Q0 v H' → Q v H'
theorem PE.up {X : Cx} {e : Expr} {t : TE} (h : PE X e t) : PE X e (Lf.up t) := ⟨fun pins s σ H Q I q => by
  obtain ⟨Q0, q, k⟩ := q
  exact thn (h.run pins s σ H Q0 I q) fun u s1 r => by
    obtain ⟨v, H', I', rv, z⟩ := r
    exact ⟨v, H', I', rv, k v H' z⟩⟩
/-- a class (or another thing) of the module by its name -/
theorem pe_cl {X : Cx} {x : Str} {a : Addr} {pos : Pos} (hg : Gl X x) (hm : X.mg x = some (.ref a)) (hd : (x == ("__debug__" : Str)) = false := by decide +kernel) : PE X (.Name x pos) (tC (.ref a)) := pe_glob hg hm rfl hd
/-- an int of the module by its name -/
theorem pe_gint {X : Cx} {x : Str} {i : Int} {t : Tok} {pos : Pos} (hg : Gl X x) (hm : X.mg x = some (.int i t)) (hd : (x == ("__debug__" : Str)) = false := by decide +kernel) : PE X (.Name x pos) (tC (.int i)) := pe_glob hg hm ⟨t, rfl⟩ hd
theorem same_upd {H : Hp} {p : Addr} {o : HO} (n : H p = none) : Same H (upd H p o) := fun b u e => by rw [upd_ne (ne_of_none e n)]; exact e

/-! ### a def of the module, called by its name -/
structure Def (P : Program) (w : World) (K : PySem.W.Frag) (mg : Str → Option Value) (base : Heap) (CX : CXT) (k : Nat) (x : Str) (ps : List Str) (sp : Sp) : Prop where
  ex : ∃ f fd, mg x = some (.ref f) ∧ PySem.W.keepIn K (.ref f) = true ∧ FnOk P w K mg base CX k f fd ps sp ∧ Binds K fd ps []
section
variable {X : Cx} {CX : CXT} {k : Nat} {x : Str} {ps : List Str} {sp : Sp} {E : XK} {e : Expr} {es : List Expr} {t : TA} {p pos : Pos}
theorem pe_def (D : Def X.prog X.w X.K X.mg X.base CX k x ps sp) (hr : Room k X.A) (hx : Passes CX X E) (hg : Gl X x) (ha : PA X (e :: es) t)
    (hdb : (x == ("__debug__" : Str)) = false := by decide +kernel) (he : starEach (e :: es) X.env = (false, eval e X.env) :: starEach es X.env := by rfl)
    (hpl : (backTo pos (starEach es X.env)).any (·.1) = false := by rfl) : PE X (.Call (.Name x p) (e :: es) [] pos) (fun σ H Q => t σ H fun vs H1 => sp vs H1 Q E) := by
  obtain ⟨f, fd, g, kp, F, b⟩ := D.ex
  exact PE.imp (pe_call F hr hg g kp b .nil hx ha hdb he hpl) fun σ H Q h => by
    show t σ H fun vs H1 => sp (vs ++ []) H1 Q E
    simpa only [List.append_nil] using h
theorem pe_def0 (D : Def X.prog X.w X.K X.mg X.base CX k x ps sp) (hr : Room k X.A) (hx : Passes CX X E) (hg : Gl X x)
    (hdb : (x == ("__debug__" : Str)) = false := by decide +kernel) : PE X (.Call (.Name x p) [] [] pos) (fun _ H Q => sp [] H Q E) := by
  obtain ⟨f, fd, g, kp, F, b⟩ := D.ex
  exact pe_call0 F hr hg g kp b .nil hx hdb
end

/-! ### told, __init__ -/
def spTold (t : Str) : Sp := fun vs H Q _ => ∃ v, vs = [v] ∧ Q (.str t) H
def spIni1 (C : Addr) (f : Str) : Sp := fun vs H Q _ => ∃ a v, vs = [.ref a, v] ∧ H a = some (exo a C none) ∧
  ∀ d, H d = none → d ≠ a → Q .non (upd (upd H d (exd d [(f, v)])) a (exo a C (some d)))
def spIni2 (C : Addr) (f g : Str) : Sp := fun vs H Q _ => ∃ a v u, vs = [.ref a, v, u] ∧ H a = some (exo a C none) ∧
  ∀ d, H d = none → d ≠ a → Q .non (upd (upd (upd H d (exd d [(f, v)])) a (exo a C (some d))) d (exd d [(g, u), (f, v)]))
section
variable {P : Program} {w : World} {K : PySem.W.Frag} {mg : Str → Option Value} {base : Heap} {C f : Addr} {fd : FuncData} {q : Str} {a : Arguments} {sc : Scope}
theorem vis_of {N ps : List Str} (S : FnScope N ps sc) {x : Str} (h : x ∈ ps) : Vis sc x := by
  rcases S.par x h with e | e
  · exact .inl e
  · exact .inr (.inl e)
theorem told_ok {t : Str} {j : Nat} {p p2 : Pos} (F : FunD K "told" q a [.Return (some (.Constant (.str t) j p)) p2] sc [] [] f fd) (S : FnScope ["self"] ["self"] sc) :
    FnOk P w K mg base CX0 1 f fd ["self"] (spTold t) := by
  refine F.ok S (fun vs H Q E h => ?_) (fun cdv A outer s H vs Q E hr h => ⟨_, PSs.nox (pss_one (ps_ret pe_str)), ?_⟩)
  · obtain ⟨v, rfl, _⟩ := h
    rfl
  · obtain ⟨v, rfl, k⟩ := h
    exact k
theorem ini1_ok {fl : Str} {p1 p2 p3 p4 : Pos} (T : OexC K C) (no : PySem.W.findIn K (.ref C) fl = some none)
    (F : FunD K "__init__" q a [.Assign [.Attribute (.Name "self" p1) fl p2] (.Name fl p3) p4] sc [] [] f fd) (S : FnScope ["self", fl] ["self", fl] sc)
    (d1 : (fl == ("__debug__" : Str)) = false := by decide +kernel) (d2 : (fl == ("__classdict__" : Str)) = false := by decide +kernel) :
    FnOk P w K mg base CX0 1 f fd ["self", fl] (spIni1 C fl) := by
  refine F.ok S (fun vs H Q E h => ?_) (fun cdv A outer s H vs Q E hr h => ⟨_, PSs.nox (pss_one (ps_ost (pe_var (i := 0) rfl (vis_of S (by simp))) (pe_var (i := 1) rfl (vis_of S (by simp)) d1 d2))), ?_⟩)
  · obtain ⟨a, v, rfl, _⟩ := h
    rfl
  · obtain ⟨a, v, rfl, e, k⟩ := h
    exact ⟨_, rfl, _, rfl, a, C, rfl, T, no, .inl ⟨e, fun dx n ne => k dx n ne⟩⟩
theorem ini2_ok {fl gl : Str} {p1 p2 p3 p4 q1 q2 q3 q4 : Pos} (T : OexC K C) (no : PySem.W.findIn K (.ref C) fl = some none) (no2 : PySem.W.findIn K (.ref C) gl = some none)
    (F : FunD K "__init__" q a [.Assign [.Attribute (.Name "self" p1) fl p2] (.Name fl p3) p4, .Assign [.Attribute (.Name "self" q1) gl q2] (.Name gl q3) q4] sc [] [] f fd) (S : FnScope ["self", fl, gl] ["self", fl, gl] sc)
    (d1 : (fl == ("__debug__" : Str)) = false := by decide +kernel) (d2 : (fl == ("__classdict__" : Str)) = false := by decide +kernel)
    (d3 : (gl == ("__debug__" : Str)) = false := by decide +kernel) (d4 : (gl == ("__classdict__" : Str)) = false := by decide +kernel) :
    FnOk P w K mg base CX0 1 f fd ["self", fl, gl] (spIni2 C fl gl) := by
  refine F.ok S (fun vs H Q E h => ?_) (fun cdv A outer s H vs Q E hr h => ⟨_, PSs.nox (pss_cons (ps_ost (pe_var (i := 0) rfl (vis_of S (by simp))) (pe_var (i := 1) rfl (vis_of S (by simp)) d1 d2))
    (pss_one (ps_ost (pe_var (i := 0) rfl (vis_of S (by simp))) (pe_var (i := 2) rfl (vis_of S (by simp)) d3 d4)))), ?_⟩)
  · obtain ⟨a, v, u, rfl, _⟩ := h
    rfl
  · obtain ⟨a, v, u, rfl, e, k⟩ := h
    exact ⟨_, rfl, _, rfl, a, C, rfl, T, no, .inl ⟨e, fun dx n ne => ⟨_, rfl, _, rfl, a, C, rfl, T, no2, .inr ⟨dx, _, upd_same, by rw [upd_ne ne]; exact upd_same, (by show 1 ≤ 900; decide), k dx n ne⟩⟩⟩⟩
end

/-! ### an error class with all that is told of it -/
section
variable (P : Program) (w : World) (K : PySem.W.Frag) (mg : Str → Option Value) (base : Heap)
structure Tells (C : Addr) (t : Str) : Prop where
  ex : ∃ f fd, Meth K C "told" f ∧ FnOk P w K mg base CX0 1 f fd ["self"] (spTold t) ∧ Binds K fd ["self"] []
/-- the class x, made of one thing, its field -/
structure Err1 (x fl t : Str) : Prop where
  g : mg x = some (.ref (He.ga K x))
  c : ErrC K (He.ga K x)
  no : PySem.W.findIn K (.ref (He.ga K x)) fl = some none
  tl : Tells P w K mg base (He.ga K x) t
  ini : ∃ fI fd, PySem.W.findIn K (.ref (He.ga K x)) "__init__" = some (some (.ref fI)) ∧ PySem.W.typeIn K (.ref fI) = some (.type "function") ∧
    FnOk P w K mg base CX0 1 fI fd ["self", fl] (spIni1 (He.ga K x) fl) ∧ Binds K fd ["self", fl] []
structure Err2 (x fl gl t : Str) : Prop where
  g : mg x = some (.ref (He.ga K x))
  c : ErrC K (He.ga K x)
  no : PySem.W.findIn K (.ref (He.ga K x)) fl = some none
  no2 : PySem.W.findIn K (.ref (He.ga K x)) gl = some none
  tl : Tells P w K mg base (He.ga K x) t
  ini : ∃ fI fd, PySem.W.findIn K (.ref (He.ga K x)) "__init__" = some (some (.ref fI)) ∧ PySem.W.typeIn K (.ref fI) = some (.type "function") ∧
    FnOk P w K mg base CX0 1 fI fd ["self", fl, gl] (spIni2 (He.ga K x) fl gl) ∧ Binds K fd ["self", fl, gl] []
/-- made of nothing -/
structure Err0 (x t : Str) : Prop where
  g : mg x = some (.ref (He.ga K x))
  c : ErrC K (He.ga K x)
  ec : PySem.W.excIn K (He.ga K x) He.veBase "ValueError.__new__" = true
  tl : Tells P w K mg base (He.ga K x) t
end
section
variable {X : Cx} {x fl gl t : Str} {e e2 : Expr} {ta tb : TE} {p pos : Pos}
theorem pe_err1 (E : Err1 X.prog X.w X.K X.mg X.base x fl t) (hr : Room 2 X.A) (hg : Gl X x) (ha : PE X e ta) (hdb : (x == ("__debug__" : Str)) = false := by decide +kernel)
    (hs : starEach [e] X.env = (false, eval e X.env) :: starEach [] X.env := by rfl) :
    PE X (.Call (.Name x p) [e] [] pos) (fun σ H Q => ta σ H fun v H1 => ∀ a d H', H1 a = none → H1 d = none → Same H1 H' → XAt H' a (He.ga X.K x) (some d) → H' d = some (exd d [(fl, v)]) → Q (.ref a) H') := by
  obtain ⟨fI, fd, i1, i2, F, b⟩ := E.ini
  refine PE.imp (pe_new E.c.o i1 i2 F hr b pass0 hg E.g (pa_cons (PE.up ha) pa_nil hs) hdb hs rfl) fun σ H Q h => ?_
  refine ⟨_, h, fun v H1 k => ⟨(by show 1 ≤ 1000; decide), fun a na => ⟨a, v, rfl, upd_same, fun d nd ne => ?_⟩⟩⟩
  have nd1 : H1 d = none := by rw [upd_ne ne] at nd; exact nd
  refine ⟨rfl, k a d _ na nd1 (fun b o q => ?_) (.inl upd_same) (by rw [upd_ne ne]; exact upd_same)⟩
  rw [upd_ne (ne_of_none q na), upd_ne (ne_of_none q nd1), upd_ne (ne_of_none q na)]
  exact q
theorem pe_err2 (E : Err2 X.prog X.w X.K X.mg X.base x fl gl t) (hr : Room 2 X.A) (hg : Gl X x) (ha : PE X e ta) (hb : PE X e2 tb) (hdb : (x == ("__debug__" : Str)) = false := by decide +kernel)
    (hs : starEach [e, e2] X.env = (false, eval e X.env) :: starEach [e2] X.env := by rfl) (hs2 : starEach [e2] X.env = (false, eval e2 X.env) :: starEach [] X.env := by rfl)
    (hp : (backTo pos (starEach [e2] X.env)).any (·.1) = false := by rfl) :
    PE X (.Call (.Name x p) [e, e2] [] pos) (fun σ H Q => ta σ H fun v H0 => Lf.up tb σ H0 fun u H1 => ∀ a d H', H1 a = none → H1 d = none → Same H1 H' → XAt H' a (He.ga X.K x) (some d) → H' d = some (exd d [(gl, u), (fl, v)]) → Q (.ref a) H') := by
  obtain ⟨fI, fd, i1, i2, F, b⟩ := E.ini
  refine PE.imp (pe_new E.c.o i1 i2 F hr b pass0 hg E.g (pa_cons (PE.up ha) (pa_cons (PE.up hb) pa_nil hs2) hs) hdb hs hp) fun σ H Q h => ?_
  refine ⟨_, h, fun v H0 h2 => ?_⟩
  obtain ⟨Q0, h3, h4⟩ := h2
  refine ⟨Q0, h3, fun u H1 z => ?_⟩
  have k := h4 u H1 z
  refine ⟨(by show 2 ≤ 1000; decide), fun a na => ⟨a, v, u, rfl, upd_same, fun d nd ne => ?_⟩⟩
  have nd1 : H1 d = none := by rw [upd_ne ne] at nd; exact nd
  refine ⟨rfl, k a d _ na nd1 (fun b o q => ?_) (.inl (by rw [upd_ne ne.symm]; exact upd_same)) upd_same⟩
  rw [upd_ne (ne_of_none q nd1), upd_ne (ne_of_none q na), upd_ne (ne_of_none q nd1), upd_ne (ne_of_none q na)]
  exact q
theorem pe_err0 (E : Err0 X.prog X.w X.K X.mg X.base x t) (hg : Gl X x) (hdb : (x == ("__debug__" : Str)) = false := by decide +kernel) :
    PE X (.Call (.Name x p) [] [] pos) (fun _ H Q => ∀ a H', H a = none → Same H H' → XAt H' a (He.ga X.K x) none → Q (.ref a) H') :=
  PE.imp (pe_bare F.excBase_ValueError E.ec E.g E.c.o.kC hg hdb) fun σ H Q h a na => h a _ na (same_upd na) (.inr ⟨rfl, upd_same⟩)
end
end Lf

set_option Elab.async false
set_option linter.all false
set_option maxRecDepth 100000
set_option maxHeartbeats 4000000
/-! set(xs) of distinct texts, however many; how many there are. -/
namespace Lf
open PySem PySem.Spec PyProof.Rows L2
abbrev HasS (P : Program) (w : World) (h : Heap) (a : Addr) (xs : List Str) (i : Nat) : Prop := h.SetOf (PySem.strKind P w) a (fun y => (xs.take i).any (· == y)) i
theorem take_next {xs : List Str} (nd : xs.Nodup) {i : Nat} (hi : i < xs.length) :
    (xs.take i).any (· == xs.getD i Str.empty) = false ∧ ∀ y, ((xs.take i).any (· == y) || decide (y = xs.getD i Str.empty)) = (xs.take (i + 1)).any (· == y) := by
  have eg : xs.getD i Str.empty = xs[i] := by simp [List.getD, hi]
  rw [eg]
  have split : xs.take (i + 1) = xs.take i ++ [xs[i]] := by simp
  constructor
  · rw [List.any_eq_false]
    intro y hy hb
    have e : y = xs[i] := by simpa using hb
    subst e
    obtain ⟨j, hj, ej⟩ := List.mem_iff_getElem.mp hy
    rw [List.length_take] at hj
    have ej2 : xs[j] = xs[i] := by rw [← ej, List.getElem_take]
    have ji : j < i := by omega
    exact absurd ej2 (List.pairwise_iff_getElem.mp nd j i (by omega) hi ji)
  · intro y
    rw [split, List.any_append]
    congr 1
    by_cases e : y = xs[i]
    · subst e; simp
    · have q : (xs[i] == y) = false := beq_eq_false_iff_ne.mpr fun z => e z.symm
      simp [e, q]
section
variable {P : Program} {w : World} {A : Around} {R : Result → Shared → Prop} {It : Addr} {fp wr : List Addr} {G : Array GenState → Array GenState → Prop} {n : Nat} {Pv : Nat → Value → Prop} {Sv : Nat → Shared → Prop}
/-- the loop that fills a set: distinct texts -/
theorem fillS (W : WalksS P w A.in1 It fp wr G n Pv Sv) {a : Addr} (off : a ∉ fp) {xs : List Str} (nd : xs.Nodup) (len : xs.length = n) (few : n + 1 < scanBound)
    (read : ∀ i v, Pv i v → ∃ t, v = .str (xs.getD i Str.empty) t) : ∀ (m i : Nat) (s : Shared), i + m = n → Sv i s → HasS P w s.heap a xs i →
      (∀ s', Moved (a :: wr) G s s' → HasS P w s'.heap a xs n → R (.ok (.ret .none)) s') →
      codeAny (model P w) A (.builtin "set.update.loop" ⟨[.ref a, .ref It], []⟩) R s := by
  have offw : a ∉ wr := fun z => off (W.sub _ z)
  have keep : ∀ {s s' : Shared} {i : Nat}, Moved wr G s s' → HasS P w s.heap a xs i → HasS P w s'.heap a xs i := fun mv hs => by
    obtain ⟨o, es, ep, t, ho, r⟩ := hs
    exact ⟨o, es, ep, t, mv.heap a _ offw ho, r⟩
  intro m
  induction m with
  | zero =>
    intro i s e st hs fin
    obtain rfl : i = n := by omega
    refine codeAny_builtin PyProof.Rows.F.entry_set_update_loop ?_
    rw [Around.under_plainId PyProof.Rows.F.plain_set_update_loop _]
    show wpAny _ _ (pyNext (.ref It) >>= _) _ _ _
    exact wpAny_bind (W.done s _ _ st fun s' mv => wpAny_pure (fin s' (mv.mono fun b hb => List.mem_cons_of_mem _ hb) (keep mv hs)))
  | succ m ih =>
    intro i s e st hs fin
    have hi : i < n := by omega
    refine codeAny_builtin PyProof.Rows.F.entry_set_update_loop ?_
    rw [Around.under_plainId PyProof.Rows.F.plain_set_update_loop _]
    show wpAny _ _ (pyNext (.ref It) >>= _) _ _ _
    refine wpAny_bind (W.item i s _ _ hi st fun v s' pv st' mv => ?_)
    obtain ⟨t, rfl⟩ := read i v pv
    have hs' := keep mv hs
    obtain ⟨new, grow⟩ := take_next nd (show i < xs.length by omega)
    show wpAny _ _ (holding [Value.str _ t] (setAdd a (.str _ t)) >>= _) _ _ _
    refine wpAny_bind (wpAny_holding ?_)
    unfold setAdd
    refine wpAny_holding (wpAny_bind ((PySem.strKind P w).pyHash (strKind_is _ _ _ _) ?_))
    refine wpAny_setAddHashed_of (knd := PySem.strKind P w) (s := { s' with toks := s'.toks + 1 }) (strKind_is _ _ _ _) rfl hs' (by omega) fun h' sb hs2 => ?_
    have hs3 : HasS P w h' a xs (i + 1) := SetOf_congr hs2 grow (by show (if (xs.take i).any (· == xs.getD i Str.empty) = true then i else i + 1) = i + 1; rw [new]; rfl)
    refine wpAny_pure ⟨plainId_quiet PyProof.Rows.F.plain_set_update_loop _, ih (i + 1) _ (by omega) (W.frame _ s' _ _ st' (Nat.le_succ _) fun b hb o z => ?_) hs3 fun s2 mv2 q => fin s2 ?_ q⟩
    · rw [sb.2 b fun y => off (y ▸ hb)]
      exact z
    · refine Moved.trans W.gtrans ((mv.mono fun b hb => List.mem_cons_of_mem _ hb).then_heap (Nat.le_succ _) fun b o hb z => ?_) mv2
      rw [sb.2 b fun y => hb (by rw [y]; exact List.mem_cons_self)]
      exact z
end
/-- an empty set, newly laid -/
abbrev emptySet (led : Bool) : Obj := { cls := .type "set", dict := none, data := .set #[] 0 (.fresh 0 0 led) }
section
variable {P : Program} {w : World} {A : Around} {E : Value → Shared → Prop} {s : Shared} {l : Addr} {its : Array Value} {xs : List Str}
/-- what is wanted of it: a set at the next place, of these texts; all else as it was -/
abbrev SetMade (P : Program) (w : World) (s : Shared) (xs : List Str) (s' : Shared) : Prop :=
  ∃ h' tk, s' = { s with heap := h', toks := tk } ∧ HasS P w h' s.heap.objs.size xs xs.length ∧ ∀ b o, b < s.heap.objs.size → s.heap.get? b = some o → h'.get? b = some o
theorem setInit {led : Bool} {Q : Fin → Shared → Prop} (calm : A.handled = none) (hl : s.heap.IsList l its) (ht : StrsAre its.toList xs) (nd : xs.Nodup) (few : xs.length + 1 < scanBound)
    (h : ∀ s', SetMade P w s xs s' → Q (.done (.ret .none)) s') :
    wpAny (model P w) A (Builtin.«set.__init__» ⟨[.ref s.heap.objs.size, .ref l], []⟩) Q E { s with heap := s.heap.push (emptySet led) } := by
  obtain ⟨⟨oc, od, odt, osl⟩, hol, hcl, nl, hdl⟩ := hl
  dsimp only at hcl hdl
  subst hcl hdl
  have hS : (s.heap.push (emptySet led)).get? s.heap.objs.size = some (emptySet led) := Heap.get?_push_size _ rfl
  have hT : Shared.TypeIs { s with heap := s.heap.push (emptySet led) } (.ref s.heap.objs.size) "set" := ⟨_, hS, rfl⟩
  have hol' : (s.heap.push (emptySet led)).get? l = some { cls := .type "list", dict := od, data := .seq its nl, slots := osl } := Heap.get?_push_of_some _ hol
  have f1 := F.sub_list_set
  have f2 := F.sub_list_frozenset
  have f3 : (Value.type "list" == Value.type "dict") = false := by decide
  have hl1 : (s.heap.push (emptySet led)).IsList l its := ⟨_, hol', rfl, nl, rfl⟩
  unfold Builtin.«set.__init__» noKeywords Builtin.Frozenset.updateFrom
  generalize hPI : pyIter = PI
  wp_walk
  subst hPI
  refine wpAny_pyIter_list hl1 (wpAny_bind (wpAny_runValue ?_))
  have lS : l < s.heap.objs.size := Heap.lt_size hol
  have calm3 : A.in1.handled = none := by simp [calm]
  have nI : l ≠ (s.heap.push (emptySet led)).objs.size := by
    rw [Heap.size_push]
    exact Nat.ne_of_lt (Nat.lt_succ_of_lt lS)
  have off : s.heap.objs.size ∉ [(s.heap.push (emptySet led)).objs.size, l] := by
    rw [Heap.size_push]
    simp only [List.mem_cons, List.not_mem_nil, or_false, not_or]
    exact ⟨Nat.ne_of_lt (Nat.lt_succ_self _), Nat.ne_of_gt lS⟩
  have sz : xs.length = its.size := by rw [← StrsAre.len_eq ht, Array.length_toList]
  refine fillS ((Walks.list calm3 _ l nI its).toS) off nd sz (by omega) (fun i v hv => SS.strs_at ht i v (by rw [Array.getElem?_toList]; exact hv)) its.size 0 _ (Nat.zero_add _) ?_ ?_ fun s' mv q => ?_
  · exact ⟨⟨_, Heap.get?_push_size _ rfl, rfl, rfl⟩, hl1.push _⟩
  · exact SetOf_congr ((setObjOf_fresh (knd := PySem.strKind P w) led).setOf (Heap.get?_push_of_some _ hS) (by unfold scanBound; omega)) (fun _ => rfl) rfl
  · obtain ⟨h', g', d', tk', os'⟩ := s'
    obtain rfl : g' = s.gens := mv.gens
    obtain rfl : d' = s.drawn := mv.drawn
    obtain rfl : os' = s.os := mv.os
    show wpAny _ _ _ _ _ _
    refine wpAny_pure ?_
    show wpAny _ _ (ret Value.none) _ _ _
    refine wpAny_pure (h _ ⟨h', tk', rfl, by rw [sz]; exact q, fun b o hb z => mv.heap b o ?_ (Heap.get?_push_of_some _ (Heap.get?_push_of_some _ z))⟩)
    simp only [List.mem_cons, List.not_mem_nil, or_false, not_or]
    rw [Heap.size_push]
    exact ⟨Nat.ne_of_lt hb, Nat.ne_of_lt (Nat.lt_succ_of_lt hb)⟩
theorem setOfTexts {Q : Value → Shared → Prop} (calm : A.handled = none) (hl : s.heap.IsList l its) (ht : StrsAre its.toList xs) (nd : xs.Nodup) (few : xs.length + 1 < scanBound)
    (h : ∀ s', SetMade P w s xs s' → Q (.ref s.heap.objs.size) s') : wpAny (model P w) A (call (.type "set") [.ref l]) Q E s := by
  obtain ⟨c, tl, mro⟩ := F.called_set.mro
  have g1 := F.called_set.made
  have g2 := F.called_set.sub
  refine wpAny_call (codeAny_of_tree ?_)
  show wpAny _ _ (callAny (.type "set") _) _ _ _
  refine wpAny_pure ⟨Code.quiet_builtin _ (by decide +kernel), codeAny_builtin F.entry_type_call ?_⟩
  rw [Around.under_plain (weight_type_call_type "set" [.ref l] []) rfl]
  have g3 := F.called_set.notType
  have g4 := F.called_set.canCreate
  have g5 := F.typeCall_set_1 (.ref l)
  repeat (any_goals (first | assumption | wp_step))
  refine codeAny_mono (code_set_new_1 (.ref l) (E := E) (Q₁ := fun o s1 => ∃ led : Bool, o = .ref s.heap.objs.size ∧ s1 = { s with heap := s.heap.push (emptySet led) }) fun led => ⟨led, rfl, rfl⟩) fun r s1 hr => ?_
  cases r with
  | error e => exact hr
  | ok fl =>
    cases fl with
    | ret o =>
      obtain ⟨led, rfl, rfl⟩ := hr
      have hT : Shared.TypeIs { s with heap := s.heap.push (emptySet led) } (.ref s.heap.objs.size) "set" := ⟨_, Heap.get?_push_size _ rfl, rfl⟩
      have g6 := F.called_set.init.lookup
      have g7 := F.called_set.init.bind (.ref s.heap.objs.size)
      repeat (any_goals (first | assumption | wp_step))
      refine codeAny_mono (codeAny_call_builtin (R := wants (fun r s2 => r = .none ∧ SetMade P w s xs s2) E) F.called_set.init.plain F.entry_set_init (check_set_init_1 hT (setInit (by simp [calm]) hl ht nd few fun s2 q => ⟨rfl, q⟩))) fun r2 s2 hr2 => ?_
      cases r2 with
      | error e => exact hr2
      | ok f2 =>
        cases f2 with
        | ret v =>
          obtain ⟨rfl, q⟩ := hr2
          repeat (any_goals (first | assumption | wp_step))
          exact h _ q
        | _ => exact hr2.elim
    | _ => exact hr.elim
end
/-- len(set(xs)), xs a list of distinct texts -/
def tCount (K : PySem.W.Frag) (ta : TE) : TE := fun σ H Q => ta σ H fun x H1 => ∃ (l : Addr) (xs : List Str), x = .ref l ∧ SqL K H1 l (xs.map V.str) ∧ xs.Nodup ∧ xs.length ≤ 4000 ∧ Q (.int xs.length) H1
theorem pe_count {X : Cx} {a : Expr} {ta : TE} {p p2 q pos : Pos} (hc : X.calm = true) (hg : Gl X "len") (hm : X.mg "len" = none) (hg2 : Gl X "set") (hm2 : X.mg "set" = none) (ha : PE X a ta)
    (na : starEach [a] X.env = (false, eval a X.env) :: starEach [] X.env := by rfl) : PE X (.Call (.Name "len" p) [.Call (.Name "set" p2) [a] [] q] [] pos) (tCount X.K ta) := by
  refine ⟨fun pins s σ H Q I h => ?_⟩
  refine Call_ (ld_blt I hg hm boot_len (PyProof.Rows.callWith_builtin1 (PyProof.Rows.args_cons ?_ rfl) rfl rfl))
  refine Call_ (ld_blt I hg2 hm2 boot_set (PyProof.Rows.callWith_type1 (PyProof.Rows.args_cons (thn (ha.run pins s σ H _ I h) fun v s1 hh => PyProof.Rows.args_nil ?_) na) na rfl))
  obtain ⟨x, H1, I1, r1, l, xs, rfl, hq, nd, few, q1⟩ := hh
  cases r1
  obtain ⟨its, r, pl, hz⟩ := I1.list hq
  refine setOfTexts (I1.ok.hd hc) pl.isList (by simpa using strsAre_of r) nd (by unfold scanBound; omega) fun s' hs => PyProof.Rows.args_nil ?_
  obtain ⟨h', tk, rfl, ⟨o, es, ep, t, ho, hex, hd, _, _, _, hf, hn⟩, hk⟩ := hs
  have I2 : Inv X pins σ H1 { s1 with heap := h', toks := tk } := I1.kept fun b o z => hk b o (Heap.lt_size z) z
  exact call_len_set ho hex hd hf (by rw [hn]; omega) ⟨.int xs.length, H1, I2.tok _, ⟨_, by rw [hn]⟩, q1⟩
/-- xs + ys, lists that are read -/
def rCatL (K : PySem.W.Frag) : R2 := fun x y H Q => ∃ l b xs zs, x = .ref l ∧ y = .ref b ∧ SqL K H l xs ∧ SqL K H b zs ∧ xs.length + zs.length ≤ sizeLine ∧ ∀ p, H p = none → Q (.ref p) (upd H p (.lst (xs ++ zs)))
theorem op_catL {X : Cx} : OpR X (binaryOp .Add) (rCatL X.K) := by
  intro pins s σ H x y v u Q I rx ry h
  obtain ⟨l, b, xs, zs, rfl, rfl, h1, h2, hz, q⟩ := h
  cases rx
  cases ry
  obtain ⟨is, r1, ⟨⟨c1, d1, t1, s1⟩, n1, e1, k1, _, m1⟩, _⟩ := I.list h1
  obtain ⟨js, r2, ⟨⟨c2, d2, t2, s2⟩, n2, e2, k2, _, m2⟩, _⟩ := I.list h2
  dsimp only at k1 m1 k2 m2
  subst k1 m1 k2 m2
  have l1 := r1.length
  have l2 := r2.length
  refine concat_meets ⟨_, e1, rfl⟩ ⟨_, e2, rfl⟩ noFill_list_add seq_list_add F.slot_list_add F.entry_list_add (F.args_list_add_2 _ _)
    (list_addW l b is.toArray js.toArray n1 n2 d1 d2 s1 s2 (by simp only [List.size_toArray]; omega)) ⟨e1, e2, ?_⟩
  have ea : is.toArray ++ js.toArray = (is ++ js).toArray := by simp
  rw [ea]
  exact ⟨.ref _, _, I.lnew (t' := s.toks) (r1.append r2) (by rw [List.length_append]; omega), rfl, q _ I.fresh⟩
end Lf

set_option Elab.async false
set_option linter.all false
set_option maxRecDepth 100000
set_option maxHeartbeats 4000000
/-! Heaps that grow; data. -/
namespace Lf
open PySem PySem.Spec PyProof.Rows L2
/-- all but lists stay -/
def Solid (H H' : Hp) : Prop := ∀ b o, H b = some o → (∀ xs, o ≠ .lst xs) → H' b = some o
theorem Solid.refl (H : Hp) : Solid H H := fun _ _ h _ => h
theorem Solid.trans {H H1 H2 : Hp} (a : Solid H H1) (b : Solid H1 H2) : Solid H H2 := fun c o h n => b c o (a c o h n) n
theorem Solid.of {H H' : Hp} (e : Same H H') : Solid H H' := fun b o h _ => e b o h
theorem Solid.lst {H : Hp} {l : Addr} {xs ys : List V} (h : H l = some (.lst xs)) : Solid H (upd H l (.lst ys)) := fun b o e n => by
  rw [upd_ne (fun z => by rw [z, h] at e; cases e; exact n xs rfl)]
  exact e
theorem exo_nl {a C : Addr} {d : Option Addr} (xs : List V) : exo a C d ≠ .lst xs := fun z => by
  have z' : HO.ext _ = HO.lst xs := z
  cases z'
theorem exO_nl {a : Addr} {c : Value} (xs : List V) : ExO c a ≠ .lst xs := fun z => by
  have z' : HO.ext _ = HO.lst xs := z
  cases z'
theorem exd_nl {a : Addr} {fs : List (Str × V)} (xs : List V) : exd a fs ≠ .lst xs := fun z => by
  have z' : HO.ext _ = HO.lst xs := z
  cases z'
theorem XAt.solid {H H' : Hp} {a C : Addr} {d : Option Addr} (h : XAt H a C d) (s : Solid H H') : XAt H' a C d := by
  rcases h with h | ⟨e, h⟩
  · exact .inl (s _ _ h exo_nl)
  · exact .inr ⟨e, s _ _ h exO_nl⟩
/-- all but the thing at l stay -/
def But (l : Addr) (H H' : Hp) : Prop := ∀ b o, b ≠ l → H b = some o → H' b = some o
theorem But.refl {l : Addr} {H : Hp} : But l H H := fun _ _ _ h => h
theorem But.trans {l : Addr} {H H1 H2 : Hp} (a : But l H H1) (b : But l H1 H2) : But l H H2 := fun c o n h => b c o n (a c o n h)
theorem But.of {l : Addr} {H H' : Hp} (e : Same H H') : But l H H' := fun b o _ h => e b o h
theorem But.upd {l : Addr} {H : Hp} {o : HO} : But l H (upd H l o) := fun b u n h => by rw [upd_ne n]; exact h
theorem Same.but {l : Addr} {H0 H H' : Hp} (s : Same H0 H) (n : H0 l = none) (b : But l H H') : Same H0 H' := fun c o h => b c o (ne_of_none h n) (s c o h)
theorem SqT.same {K : PySem.W.Frag} {H H' : Hp} {a : Addr} {xs : List V} (e : Same H H') (h : SqT K H a xs) : SqT K H' a xs := by
  rcases h with (h | ⟨o, h⟩) | h
  · exact .inl (.inl (e _ _ h))
  · exact .inl (.inr ⟨o, e _ _ h⟩)
  · exact .inr h
theorem But.solid {l : Addr} {H H' : Hp} {xs : List V} (h : H l = some (.lst xs)) (b : But l H H') : Solid H H' := fun c o e n => b c o (fun z => by rw [z, h] at e; cases e; exact n xs rfl) e
theorem ifT {c : Bool} {A B : Prop} (hc : c = true) (h : A) : if c = true then A else B := by
  rw [if_pos hc]
  exact h
theorem ifF {c : Bool} {A B : Prop} (hc : c = false) (h : B) : if c = true then A else B := by
  rw [hc, if_neg Bool.false_ne_true]
  exact h
theorem pair_get {α β : Type} {F : α → β → Prop} : ∀ {as : List α} {bs : List β} {i : Nat} {a : α}, Paired F as bs → as[i]? = some a → ∃ b, bs[i]? = some b ∧ F a b
  | _, _, _, _, .nil, e => by simp at e
  | _, _, 0, _, .cons r _, e => by simp at e; subst e; exact ⟨_, rfl, r⟩
  | _, _, i + 1, a, .cons _ t, e => by
    obtain ⟨b, h1, h2⟩ := pair_get (i := i) (a := a) t (by simpa using e)
    exact ⟨b, by simpa using h1, h2⟩
theorem take_snoc {α : Type} {l : List α} {i : Nat} {x : α} (h : l[i]? = some x) : l.take (i + 1) = l.take i ++ [x] := by
  obtain ⟨hi, e⟩ := List.getElem?_eq_some_iff.mp h
  rw [← e]
  simp
theorem map_at {α : Type} {f : α → V} {l : List α} {i : Nat} {y : V} (h : (l.map f)[i]? = some y) : ∃ a, l[i]? = some a ∧ y = f a := by
  rw [List.getElem?_map] at h
  cases e : l[i]? with
  | none => rw [e] at h; cases h
  | some a => rw [e] at h; exact ⟨a, rfl, (Option.some.inj h).symm⟩
theorem eqv_same {d : PyData} (h : SeqAt.shaped d = true) : (!PyData.eqv d d) = false := by
  rw [SeqAt.eqv_refl d (SeqAt.canLay_of_shaped h)]
  rfl
mutual
theorem dp_same {K : PySem.W.Frag} {H H' : Hp} (e : Same H H') : ∀ {v : V} {d : PyData}, Dp K H v d → Dp K H' v d
  | _, _, .non => .non
  | _, _, .bl b => .bl b
  | _, _, .int i => .int i
  | _, _, .str x => .str x
  | _, _, .lst h r => .lst (L2.Same.seq e h) (dpAll_same e r)
  | _, _, .tup h r => .tup (SqT.same e h) (dpAll_same e r)
theorem dpAll_same {K : PySem.W.Frag} {H H' : Hp} (e : Same H H') : ∀ {vs : List V} {ds : List PyData}, DpAll K H vs ds → DpAll K H' vs ds
  | _, _, .nil => .nil
  | _, _, .cons h r => .cons (dp_same e h) (dpAll_same e r)
end
end Lf

set_option Elab.async false
set_option linter.all false
set_option maxRecDepth 100000
set_option maxHeartbeats 4000000
/-! for i, x in enumerate(t), t a tuple. -/
namespace Lf
open PySem PySem.Spec PyProof.Rows L2
set_option maxHeartbeats 8000000 in
theorem new_enum {v : Value} {o : Obj} {G : Heap → Prop} (B : Begins v o G) :
    Meets (Builtin.«enumerate.__new__» ⟨[.type "enumerate", v], []⟩) (fun _ R s => G s.heap ∧
      R (.ok (.ret (.ref (s.heap.push o).objs.size)))
        { s with heap := (s.heap.push o).push { cls := .type "enumerate", data := .fields #[.none, .bool false, .ref s.heap.objs.size, rawInt 0, .none, .none] } }) :=
  .of_wp fun prog w A R s hh => by
    obtain ⟨hp, g, d, tk, os⟩ := s
    obtain ⟨hg, fin⟩ := hh
    have sub := sub_enumerate
    have go : ∀ {A' : Around} {E' : Value → Shared → Prop} {Q' : Value → Shared → Prop}, Q' (.ref hp.objs.size) ⟨hp.push o, g, d, tk, os⟩ → wpAny (model prog w) A' (pyIter v) Q' E' ⟨hp, g, d, tk, os⟩ := fun q =>
      B.iter prog w _ _ ⟨hp, g, d, tk, os⟩ _ hg q
    wp_walk using go
    refine wpAny_stack_any fun st => wpAny_pure ?_
    split
    · rename_i c _ _ _ _ _
      cases (c == Value.type "enumerate") <;> (wp_walk using go; exact ⟨_, rfl, fin⟩)
    · wp_walk using go
      exact ⟨_, rfl, fin⟩
theorem call_enum {prog : Program} {w : World} {A : Around} {E : Value → Shared → Prop} {s : Shared} {v : Value} {o : Obj} {G : Heap → Prop} {Q : Value → Shared → Prop} (B : Begins v o G) (hg : G s.heap)
    (h : ∀ h', IsEnum h' (s.heap.objs.size + 1) s.heap.objs.size 0 .none → h'.get? s.heap.objs.size = some o → (∀ b u, s.heap.get? b = some u → h'.get? b = some u) → Q (.ref (s.heap.objs.size + 1)) { s with heap := h' }) :
    wpAny (model prog w) A (call (.type "enumerate") [v]) Q E s := by
  refine callType_new F.called_enumerate (by decide) (F.typeCall_enumerate_1 _) (F.newCall_enumerate_1 _) (fun x => F.args_object_init_2 x _) F.entry_enumerate_new (new_enum B) ⟨hg, ?_⟩
  have sz : (s.heap.push o).objs.size = s.heap.objs.size + 1 := Heap.size_push ..
  show _ ∧ _
  rw [sz]
  let e : Obj := { cls := .type "enumerate", data := .fields #[.none, .bool false, .ref s.heap.objs.size, rawInt 0, .none, .none] }
  have he : IsEnum ((s.heap.push o).push e) (s.heap.objs.size + 1) s.heap.objs.size 0 .none := by
    have z := Heap.get?_push_size (s.heap.push o) (o := e) rfl
    rw [sz] at z
    exact z
  exact ⟨⟨_, he, rfl⟩, h _ he (Heap.get?_push_of_some _ (Heap.get?_push_size _ B.free)) fun b u z => Heap.get?_push_of_some _ (Heap.get?_push_of_some _ z)⟩
/-- the tuple at a as it stands, its items in new pairs with their places -/
def Itet (K : PySem.W.Frag) (a : Addr) : It :=
  ⟨fun i H => ∃ (xs : List V) (x : V), SqT K H a xs ∧ xs[i]? = some x,
    fun i H v H' => ∃ T x, v = .ref T ∧ H T = none ∧ H' = upd H T (.tup [.int (i : Nat), x]) ∧ ∀ xs, SqT K H a xs → xs[i]? = some x,
    fun i H => ∃ xs : List V, SqT K H a xs ∧ xs.length = i⟩
theorem turn_enumT {P : Program} {w : World} {K : PySem.W.Frag} {elts : List Expr} {kk : Nat} {tpos : Pos} (a e it : Addr) :
    Turn P w K (.Tuple elts kk tpos) (Itet K a) [e, it] e (fun i h => (∃ old, IsEnum h e it ((i : Nat) : Int) old) ∧ h.IsTupleIter it a i ∧ e ≠ it ∧ a ≠ it ∧ a ≠ e) where
  mem := List.mem_cons_self
  obj := fun i h st b hb => by
    obtain ⟨⟨old, he⟩, ⟨o, ho, hc, hd⟩, _⟩ := st
    simp only [List.mem_cons, List.not_mem_nil, or_false] at hb
    rcases hb with rfl | rfl
    · exact ⟨_, he, fun v q => nomatch q⟩
    · exact ⟨o, ho, fun v q => by rw [hd] at q; cases q⟩
  keep := fun i h h' st k => by
    obtain ⟨⟨old, he⟩, hi, ne⟩ := st
    exact ⟨⟨old, k e (by simp) _ he⟩, hi.at fun o q => k it (by simp) o q, ne⟩
  item := by
    intro X hP hw hK hc i pins s σ H E I hf st hg
    subst hP hw hK
    obtain ⟨⟨old, he⟩, hit, ne, na, nae⟩ := st
    obtain ⟨xs, x, hq, hx⟩ := hg
    obtain ⟨its, rv, p, hz⟩ := I.tuple hq
    obtain ⟨u, hu, ru⟩ := rv.get hx
    have el : e < s.heap.objs.size := Heap.lt_size he
    have il : it < s.heap.objs.size := by obtain ⟨_, q, _⟩ := hit; exact Heap.lt_size q
    have calm : X.A.in1.handled = none := by have := I.ok.hd hc; simp [this]
    have hlt : i < its.toArray.size := by rw [List.size_toArray, ← rv.length]; exact (List.getElem?_eq_some_iff.mp hx).1
    refine wpAny_pyNext_enum_itemD (Draws.tuple (prog := X.prog) (w := X.w) calm it a na its.toArray) he ⟨hit, p⟩ hlt ne (by simp only [List.mem_cons, List.not_mem_nil, or_false, not_or]; exact ⟨ne, Ne.symm nae⟩) fun y h' tk hy ho st' hT hsz hk => ?_
    have ey : y = u := by
      have h1 : its[i]? = some y := by simpa using hy
      rw [hu] at h1
      exact (Option.some.inj h1).symm
    subst ey
    refine ⟨_, rfl, wpAny_letOwnedTupleGo_enum (s := { s with heap := h', toks := tk + 1 }) ho fun h'' he' sb => ?_⟩
    have hT2 := (sb.2 _ (Nat.ne_of_gt el)).trans hT
    have new : ObjOk X.prog X.w (upd H s.heap.objs.size (.tup [.int (i : Nat), x])) h'' s.heap.objs.size (.tup [.int (i : Nat), x]) :=
      ⟨by show 2 ≤ sizeLine; decide, [.int i tk, y], .cons ⟨_, rfl⟩ (.cons ru .nil), ⟨_, hT2, rfl, _, rfl⟩⟩
    have off : ∀ b, b ∉ [e, it] → b ≠ e ∧ b ≠ it := fun b hb => by
      simp only [List.mem_cons, List.not_mem_nil, or_false, not_or] at hb
      exact hb
    have I1 : Inv X pins σ (upd H s.heap.objs.size (.tup [.int (i : Nat), x])) { s with heap := h'', toks := tk + 1 } :=
      I.turnedNew (ch := [e, it]) (fun b ob hb q => (sb.2 b (off b hb).1).trans (hk b ob (off b hb).1 (off b hb).2 q)) hf (Nat.le_refl _) new
    refine ⟨.ref s.heap.objs.size, _, I1, rfl, ⟨_, x, rfl, I.hok.fresh (Nat.le_refl _), rfl, fun ys hy => by rw [I.tuple_inj hy hq]; exact hx⟩, ⟨⟨y, ?_⟩, st'.1.at fun o q => (sb.2 it (Ne.symm ne)).trans q, ne, na, nae⟩, fun b hb => ?_⟩
    · have z : ((i + 1 : Nat) : Int) = (i : Int) + 1 := by omega
      rw [z]
      exact he'
    · have lt : b < s.heap.objs.size := by
        simp only [List.mem_cons, List.not_mem_nil, or_false] at hb
        rcases hb with rfl | rfl
        · exact el
        · exact il
      rw [upd_ne (Nat.ne_of_lt lt)]
      exact (hf b hb).1
  done := by
    intro X hP hw hK hc i pins s σ H E I hf st hg
    subst hP hw hK
    obtain ⟨⟨old, he⟩, hit, ne, na, nae⟩ := st
    obtain ⟨xs, hq, hx⟩ := hg
    obtain ⟨its, rv, p, hz⟩ := I.tuple hq
    obtain ⟨f0, f1, f2, f3, f4, f5⟩ := hf it (by simp)
    have calm : X.A.in1.handled = none := by have := I.ok.hd hc; simp [this]
    have en : its.toArray.size = i := by rw [List.size_toArray, ← rv.length, hx]
    exact wpAny_pyNext_enum_endD (Draws.tuple (prog := X.prog) (w := X.w) calm it a na its.toArray) he (by rw [en]; exact ⟨hit, p⟩) fun h' eb => ⟨rfl, I.turned (t' := s.toks) (fun b o hb q => eb b o hb q) f0 f1 f3 f4 f5⟩
  self := fun A i s Q E st h => by
    obtain ⟨⟨_, he⟩, _⟩ := st
    exact wpAny_pyIter_enum he h
/-- enumerate(x), x a list or a tuple -/
def iEnumA (K : PySem.W.Frag) (ta : TE) : TI := fun σ H R => ta σ H fun x H1 => ∃ a xs, x = .ref a ∧ ((SqL K H1 a xs ∧ R (Ite K a) H1) ∨ (SqT K H1 a xs ∧ R (Itet K a) H1))
theorem pi_enumA {X : Cx} {e : Expr} {ta : TE} {p pos tpos : Pos} {elts : List Expr} {kk : Nat} (hg : Gl X "enumerate") (hm : X.mg "enumerate" = none) (ha : PE X e ta)
    (hs : starEach [e] X.env = [(false, eval e X.env)] := by rfl) : PI X (.Tuple elts kk tpos) (.Call (.Name "enumerate" p) [e] [] pos) (iEnumA X.K ta) := by
  refine ⟨fun pins s σ H R I h => ?_⟩
  refine Call_ (ld_blt I hg hm boot_enumerate (PyProof.Rows.callWith_type1 (thn ((pa_cons (PE.up ha) pa_nil hs).run pos pins s σ H (fun vs H1 => ∃ x, vs = [x] ∧ ∃ a xs, x = .ref a ∧ ((SqL X.K H1 a xs ∧ R (Ite X.K a) H1) ∨ (SqT X.K H1 a xs ∧ R (Itet X.K a) H1))) I ?_) fun us s1 hh => ?_) hs rfl))
  · exact ⟨_, h, fun v H' z => ⟨v, rfl, z⟩⟩
  obtain ⟨vs, H1, I1, r1, x, rfl, a, xs, rfl, q1⟩ := hh
  cases r1 with
  | cons r rr =>
    cases rr
    cases r
    have fp : ∀ b ∈ [s1.heap.objs.size + 1, s1.heap.objs.size], s1.heap.objs.size ≤ b := fun b hb => by
      simp only [List.mem_cons, List.not_mem_nil, or_false] at hb
      rcases hb with rfl | rfl
      · exact Nat.le_add_right _ _
      · exact Nat.le_refl _
    rcases q1 with ⟨hq, q⟩ | ⟨hq, q⟩
    · obtain ⟨its, rv, p', hz⟩ := I1.list hq
      refine call_enum (begins_list a its.toArray) p'.isList fun h' he hit hk => wpAny_pyIter_enum he ?_
      exact ⟨s1.heap.objs.size + 1, [s1.heap.objs.size + 1, s1.heap.objs.size], _, _, H1, rfl, I1.kept (t' := s1.toks) hk, turn_enum a (s1.heap.objs.size + 1) s1.heap.objs.size,
        ⟨⟨.none, he⟩, ⟨_, hit, rfl, rfl⟩, Nat.succ_ne_self _⟩, fun b hb => I1.fpOk (fp b hb) (I1.hok.fresh (fp b hb)), q⟩
    · obtain ⟨its, rv, p', hz⟩ := I1.tuple hq
      have al : a < s1.heap.objs.size := p'.lt
      refine call_enum (begins_tuple a its.toArray) p' fun h' he hit hk => wpAny_pyIter_enum he ?_
      exact ⟨s1.heap.objs.size + 1, [s1.heap.objs.size + 1, s1.heap.objs.size], _, _, H1, rfl, I1.kept (t' := s1.toks) hk, turn_enumT a (s1.heap.objs.size + 1) s1.heap.objs.size,
        ⟨⟨.none, he⟩, ⟨_, hit, rfl, rfl⟩, Nat.succ_ne_self _, Nat.ne_of_lt al, Nat.ne_of_lt (Nat.lt_succ_of_lt al)⟩, fun b hb => I1.fpOk (fp b hb) (I1.hok.fresh (fp b hb)), q⟩
/-- it gives each item of xs in a new pair with its place -/
theorem walk_enumT {K : PySem.W.Frag} {a : Addr} {xs : List V} : Walk (Itet K a) xs.length (fun H => SqT K H a xs)
    (fun i H v H' => ∃ T x, v = .ref T ∧ H T = none ∧ H' = upd H T (.tup [.int (i : Nat), x]) ∧ xs[i]? = some x) where
  goes := fun i H hi g => ⟨xs, _, g, List.getElem?_eq_getElem hi⟩
  stops := fun H g => ⟨xs, g, rfl⟩
  yields := fun i H x H' _ g y => by
    obtain ⟨T, z, e, n, eh, f⟩ := y
    exact ⟨T, z, e, n, eh, f xs g⟩
theorem walk_enumL {K : PySem.W.Frag} {a : Addr} {xs : List V} : Walk (Ite K a) xs.length (fun H => SqL K H a xs)
    (fun i H v H' => ∃ T x, v = .ref T ∧ H T = none ∧ H' = upd H T (.tup [.int (i : Nat), x]) ∧ xs[i]? = some x) where
  goes := fun i H hi g => ⟨xs, _, g, List.getElem?_eq_getElem hi⟩
  stops := fun H g => ⟨xs, g, Nat.le_refl _⟩
  yields := fun i H x H' _ g y => by
    obtain ⟨T, z, e, n, eh, f⟩ := y
    exact ⟨T, z, e, n, eh, f xs g⟩
end Lf

set_option Elab.async false
set_option linter.all false
set_option maxRecDepth 100000
set_option maxHeartbeats 8000000
/-! A binary operator by an own method, the other operand of any type; != by an own __eq__. -/
namespace Lf
open PySem PySem.Spec PyProof.Rows L2
section
open PySem.W
variable {prog : Program} {w : World} {A : Around} {E : Value → Shared → Prop} {s : Shared} {K : Frag} {x C L f : Addr} {h₀ : Heap} {m : Str → Option Value} {ox : Obj} {od : Option Obj}
/-- what is to be known of the other operand's type -/
structure Side (K : Frag) (C : Addr) (nm : String) (tb : Value) (right py : Bool) : Prop where
  ne : (Value.ref C == tb) = false
  fills : ∀ (M : Model) (h : Heap), K.In h → Looks M h (fillsNumberSlot tb nm) right
  sub : subIn K tb (.ref C) = some false
  inPy : right = true → ∀ (M : Model) (h : Heap), K.In h → Looks M h (numberSlotInPython tb nm) py
  refl : right = true → py = false → ∃ ro, findIn K tb (dunderR nm) = some ro
theorem bin_other {op : Operator} {b tb : Value} {rc : Option Value} {right py : Bool} {Q : Value → Shared → Prop} (F : Fr h₀ L s.heap m) (X₀ : K.In h₀) (I : InstAt s.heap x ox C od) (hc : selfFirst K C = true)
    (hs : findIn K (.ref C) (PySem.dunder op.info.2) = some (some (.ref f))) (hf : isFn K (.ref f) = true) (hr : findIn K (.ref C) (dunderR op.info.2) = some rc) (hp : rc = none ∨ ∃ g : Addr, rc = some (.ref g))
    (Lb : Looks (model prog w) s.heap (typeOf b) tb) (S : Side K C op.info.2 tb right py)
    (h : wpAny (model prog w) A (call (.ref f) [.ref x, b]) (PySem.W.CmpBack Q) E s) : wpAny (model prog w) A (binaryOp op (.ref x) b) Q E s := by
  have X := X₀.keeps F.keep
  obtain ⟨cd, rest, hcd, hm⟩ := ksp_first hc
  rcases hi : op.info with ⟨sym, nm'⟩
  rw [hi] at hs hr S
  dsimp only at hs hr S
  have one := ksp_try X I hs hf h
  obtain ⟨hh, g, d, tt, os⟩ := s
  have L1 : Looks (model prog w) hh (typeOf (.ref x)) (.ref C) := I.type
  have L3 : Looks (model prog w) hh (fillsNumberSlot (.ref C) nm') true := fills_K X hcd hm hs
  have L4 := S.fills (model prog w) hh X
  have L5 : Looks (model prog w) hh (isSubtype tb (.ref C)) false := looks_subIn X S.sub
  have L6 : Looks (model prog w) hh (numberSlotInPython (.ref C) nm') true := ksp_inPy X hs hr hp
  have hne := S.ne
  simp only [binaryOp, hi]
  refine wpAny_holding (wpAny_bind ?_)
  unfold binaryOp1
  refine wpAny_bind (L1.at (wpAny_bind (Lb.at (wpAny_bind (L3.at ?_)))))
  simp only [hne, Bool.false_eq_true, if_false]
  cases right with
  | false =>
    ksp_lk
    refine wpAny_mono one (fun r s' hr' => ?_) fun _ _ e => e
    obtain ⟨v, rfl, hq⟩ := hr'
    ksp_lk
    exact hq
  | true =>
    have L7 := S.inPy rfl (model prog w) hh X
    cases py with
    | true =>
      ksp_lk
      refine wpAny_mono one (fun r s' hr' => ?_) fun _ _ e => e
      obtain ⟨v, rfl, hq⟩ := hr'
      ksp_lk
      exact hq
    | false =>
      obtain ⟨ro, hro⟩ := S.refl rfl rfl
      have L8 : Looks (model prog w) hh (typeLookup tb (dunderR nm')) ro := looks_findIn X hro
      ksp_lk
      refine wpAny_mono one (fun r s' hr' => ?_) fun _ _ e => e
      obtain ⟨v, rfl, hq⟩ := hr'
      ksp_lk
      exact hq
end

/-- what is known of a class C with a method of its own for op -/
structure OwnOp (K : PySem.W.Frag) (C : Addr) (nm : String) (f : Addr) : Prop where
  first : PySem.W.selfFirst K C = true
  find : PySem.W.findIn K (.ref C) (PySem.dunder nm) = some (some (.ref f))
  fn : PySem.W.isFn K (.ref f) = true
  refl : PySem.W.findIn K (.ref C) (dunderR nm) = some none
def RightOf (K : PySem.W.Frag) (C : Addr) (nm : String) (t : Value) : Prop := t = .ref C ∨ ∃ right py, Side K C nm t right py
def rBin (K : PySem.W.Frag) (C : Addr) (nm : String) (sp : Sp) (E : XK) : R2 := fun x y H Q => ∃ a dx fs t, x = .ref a ∧ H a = some (.ins C dx fs) ∧ TyX K H y t ∧ RightOf K C nm t ∧ sp [.ref a, y] H Q E
theorem cmpBack {X : Cx} {pins : List (Addr × Obj)} {σ : L2.St} {Q : VK} {v : Value} {s : Shared} (h : EP X pins σ Q v s) : PySem.W.CmpBack (EP X pins σ Q) v s := by
  cases v with
  | notImplemented =>
    obtain ⟨z, H, I, r, q⟩ := h
    cases z <;> first | (obtain ⟨_, e⟩ := r; cases e; done) | (cases r; done)
  | _ => exact h
theorem op_own {X : Cx} {CX : CXT} {k : Nat} {f C : Addr} {fd : FuncData} {ps : List Str} {sp : Sp} {E : XK} {op : Operator} (O : OwnOp X.K C op.info.2 f) (F : FnOk X.prog X.w X.K X.mg X.base CX k f fd ps sp) (hr : Room k X.A)
    (hb : L2.Binds X.K fd ps []) (hx : Passes CX X E) : OpR X (binaryOp op) (rBin X.K C op.info.2 sp E) := by
  intro pins s σ H x y v u Q I rx ry hq
  obtain ⟨a, dx, fs, t, rfl, ha, ty, rt, h⟩ := hq
  cases rx
  obtain ⟨mA, J, _⟩ := ins_get I.hok ha
  obtain ⟨od, J, _⟩ := J.look
  obtain ⟨m, hF⟩ := I.fr
  obtain ⟨P, Z, hP, _⟩ := kit_of I ry ty
  have Lb := Z.ty (model X.prog X.w) s.heap I.kIn hP
  have run : wpAny (model X.prog X.w) X.A (call (.ref f) [.ref a, u]) (PySem.W.CmpBack (EP X pins σ Q)) X.xe s :=
    wpAny_mono (run_fn (us := [.ref a, u]) (vs := [.ref a, y]) F hr hb .nil hx I (.cons rfl (.cons ry .nil)) h) (fun _ _ q => cmpBack q) fun _ _ e => e
  rcases rt with rfl | ⟨right, py, S⟩
  · exact PySem.W.binop_K hF I.ok.mod.kin J Lb O.first O.find O.fn run
  · exact bin_other hF I.ok.mod.kin J O.first O.find O.fn O.refl (.inl rfl) Lb S run

section
open PySem.W
variable {prog : Program} {w : World} {A : Around} {E : Value → Shared → Prop} {s : Shared} {K : Frag} {x C L f : Addr} {h₀ : Heap} {m : Str → Option Value} {ox : Obj} {od : Option Obj}
theorem slotNe : PySem.Slot "object" "__ne__" "object.__ne__" := PySem.F.slot_object_ne
theorem ifBound_ne {b : Value} {Q : Option Value → Shared → Prop} (X : K.In s.heap) (I : InstAt s.heap x ox C od) (hf : findIn K (.ref C) "__ne__" = some (some (.builtin "object.__ne__")))
    (h : wpAny (model prog w) A (call (.builtin "object.__ne__") [.ref x, b]) (fun v => Q (some v)) E s) : wpAny (model prog w) A (callSpecialIfBound? (.ref x) "__ne__" [b]) Q E s := by
  simp only [callSpecialIfBound?, bindSpecialIfBound?]
  refine wpAny_holding (wpAny_bind (wpAny_bind (wpAny_bind (I.type.here ((looks_findIn X hf).here ?_)))))
  refine wpAny_bind (wpAny_askSetting (wpAny_ite ?_))
  have fin : wpAny (model prog w) A (call (.builtin "object.__ne__") ([.ref x] ++ [b]) >>= fun v => pure (some v)) Q E s := wpAny_bind (wpAny_mono h (fun v s' h' => wpAny_pure h') fun _ _ h' => h')
  rw [slotNe.bind]
  split
  · exact wpAny_bind (wpAny_pure (wpAny_pure (by exact fin)))
  · exact wpAny_tryCatch (wpAny_bind (wpAny_pure (wpAny_pure (by exact fin))))
theorem ne_body {b : Value} {Q : Fin → Shared → Prop} (hu : A.units < cLine) (X : K.In s.heap) (I : InstAt s.heap x ox C od) (hs : findIn K (.ref C) "__eq__" = some (some (.ref f))) (hf : isFn K (.ref f) = true)
    (h : wpAny (model prog w) A (call (.ref f) [.ref x, b]) (fun v s' => ∃ r, v = .bool r ∧ Q (.done (.ret (.bool (!r)))) s') E s) : wpAny (model prog w) A (Builtin.«object.__ne__» ⟨[.ref x, b], []⟩) Q E s := by
  unfold Builtin.«object.__ne__»
  refine wpAny_bind (wpAny_pure ?_)
  refine wpAny_bind (wpAny_cRoomFor hu ?_)
  refine wpAny_bind (ifBound_K X I hs hf (wpAny_mono h (fun v s' hv => ?_) fun _ _ e => e))
  obtain ⟨r, rfl, q⟩ := hv
  exact wpAny_bind (wpAny_truthy_bool (wpAny_pure q))

theorem call_ne {b : Value} {Q : Value → Shared → Prop} (hu : A.in1.units < cLine) (X : K.In s.heap) (I : InstAt s.heap x ox C od) (ho : subIn K (.ref C) (.type "object") = some true) (hs : findIn K (.ref C) "__eq__" = some (some (.ref f))) (hf : isFn K (.ref f) = true)
    (h : wpAny (model prog w) A.in1 (call (.ref f) [.ref x, b]) (fun v s' => ∃ r, v = .bool r ∧ Q (.bool (!r)) s') E s) : wpAny (model prog w) A (call (.builtin "object.__ne__") [.ref x, b]) Q E s := by
  refine wpAny_call (codeAny_call_builtin slotNe.plain PySem.F.cmpEntry_ne ?_)
  refine PySem.W.check_slot PySem.F.cmpKind_ne PySem.F.cmpSplit_ne (I.type.andThen (looks_subIn X ho)) (PySem.F.cmpArgs_ne _ _) ?_
  refine ne_body hu X I hs hf (wpAny_mono h (fun v s' hv => ?_) fun _ _ e => e)
  obtain ⟨r, rfl, q⟩ := hv
  exact ⟨r, rfl, q⟩
theorem rc_ne {b tb : Value} {Q : Value → Shared → Prop} (hu : A.units + 1 < cLine) (F : Fr h₀ L s.heap m) (X₀ : K.In h₀) (I : InstAt s.heap x ox C od) (hb : Looks (model prog w) s.heap (typeOf b) tb) (hn : notFirst K C tb = true) (ho : subIn K (.ref C) (.type "object") = some true)
    (hne : findIn K (.ref C) "__ne__" = some (some (.builtin "object.__ne__"))) (hs : findIn K (.ref C) "__eq__" = some (some (.ref f))) (hf : isFn K (.ref f) = true)
    (h : wpAny (model prog w) A.in1 (call (.ref f) [.ref x, b]) (fun v s' => ∃ r, v = .bool r ∧ Q (.bool (!r)) s') E s) : wpAny (model prog w) A (richCompare .NotEq (.ref x) b) Q E s := by
  have X := X₀.keeps F.keep
  have one : wpAny (model prog w) A (tryCompare (.ref x) "__ne__" b) (fun r s' => ∃ v, r = some v ∧ Q v s') E s := by
    unfold tryCompare
    refine wpAny_bind (ifBound_ne X I hne (call_ne hu X I ho hs hf (wpAny_mono h (fun v s' hv => ?_) fun _ _ e => e)))
    obtain ⟨r, rfl, q⟩ := hv
    exact ⟨r, rfl, wpAny_pure ⟨_, rfl, q⟩⟩
  unfold richCompare
  simp only [oneThing_ref]
  refine wpAny_holding (wpAny_bind (wpAny_cRoomFor (Nat.lt_of_succ_lt hu) ?_))
  refine wpAny_bind (I.type.here (wpAny_bind (hb.here ?_)))
  split
  · rename_i q
    have e : subIn K tb (.ref C) = some false := by
      rcases Bool.or_eq_true_iff.mp hn with e | e
      · rw [beq_iff_eq.mp e] at q; simp at q
      · exact beq_iff_eq.mp e
    refine wpAny_bind ((looks_subIn X e).here ?_)
    simp only [Bool.false_eq_true, if_false]
    refine wpAny_bind (wpAny_mono one (fun r s' z => ?_) fun _ _ e => e)
    obtain ⟨v, rfl, hq⟩ := z
    exact wpAny_pure hq
  · refine wpAny_bind (wpAny_pure ?_)
    simp only [Bool.false_eq_true, if_false]
    refine wpAny_bind (wpAny_mono one (fun r s' z => ?_) fun _ _ e => e)
    obtain ⟨v, rfl, hq⟩ := z
    exact wpAny_pure hq
end
/-- a function's promise kept below the running body -/
theorem run_sub {X : Cx} {CX : CXT} {k : Nat} {f : Addr} {fd : FuncData} {ps : List Str} {sp : Sp} {E : XK} {A : Around} (F : FnOk X.prog X.w X.K X.mg X.base CX k f fd ps sp) (sb : Sub X k A) (hb : L2.Binds X.K fd ps []) (hx : Passes CX X E)
    {pins : List (Addr × Obj)} {σ : L2.St} {H : Hp} {s : Shared} {Q : VK} {us : List Value} {vs : List V} (I : L2.Inv X pins σ H s) (r : Vals vs us) (h : sp vs H Q E) : wpAny (model X.prog X.w) A (call (.ref f) us) (EP X pins σ Q) X.xe s := by
  have hl := F.len _ _ _ _ h
  have e0 : Env0 X.prog X.w X.K X.mg X.base A X.stack s H := by
    have e := I.env0
    exact ⟨by rw [sb.fr]; exact e.frames, e.mod, e.bs, e.bsz, e.funs, e.frf, e.hok, e.bare⟩
  have hl2 : us.length = ps.length := by rw [← r.length]; exact hl
  refine wpAny_call (codeAny_mono (F.run A X.stack s H ⟨us, []⟩ us vs Q E sb.room e0 (by
    have := hb s us I.kIn (by simpa using hl2)
    simpa using this) r h) fun r s' hq => ?_)
  cases r with
  | error e => exact hx pins σ H s e s' I hq
  | ok fl =>
    cases fl with
    | ret u => exact I.after hq
    | next => exact False.elim hq
    | brk => exact False.elim hq
    | cont => exact False.elim hq
/-- what is known of a class with an own == and no own != -/
structure OwnEq (K : PySem.W.Frag) (C f : Addr) : Prop where
  eq : PySem.W.findIn K (.ref C) "__eq__" = some (some (.ref f))
  fn : PySem.W.isFn K (.ref f) = true
  ne : PySem.W.findIn K (.ref C) "__ne__" = some (some (.builtin "object.__ne__"))
  obj : PySem.W.subIn K (.ref C) (.type "object") = some true
/-- x == y of an instance x of C and any y whose class doesn't descend from C -/
def rOwnEq (K : PySem.W.Frag) (C : Addr) (sp : Sp) (E : XK) : R2 := fun x y H Q => ∃ a dx fs t, x = .ref a ∧ H a = some (.ins C dx fs) ∧ TyX K H y t ∧ PySem.W.notFirst K C t = true ∧ sp [.ref a, y] H Q E
def rOwnNe (K : PySem.W.Frag) (C : Addr) (sp : Sp) (E : XK) : R2 := fun x y H Q => ∃ a dx fs t, x = .ref a ∧ H a = some (.ins C dx fs) ∧ TyX K H y t ∧ PySem.W.notFirst K C t = true ∧ sp [.ref a, y] H (fun v H' => ∃ b, v = .bl b ∧ Q (.bl (!b)) H') E
section
variable {X : Cx} {CX : CXT} {k : Nat} {f C : Addr} {fd : FuncData} {ps : List Str} {sp : Sp} {E : XK}
theorem op_ownEq (O : OwnEq X.K C f) (F : FnOk X.prog X.w X.K X.mg X.base CX k f fd ps sp) (hr : Room k X.A) (hb : L2.Binds X.K fd ps []) (hx : Passes CX X E) : OpR X (compareOp .Eq) (rOwnEq X.K C sp E) := by
  intro pins s σ H x y v u Q I rx ry hq
  obtain ⟨a, dx, fs, t, rfl, ha, ty, nf, h⟩ := hq
  cases rx
  obtain ⟨mA, J, _⟩ := ins_get I.hok ha
  obtain ⟨od, J, _⟩ := J.look
  obtain ⟨m, hF⟩ := I.fr
  obtain ⟨P, Z, hP, _⟩ := kit_of I ry ty
  have run : wpAny (model X.prog X.w) X.A (call (.ref f) [.ref a, u]) (PySem.W.CmpBack (EP X pins σ Q)) X.xe s :=
    wpAny_mono (run_fn (us := [.ref a, u]) (vs := [.ref a, y]) F hr hb .nil hx I (.cons rfl (.cons ry .nil)) h) (fun _ _ q => cmpBack q) fun _ _ e => e
  show wpAny (model X.prog X.w) X.A (richCompare .Eq (.ref a) u) (EP X pins σ Q) X.xe s
  exact PySem.W.cmp_K (op := .Eq) hr.units0 hF I.ok.mod.kin J (Z.ty _ s.heap I.kIn hP) nf O.eq O.fn run
theorem op_ownNe (O : OwnEq X.K C f) (F : FnOk X.prog X.w X.K X.mg X.base CX k f fd ps sp) (hr : Room (k + 1) X.A) (hb : L2.Binds X.K fd ps []) (hx : Passes CX X E) : OpR X (compareOp .NotEq) (rOwnNe X.K C sp E) := by
  intro pins s σ H x y v u Q I rx ry hq
  obtain ⟨a, dx, fs, t, rfl, ha, ty, nf, h⟩ := hq
  cases rx
  obtain ⟨mA, J, _⟩ := ins_get I.hok ha
  obtain ⟨od, J, _⟩ := J.look
  obtain ⟨m, hF⟩ := I.fr
  obtain ⟨P, Z, hP, _⟩ := kit_of I ry ty
  have sb : Sub X k X.A.in1 := ⟨hr.in1, rfl⟩
  have run : wpAny (model X.prog X.w) X.A.in1 (call (.ref f) [.ref a, u]) (fun v s' => ∃ r, v = .bool r ∧ EP X pins σ Q (.bool (!r)) s') X.xe s :=
    wpAny_mono (run_sub (us := [.ref a, u]) (vs := [.ref a, y]) F sb hb hx I (.cons rfl (.cons ry .nil)) h) (fun v s' q => by
      obtain ⟨z, H', I', r, b, rfl, q⟩ := q
      cases r
      exact ⟨b, rfl, .bl (!b), H', I', rfl, q⟩) fun _ _ e => e
  show wpAny (model X.prog X.w) X.A (richCompare .NotEq (.ref a) u) (EP X pins σ Q) X.xe s
  exact rc_ne hr.in1.units0 hF I.ok.mod.kin J (Z.ty _ s.heap I.kIn hP) nf O.obj O.ne O.eq O.fn run
end

theorem dunder_mul : PySem.dunder "mul" = ("__mul__" : Str) := by decide +kernel
/-- what a head says of an own class with *, == and no reflected *, no != -/
def opsB (K : PySem.W.Frag) (owns : List Addr) (C : Addr) : Bool :=
  PySem.W.selfFirst K C && (decide (PySem.W.findIn K (.ref C) (dunderR "mul") = some none) && (decide (PySem.W.findIn K (.ref C) "__ne__" = some (some (.builtin "object.__ne__"))) && (decide (PySem.W.subIn K (.ref C) (.type "object") = some true) &&
  ((["NoneType", "int", "bool", "str", "list", "tuple"].all fun b => decide (PySem.W.subIn K (.type b) (.ref C) = some false)) && (owns.all fun D => decide (PySem.W.subIn K (.ref D) (.ref C) = some (decide (D = C))))))))
structure Ops (K : PySem.W.Frag) (owns : List Addr) (C : Addr) : Prop where
  first : PySem.W.selfFirst K C = true
  rmul : PySem.W.findIn K (.ref C) (dunderR "mul") = some none
  ne : PySem.W.findIn K (.ref C) "__ne__" = some (some (.builtin "object.__ne__"))
  obj : PySem.W.subIn K (.ref C) (.type "object") = some true
  tys : ∀ b ∈ ["NoneType", "int", "bool", "str", "list", "tuple"], PySem.W.subIn K (.type b) (.ref C) = some false
  own : ∀ D ∈ owns, PySem.W.subIn K (.ref D) (.ref C) = some (decide (D = C))
theorem ops_ok {K : PySem.W.Frag} {owns : List Addr} {C : Addr} (h : opsB K owns C = true) : Ops K owns C := by
  unfold opsB at h
  simp only [Bool.and_eq_true, decide_eq_true_eq, List.all_eq_true] at h
  obtain ⟨a, b, c, d, e, f⟩ := h
  exact ⟨a, b, c, d, e, f⟩
section
variable {K : PySem.W.Frag} {owns : List Addr} {C D f g : Addr}
theorem Ops.mul (o : Ops K owns C) (m : Meth K C "__mul__" f) : OwnOp K C "mul" f := ⟨o.first, by rw [dunder_mul]; exact m.at_, m.fn, o.rmul⟩
theorem Ops.eq (o : Ops K owns C) (m : Meth K C "__eq__" f) : OwnEq K C f := ⟨m.at_, m.fn, o.ne, o.obj⟩
theorem right_same : RightOf K C "mul" (.ref C) := .inl rfl
theorem Ops.right (o : Ops K owns C) (o2 : Ops K owns D) (m2 : Meth K D "__mul__" g) (hD : D ∈ owns) (ne : D ≠ C) : RightOf K C "mul" (.ref D) :=
  .inr ⟨true, true, ⟨Bool.eq_false_iff.mpr fun q => ne (by have := beq_iff_eq.mp q; injection this with this; exact this.symm), fun M h X => by
    obtain ⟨cd, rest, hcd, hm⟩ := PySem.W.ksp_first o2.first
    exact PySem.W.fills_K X hcd hm (o2.mul m2).find, by rw [o.own D hD, decide_eq_false ne], fun _ M h X => PySem.W.ksp_inPy X (o2.mul m2).find o2.rmul (.inl rfl), fun _ z => nomatch z⟩⟩
theorem Ops.rightT (o : Ops K owns C) {T : String} {fo ro : Option Value} (hT : T ∈ ["NoneType", "int", "bool", "str", "list", "tuple"]) (h1 : fastLookup T (PySem.dunder "mul") = some fo) (h2 : fastLookup T (dunderR "mul") = some ro) : RightOf K C "mul" (.type T) :=
  .inr ⟨_, false, ⟨Bool.eq_false_iff.mpr fun q => (nomatch beq_iff_eq.mp q), fun M h X => PySem.W.ksp_fillsT X h1 h2, o.tys T hT, fun _ M h X => PySem.W.Looks.of_pure rfl, fun _ _ => ⟨ro, h2⟩⟩⟩
theorem Ops.right_int (o : Ops K owns C) : RightOf K C "mul" (.type "int") := o.rightT (fo := some (.builtin "int.__mul__")) (ro := some (.builtin "int.__rmul__")) (by decide) (by kernel_rfl) (by kernel_rfl)
theorem Ops.right_none (o : Ops K owns C) : RightOf K C "mul" (.type "NoneType") := o.rightT (fo := none) (ro := none) (by decide) (by kernel_rfl) (by kernel_rfl)
theorem Ops.right_tuple (o : Ops K owns C) : RightOf K C "mul" (.type "tuple") := o.rightT (fo := some (.builtin "tuple.__mul__")) (ro := some (.builtin "tuple.__rmul__")) (by decide) (by kernel_rfl) (by kernel_rfl)
theorem Ops.right_list (o : Ops K owns C) : RightOf K C "mul" (.type "list") := o.rightT (fo := some (.builtin "list.__mul__")) (ro := some (.builtin "list.__rmul__")) (by decide) (by kernel_rfl) (by kernel_rfl)
theorem Ops.right_str (o : Ops K owns C) : RightOf K C "mul" (.type "str") := o.rightT (fo := some (.builtin "str.__mul__")) (ro := some (.builtin "str.__rmul__")) (by decide) (by kernel_rfl) (by kernel_rfl)
theorem Ops.notFirst (o : Ops K owns C) (hD : D ∈ owns) : PySem.W.notFirst K C (.ref D) = true := by
  unfold PySem.W.notFirst
  by_cases e : D = C
  · subst e
    simp
  · rw [o.own D hD, decide_eq_false e]
    simp
theorem Ops.notFirstT (o : Ops K owns C) {T : String} (hT : T ∈ ["NoneType", "int", "bool", "str", "list", "tuple"]) : PySem.W.notFirst K C (.type T) = true := by
  unfold PySem.W.notFirst
  rw [o.tys T hT]
  simp
end
end Lf

set_option Elab.async false
set_option linter.all false
set_option maxRecDepth 100000
set_option maxHeartbeats 0
namespace K15
open PySem PySem.Spec PyProof.Rows L2
def top (i : Nat) : Stmt := PySem.Challenge.pw_letterfolds_k15_least_words_between_two.main.body.getD i (.Pass ⟨0, 0, 0, 0⟩)
abbrev s_is_number : Stmt := top 4
def d_is_number : He.DefD := ⟨("is_number", none), "is_number", "is_number", defArgs s_is_number, defBody s_is_number, defScope s_is_number, [], []⟩
abbrev s_is_between : Stmt := top 5
def d_is_between : He.DefD := ⟨("is_between", none), "is_between", "is_between", defArgs s_is_between, defBody s_is_between, defScope s_is_between, [], []⟩
abbrev s_is_sequence : Stmt := top 6
def d_is_sequence : He.DefD := ⟨("is_sequence", none), "is_sequence", "is_sequence", defArgs s_is_sequence, defBody s_is_sequence, defScope s_is_sequence, [], []⟩
abbrev s_is_word : Stmt := top 7
def d_is_word : He.DefD := ⟨("is_word", none), "is_word", "is_word", defArgs s_is_word, defBody s_is_word, defScope s_is_word, [.non], []⟩
abbrev s_FoldError_told : Stmt := inClass (top 9) 0
def d_FoldError_told : He.DefD := ⟨("FoldError", some "told"), "told", "FoldError.told", defArgs s_FoldError_told, defBody s_FoldError_told, defScope s_FoldError_told, [], []⟩
abbrev s_NoNumber_init : Stmt := inClass (top 10) 0
def d_NoNumber_init : He.DefD := ⟨("NoNumber", some "__init__"), "__init__", "NoNumber.__init__", defArgs s_NoNumber_init, defBody s_NoNumber_init, defScope s_NoNumber_init, [], []⟩
abbrev s_NoNumber_told : Stmt := inClass (top 10) 1
def d_NoNumber_told : He.DefD := ⟨("NoNumber", some "told"), "told", "NoNumber.told", defArgs s_NoNumber_told, defBody s_NoNumber_told, defScope s_NoNumber_told, [], []⟩
abbrev s_NoMonoid_init : Stmt := inClass (top 11) 0
def d_NoMonoid_init : He.DefD := ⟨("NoMonoid", some "__init__"), "__init__", "NoMonoid.__init__", defArgs s_NoMonoid_init, defBody s_NoMonoid_init, defScope s_NoMonoid_init, [], []⟩
abbrev s_NoMonoid_told : Stmt := inClass (top 11) 1
def d_NoMonoid_told : He.DefD := ⟨("NoMonoid", some "told"), "told", "NoMonoid.told", defArgs s_NoMonoid_told, defBody s_NoMonoid_told, defScope s_NoMonoid_told, [], []⟩
abbrev s_NoWord_init : Stmt := inClass (top 12) 0
def d_NoWord_init : He.DefD := ⟨("NoWord", some "__init__"), "__init__", "NoWord.__init__", defArgs s_NoWord_init, defBody s_NoWord_init, defScope s_NoWord_init, [], []⟩
abbrev s_NoWord_told : Stmt := inClass (top 12) 1
def d_NoWord_told : He.DefD := ⟨("NoWord", some "told"), "told", "NoWord.told", defArgs s_NoWord_told, defBody s_NoWord_told, defScope s_NoWord_told, [], []⟩
abbrev s_Monoid_init : Stmt := inClass (top 16) 0
def d_Monoid_init : He.DefD := ⟨("Monoid", some "__init__"), "__init__", "Monoid.__init__", defArgs s_Monoid_init, defBody s_Monoid_init, defScope s_Monoid_init, [], []⟩
abbrev s_Monoid_eq : Stmt := inClass (top 16) 1
def d_Monoid_eq : He.DefD := ⟨("Monoid", some "__eq__"), "__eq__", "Monoid.__eq__", defArgs s_Monoid_eq, defBody s_Monoid_eq, defScope s_Monoid_eq, [], []⟩
abbrev s_Monoid_size : Stmt := inClass (top 16) 2
def d_Monoid_size : He.DefD := ⟨("Monoid", some "size"), "size", "Monoid.size", defArgs s_Monoid_size, defBody s_Monoid_size, defScope s_Monoid_size, [], []⟩
abbrev s_Monoid_words : Stmt := inClass (top 16) 3
def d_Monoid_words : He.DefD := ⟨("Monoid", some "words"), "words", "Monoid.words", defArgs s_Monoid_words, defBody s_Monoid_words, defScope s_Monoid_words, [], []⟩
abbrev s_Monoid_left : Stmt := inClass (top 16) 4
def d_Monoid_left : He.DefD := ⟨("Monoid", some "left"), "left", "Monoid.left", defArgs s_Monoid_left, defBody s_Monoid_left, defScope s_Monoid_left, [], []⟩
abbrev s_Monoid_of_word : Stmt := inClass (top 16) 5
def d_Monoid_of_word : He.DefD := ⟨("Monoid", some "of_word"), "of_word", "Monoid.of_word", defArgs s_Monoid_of_word, defBody s_Monoid_of_word, defScope s_Monoid_of_word, [], []⟩
abbrev s_Monoid_times : Stmt := inClass (top 16) 6
def d_Monoid_times : He.DefD := ⟨("Monoid", some "times"), "times", "Monoid.times", defArgs s_Monoid_times, defBody s_Monoid_times, defScope s_Monoid_times, [], []⟩
abbrev s_Monoid_least_right : Stmt := inClass (top 16) 9
def d_Monoid_least_right : He.DefD := ⟨("Monoid", some "least_right"), "least_right", "Monoid.least_right", defArgs s_Monoid_least_right, defBody s_Monoid_least_right, defScope s_Monoid_least_right, [], []⟩
abbrev s_Monoid_least_left : Stmt := inClass (top 16) 10
def d_Monoid_least_left : He.DefD := ⟨("Monoid", some "least_left"), "least_left", "Monoid.least_left", defArgs s_Monoid_least_left, defBody s_Monoid_least_left, defScope s_Monoid_least_left, [], []⟩
abbrev s_Monoid_check_number : Stmt := inClass (top 16) 17
def d_Monoid_check_number : He.DefD := ⟨("Monoid", some "_check_number"), "_check_number", "Monoid._check_number", defArgs s_Monoid_check_number, defBody s_Monoid_check_number, defScope s_Monoid_check_number, [], []⟩
abbrev s_Monoid_check_word : Stmt := inClass (top 16) 18
def d_Monoid_check_word : He.DefD := ⟨("Monoid", some "_check_word"), "_check_word", "Monoid._check_word", defArgs s_Monoid_check_word, defBody s_Monoid_check_word, defScope s_Monoid_check_word, [], []⟩
abbrev s_check_form : Stmt := top 17
def d_check_form : He.DefD := ⟨("_check_form", none), "_check_form", "_check_form", defArgs s_check_form, defBody s_check_form, defScope s_check_form, [], []⟩
abbrev s_made_by : Stmt := top 18
def d_made_by : He.DefD := ⟨("_made_by", none), "_made_by", "_made_by", defArgs s_made_by, defBody s_made_by, defScope s_made_by, [], []⟩
abbrev s_left_table : Stmt := top 19
def d_left_table : He.DefD := ⟨("_left_table", none), "_left_table", "_left_table", defArgs s_left_table, defBody s_left_table, defScope s_left_table, [], []⟩
abbrev s_check_products : Stmt := top 20
def d_check_products : He.DefD := ⟨("_check_products", none), "_check_products", "_check_products", defArgs s_check_products, defBody s_check_products, defScope s_check_products, [], []⟩
abbrev s_letters_of : Stmt := top 21
def d_letters_of : He.DefD := ⟨("_letters_of", none), "_letters_of", "_letters_of", defArgs s_letters_of, defBody s_letters_of, defScope s_letters_of, [], []⟩
abbrev s_end : Stmt := top 22
def d_end : He.DefD := ⟨("_end", none), "_end", "_end", defArgs s_end, defBody s_end, defScope s_end, [], []⟩
abbrev s_least_ways : Stmt := top 23
def d_least_ways : He.DefD := ⟨("least_ways", none), "least_ways", "least_ways", defArgs s_least_ways, defBody s_least_ways, defScope s_least_ways, [.non], []⟩
abbrev s_L_source : Stmt := top 25
def d_L_source : He.DefD := ⟨("_law_source", none), "_law_source", "_law_source", defArgs s_L_source, defBody s_L_source, defScope s_L_source, [], []⟩
abbrev s_L_draw : Stmt := top 26
def d_L_draw : He.DefD := ⟨("_law_draw", none), "_law_draw", "_law_draw", defArgs s_L_draw, defBody s_L_draw, defScope s_L_draw, [], []⟩
abbrev s_L_pick : Stmt := top 27
def d_L_pick : He.DefD := ⟨("_law_pick", none), "_law_pick", "_law_pick", defArgs s_L_pick, defBody s_L_pick, defScope s_L_pick, [], []⟩
abbrev s_L_maps : Stmt := top 28
def d_L_maps : He.DefD := ⟨("_law_maps", none), "_law_maps", "_law_maps", defArgs s_L_maps, defBody s_L_maps, defScope s_L_maps, [], []⟩
abbrev s_L_table : Stmt := top 29
def d_L_table : He.DefD := ⟨("_law_table", none), "_law_table", "_law_table", defArgs s_L_table, defBody s_L_table, defScope s_L_table, [], []⟩
abbrev s_L_steps : Stmt := top 30
def d_L_steps : He.DefD := ⟨("_law_steps", none), "_law_steps", "_law_steps", defArgs s_L_steps, defBody s_L_steps, defScope s_L_steps, [], []⟩
abbrev s_L_products : Stmt := top 31
def d_L_products : He.DefD := ⟨("_law_products", none), "_law_products", "_law_products", defArgs s_L_products, defBody s_L_products, defScope s_L_products, [], []⟩
abbrev s_L_all_words : Stmt := top 32
def d_L_all_words : He.DefD := ⟨("_law_all_words", none), "_law_all_words", "_law_all_words", defArgs s_L_all_words, defBody s_L_all_words, defScope s_L_all_words, [], []⟩
abbrev s_L_by_words : Stmt := top 33
def d_L_by_words : He.DefD := ⟨("_law_by_words", none), "_law_by_words", "_law_by_words", defArgs s_L_by_words, defBody s_L_by_words, defScope s_L_by_words, [], []⟩
abbrev s_L_right : Stmt := top 34
def d_L_right : He.DefD := ⟨("_law_right", none), "_law_right", "_law_right", defArgs s_L_right, defBody s_L_right, defScope s_L_right, [], []⟩
abbrev s_law : Stmt := top 35
def d_law : He.DefD := ⟨("law", none), "law", "law", defArgs s_law, defBody s_law, defScope s_law, [], []⟩
def fn : List He.DefD := [d_is_number, d_is_between, d_is_sequence, d_is_word, d_FoldError_told, d_NoNumber_init, d_NoNumber_told, d_NoMonoid_init, d_NoMonoid_told, d_NoWord_init, d_NoWord_told, d_Monoid_init, d_Monoid_eq, d_Monoid_size, d_Monoid_words, d_Monoid_left, d_Monoid_of_word, d_Monoid_times, d_Monoid_least_right, d_Monoid_least_left, d_Monoid_check_number, d_Monoid_check_word, d_check_form, d_made_by, d_left_table, d_check_products, d_letters_of, d_end, d_least_ways, d_L_source, d_L_draw, d_L_pick, d_L_maps, d_L_table, d_L_steps, d_L_products, d_L_all_words, d_L_by_words, d_L_right, d_law]
def fa : List He.Fa := [.glo "FoldError", .glo "NoNumber", .glo "NoMonoid", .glo "NoWord", .glo "Monoid", .glo "is_number", .glo "is_between", .glo "is_sequence", .glo "is_word", .glo "_check_form", .glo "_made_by", .glo "_left_table", .glo "_check_products", .glo "_letters_of", .glo "_end", .glo "least_ways", .glo "_law_source", .glo "_law_draw", .glo "_law_pick", .glo "_law_maps", .glo "_law_table", .glo "_law_steps", .glo "_law_products", .glo "_law_all_words", .glo "_law_by_words", .glo "_law_right", .glo "law", .int "MOST_SIZE" 2000, .int "MOST_WORD" 100, .str "LETTERS" "abcdef", .str "SIGNS" "abcdefghijklmnopqrst", .free "ValueError", .free "abs", .free "all", .free "bool", .free "dict", .free "enumerate", .free "int", .free "isinstance", .free "len", .free "list", .free "range", .free "sorted", .free "str", .free "tuple", .free "zip", .cls "Monoid", .mkr "Monoid", .meth "Monoid" "__eq__", .meth "Monoid" "size", .meth "Monoid" "words", .meth "Monoid" "left", .meth "Monoid" "of_word", .meth "Monoid" "times", .meth "Monoid" "least_right", .meth "Monoid" "least_left", .meth "Monoid" "_check_number", .meth "Monoid" "_check_word", .noat "Monoid" "right", .noat "Monoid" "_made", .noat "Monoid" "_left", .meth "NoNumber" "told", .meth "NoMonoid" "told", .meth "NoWord" "told", .exm "NoNumber" "FoldError" true, .exm "NoNumber" "NoNumber" true, .exm "NoNumber" "NoMonoid" false, .exm "NoNumber" "NoWord" false, .exm "NoMonoid" "FoldError" true, .exm "NoMonoid" "NoNumber" false, .exm "NoMonoid" "NoMonoid" true, .exm "NoMonoid" "NoWord" false, .exm "NoWord" "FoldError" true, .exm "NoWord" "NoNumber" false, .exm "NoWord" "NoMonoid" false, .exm "NoWord" "NoWord" true]
def inis : List (Str × List Str) := [("NoNumber", ["number"]), ("NoMonoid", ["what", "place"]), ("NoWord", ["word"])]
def bares : List Str := []
def owns : List Str := ["Monoid"]
def opsl : List Str := []
def iniB (K : PySem.W.Frag) (p : Str × List Str) : Bool := Lf.errB K (He.ga K p.1) && (decide (PySem.W.findIn K (.ref (He.ga K p.1)) "__init__" = some (some (.ref (He.ma K (He.ga K p.1) "__init__")))) &&
  (decide (PySem.W.typeIn K (.ref (He.ma K (He.ga K p.1) "__init__")) = some (.type "function")) && (p.2.all fun f => decide (PySem.W.findIn K (.ref (He.ga K p.1)) f = some none))))
def isB (K : PySem.W.Frag) (x : Str) : Bool := decide (PySem.W.kitOne K (.ref (He.ga K x)) (.ref (He.ga K "FoldError")) = some true)
/-- an own class among all: what isinstance says of its instances, and of others -/
def ownB (K : PySem.W.Frag) (x : Str) : Bool := decide (PySem.W.findIn K (.ref (He.ga K x)) "__class__" = some (some (.builtin "object.__class__"))) && (decide (PySem.W.specialIn K (.builtin "object.__class__") "__get__" = some (some (.builtin "getset_descriptor.__get__"))) &&
  (decide (PySem.W.takesIn K (.builtin "object.__class__") = some true) && (decide (PySem.W.mroIn K (He.ga K x) (.type "object") = some true) &&
  ((["int", "bool", "str", "list", "tuple"].all fun b => decide (PySem.W.kitOne K (.ref (He.ga K x)) (.type b) = some false)) && ((["NoneType", "int", "bool", "str", "list", "tuple", "dict"].all fun b => decide (PySem.W.kitOne K (.type b) (.ref (He.ga K x)) = some false)) &&
  owns.all fun y => decide (PySem.W.kitOne K (.ref (He.ga K x)) (.ref (He.ga K y)) = some (decide (x = y))))))))
def ex (K : PySem.W.Frag) : Bool := (inis.all fun p => iniB K p && isB K p.1) && ((bares.all fun x => Lf.errB K (He.ga K x) && isB K x) && ((owns.all fun x => ownB K x) && opsl.all fun x => Lf.opsB K (owns.map fun y => He.ga K y) (He.ga K x)))
def loose : List Str := (["_wall", "is_number", "is_between", "is_sequence", "is_word", "FoldError", "NoNumber", "NoMonoid", "NoWord", "Monoid", "_check_form", "_made_by", "_left_table", "_check_products", "_letters_of", "_end", "least_ways", "_law_source", "_law_draw", "_law_pick", "_law_maps", "_law_table", "_law_steps", "_law_products", "_law_all_words", "_law_by_words", "_law_right", "LETTERS", "SIGNS", "MOST_SIZE"] : List Str) ++ (["MOST_WORD"] : List Str)
def tf : List He.Defn := [("_law_steps", none)]
end K15

set_option Elab.async false
set_option linter.all false
set_option maxRecDepth 100000
set_option maxHeartbeats 8000000
namespace K15
open PySem PySem.Spec PyProof.Rows L2 Lf
/-- a list or a tuple of xs at a -/
def Sq (K : PySem.W.Frag) (H : Hp) (a : Addr) (xs : List V) : Prop := SqL K H a xs ∨ SqT K H a xs
theorem Sq.same {K : PySem.W.Frag} {H H' : Hp} {a : Addr} {xs : List V} (h : Sq K H a xs) (e : Same H H') : Sq K H' a xs := h.imp (L2.Same.seq e) (Lf.SqT.same e)
theorem tyx_l {K : PySem.W.Frag} {H : Hp} {a : Addr} {xs : List V} (h : SqL K H a xs) : TyX K H (.ref a) (.type "list") := by
  rcases h with (h | ⟨o, h⟩) | ⟨o, its, n, hk, hc, _⟩
  · exact .base (.lst h)
  · exact .base (.frz h)
  · exact .kList hk hc
theorem tyx_t {K : PySem.W.Frag} {H : Hp} {a : Addr} {xs : List V} (h : SqT K H a xs) : TyX K H (.ref a) (.type "tuple") := by
  rcases h with (h | ⟨o, h⟩) | ⟨o, its, n, hk, hc, _⟩
  · exact .base (.tup h)
  · exact .fTuple h
  · exact .kTuple hk hc
theorem any_lt {K : PySem.W.Frag} : PySem.W.kitAny K (.type "list") [.type "list", .type "tuple"] = some true ∧ PySem.W.kitAny K (.type "tuple") [.type "list", .type "tuple"] = some true :=
  ⟨kitAny_cons (kit_ty (b := "list") (r := true) (by decide +kernel)) (fun h => nomatch h) (fun _ => rfl),
   kitAny_cons (kit_ty (b := "list") (r := false) (by decide +kernel)) (fun _ => kitAny_cons (kit_ty (b := "tuple") (r := true) (by decide +kernel)) (fun h => nomatch h) (fun _ => rfl)) (fun h => nomatch h)⟩
/-- whether it is an int; of what a row may hold -/
def Flat : V → Prop
  | .non => True
  | .bl _ => True
  | .int _ => True
  | .str _ => True
  | _ => False
def isNum : V → Bool
  | .int _ => true
  | _ => false
def ofInt : V → Bool
  | .int _ => true
  | .bl _ => true
  | _ => false
def ofBool : V → Bool
  | .bl _ => true
  | _ => false
theorem flat_ty {K : PySem.W.Frag} {H : Hp} {x : V} (h : Flat x) : ∃ n, TyX K H x (.type n) ∧ PySem.W.kitOne K (.type n) (.type "int") = some (ofInt x) ∧ PySem.W.kitOne K (.type n) (.type "bool") = some (ofBool x) := by
  cases x with
  | non => exact ⟨_, .base .non, kit_ty (show kitB "NoneType" "int" = some false by decide +kernel), kit_ty (show kitB "NoneType" "bool" = some false by decide +kernel)⟩
  | bl b => exact ⟨_, .base (.bl b), kit_ty (show kitB "bool" "int" = some true by decide +kernel), kit_ty (show kitB "bool" "bool" = some true by decide +kernel)⟩
  | int i => exact ⟨_, .base (.int i), kit_ty (show kitB "int" "int" = some true by decide +kernel), kit_ty (show kitB "int" "bool" = some false by decide +kernel)⟩
  | str s => exact ⟨_, .base (.str s), kit_ty (show kitB "str" "int" = some false by decide +kernel), kit_ty (show kitB "str" "bool" = some false by decide +kernel)⟩
  | byt _ => exact h.elim
  | flt _ => exact h.elim
  | ref _ => exact h.elim
  | ty _ => exact h.elim
def spNum : Sp := fun vs H Q _ => ∃ x, vs = [x] ∧ Flat x ∧ Q (.bl (isNum x)) H
/-- thing between least and most -/
def btw (lo hi : Int) : V → Bool
  | .int i => decide (lo ≤ i) && decide (i ≤ hi)
  | _ => false
def spBtw : Sp := fun vs H Q _ => ∃ x lo hi, vs = [x, .int lo, .int hi] ∧ Flat x ∧ Q (.bl (btw lo hi x)) H
def spSeq (K : PySem.W.Frag) : Sp := fun vs H Q _ => ∃ a xs lo hi, vs = [.ref a, .int lo, .int hi] ∧ Sq K H a xs ∧ ∀ H', Same H H' → Q (.bl (decide (lo ≤ (xs.length : Int)) && decide ((xs.length : Int) ≤ hi))) H'
section
variable {P : Program} {w : World} {K : PySem.W.Frag} {mg : Str → Option Value} {base : Heap}
theorem scNum : FnScope ["thing"] ["thing"] (defScope s_is_number) := ⟨rfl, rfl, rfl, by decide +kernel, rfl, by decide +kernel, by decide +kernel⟩
theorem ok_num {f : Addr} {fd : FuncData} {q : Str} (F : FunD K "is_number" q (defArgs s_is_number) (defBody s_is_number) (defScope s_is_number) [] [] f fd) (zI : mg "isinstance" = none) (zi : mg "int" = none) (zb : mg "bool" = none) :
    FnOk P w K mg base CX0 1 f fd ["thing"] spNum := by
  refine F.ok scNum (fun vs H Q E h => ?_) (fun cdv A outer s H vs Q E hr h => ?_)
  · obtain ⟨x, rfl, _⟩ := h
    rfl
  · obtain ⟨x, rfl, fx, k⟩ := h
    refine ⟨_, PSs.nox (pss_one (ps_ret (pe_and (pe_callB call_isi rfl zI PyProof.Rows.boot_isinstance (pa_cons (pv 0) (pa_cons (pe_bltn (v := .ty "int") rfl zi PyProof.Rows.boot_int rfl) pa_nil)))
      (pe_one (pe_not (pe_callB call_isi rfl zI PyProof.Rows.boot_isinstance (pa_cons (pv 0) (pa_cons (pe_bltn (v := .ty "bool") rfl zb PyProof.Rows.boot_bool rfl) pa_nil)))))))), ?_⟩
    obtain ⟨n, ty, k1, k2⟩ := flat_ty (K := K) (H := H) fx
    refine ⟨_, rfl, x, .ty "int", _, _, _, rfl, .ty _, ty, k1, _, rfl, ?_⟩
    cases x with
    | int i => exact ⟨_, rfl, _, .ty "bool", _, _, _, rfl, .ty _, ty, k2, _, rfl, k⟩
    | bl b => exact ⟨_, rfl, _, .ty "bool", _, _, _, rfl, .ty _, ty, k2, _, rfl, k⟩
    | non => exact k
    | str s => exact k
    | byt _ => exact fx.elim
    | flt _ => exact fx.elim
    | ref _ => exact fx.elim
    | ty _ => exact fx.elim
theorem scBtw : FnScope ["thing", "least", "most"] ["thing", "least", "most"] (defScope s_is_between) := ⟨rfl, rfl, rfl, by decide +kernel, rfl, by decide +kernel, by decide +kernel⟩
theorem ok_btw {f : Addr} {fd : FuncData} {q : Str} (F : FunD K "is_between" q (defArgs s_is_between) (defBody s_is_between) (defScope s_is_between) [] [] f fd) (DN : Def P w K mg base CX0 1 "is_number" ["thing"] spNum) :
    FnOk P w K mg base CX0 2 f fd ["thing", "least", "most"] spBtw := by
  refine F.ok scBtw (fun vs H Q E h => ?_) (fun cdv A outer s H vs Q E hr h => ?_)
  · obtain ⟨x, lo, hi, rfl, _⟩ := h
    rfl
  · obtain ⟨x, lo, hi, rfl, fx, k⟩ := h
    refine ⟨_, PSs.nox (pss_one (ps_ret (pe_and (pe_def DN hr pass0 rfl (pa_cons (pv 0) pa_nil)) (pe_one (pe_chain op_le op_le (pv 1) (pv 0) (pv 2)))))), ?_⟩
    refine ⟨_, rfl, x, rfl, fx, _, rfl, ?_⟩
    cases x with
    | int i =>
      refine ⟨_, rfl, _, rfl, _, _, rfl, rfl, _, rfl, ?_⟩
      refine ite2 (fun c => ⟨_, rfl, _, _, rfl, rfl, ?_⟩) (fun c => ?_)
      · have z : btw lo hi (.int i) = decide (i ≤ hi) := by show (decide (lo ≤ i) && decide (i ≤ hi)) = _; rw [c]; rfl
        rw [z] at k
        exact k
      · have z : btw lo hi (.int i) = false := by
          show (decide (lo ≤ i) && decide (i ≤ hi)) = false
          cases h : decide (lo ≤ i) with
          | true => exact absurd h c
          | false => rfl
        rw [z] at k
        exact k
    | bl b => exact k
    | non => exact k
    | str s => exact k
    | byt _ => exact fx.elim
    | flt _ => exact fx.elim
    | ref _ => exact fx.elim
    | ty _ => exact fx.elim
theorem scSeq : FnScope ["thing", "least", "most"] ["thing", "least", "most"] (defScope s_is_sequence) := ⟨rfl, rfl, rfl, by decide +kernel, rfl, by decide +kernel, by decide +kernel⟩
theorem ok_seq {f : Addr} {fd : FuncData} {q : Str} (F : FunD K "is_sequence" q (defArgs s_is_sequence) (defBody s_is_sequence) (defScope s_is_sequence) [] [] f fd) (zI : mg "isinstance" = none) (zl : mg "list" = none) (zt : mg "tuple" = none) (zn : mg "len" = none) :
    FnOk P w K mg base CX0 1 f fd ["thing", "least", "most"] (spSeq K) := by
  refine F.ok scSeq (fun vs H Q E h => ?_) (fun cdv A outer s H vs Q E hr h => ?_)
  · obtain ⟨a, xs, lo, hi, rfl, _⟩ := h
    rfl
  · obtain ⟨a, xs, lo, hi, rfl, sq, k⟩ := h
    refine ⟨_, PSs.nox (pss_one (ps_ret (pe_and (pe_callB call_isiT rfl zI PyProof.Rows.boot_isinstance (pa_cons (pv 0) (pa_cons (pe_tup (pa_cons (pe_bltn (v := .ty "list") rfl zl PyProof.Rows.boot_list rfl) (pa_cons (pe_bltn (v := .ty "tuple") rfl zt PyProof.Rows.boot_tuple rfl) pa_nil))) pa_nil)))
      (pe_one (pe_chain op_le op_le (pv 1) (pe_callB call_len_seq rfl zn boot_len (pa_cons (pv 0) pa_nil)) (pv 2)))))), ?_⟩
    refine ⟨_, rfl, (by show 2 ≤ sizeLine; decide), fun p np => ?_⟩
    have sm := same_upd (o := .tup [.ty "list", .ty "tuple"]) np
    have sq' := sq.same sm
    have ty : ∃ t, TyX K (upd H p (.tup [.ty "list", .ty "tuple"])) (.ref a) t ∧ PySem.W.kitAny K t [.type "list", .type "tuple"] = some true := by
      rcases sq' with z | z
      · exact ⟨_, tyx_l z, any_lt.1⟩
      · exact ⟨_, tyx_t z, any_lt.2⟩
    obtain ⟨t, ty, ka⟩ := ty
    refine ⟨.ref a, p, _, t, _, true, rfl, upd_same, .cons (.ty _) (.cons (.ty _) .nil), ty, ka, true, rfl, ?_⟩
    refine ifT rfl ⟨_, rfl, _, rfl, a, xs, rfl, sq', _, _, rfl, rfl, _, rfl, ?_⟩
    have kk := k _ sm
    refine ite2 (fun c => ⟨_, rfl, _, _, rfl, rfl, ?_⟩) (fun c => ?_)
    · rw [c] at kk
      exact kk
    · have z : decide (lo ≤ (xs.length : Int)) = false := by
        cases h : decide (lo ≤ (xs.length : Int)) with
        | true => exact absurd h c
        | false => rfl
      rw [z] at kk
      exact kk
end
end K15

set_option Elab.async false
set_option linter.all false
set_option maxRecDepth 100000
set_option maxHeartbeats 8000000
namespace K15
open PySem PySem.Spec PyProof.Rows L2 Lf
/-- a source of draws of which at most n were mixed -/
def Src (H : Hp) (l : Addr) (n : Nat) : Prop := ∃ a b c : Int, H l = some (.lst [.int a, .int b, .int c]) ∧ 0 ≤ a ∧ (0 ≤ b ∧ b < 2147483587) ∧ 0 ≤ c ∧ c ≤ n
theorem yesT {σ : L2.St} {H : Hp} {A B : Hp → Prop} (h : A H) : tYes σ H fun b H3 => if b = true then A H3 else B H3 := by
  show if true = true then A H else B H
  rw [if_pos rfl]
  exact h
theorem Src.up {H : Hp} {l : Addr} {n m : Nat} (h : Src H l n) (e : n ≤ m) : Src H l m := by
  obtain ⟨a, b, c, h1, h2, h3, h4, h5⟩ := h
  exact ⟨a, b, c, h1, h2, h3, h4, by omega⟩
theorem Src.same {H H' : Hp} {l : Addr} {n : Nat} (h : Src H l n) (e : Same H H') : Src H' l n := by
  obtain ⟨a, b, c, h1, h2⟩ := h
  exact ⟨a, b, c, e _ _ h1, h2⟩
theorem great_div {a m : Int} (m0 : 0 < m) (m1 : m ≤ 1000000000000000000000000000000) : CDivW a m := by
  have e : (2 : Nat) ^ 100 = 1267650600228229401496703205376 := by decide +kernel
  refine wide_div (b := 100) m0 ?_ (by decide) (by decide)
  rw [e]
  omega
def spSource : Sp := fun vs H Q _ => ∃ n : Int, vs = [.int n] ∧ ∀ l H', H l = none → Same H H' → Src H' l 0 → Q (.ref l) H'
def spDraw : Sp := fun vs H Q _ => ∃ (l : Addr) (n : Nat) (m : Int), vs = [.ref l, .int m] ∧ Src H l n ∧ n ≤ 1000000 ∧ 0 < m ∧ m ≤ 1000000000000000000000000000000 ∧ ∀ (k : Int) H', 0 ≤ k → k < m → But l H H' → Src H' l (n + 1) → Q (.int k) H'
section
variable {P : Program} {w : World} {K : PySem.W.Frag} {mg : Str → Option Value} {base : Heap}
theorem scSource : FnScope ["_law_cell"] ["_law_cell"] (defScope s_L_source) := ⟨rfl, rfl, rfl, by decide +kernel, rfl, by decide +kernel, by decide +kernel⟩
theorem ok_source {f : Addr} {fd : FuncData} {q : Str} (F : FunD K "_law_source" q (defArgs s_L_source) (defBody s_L_source) (defScope s_L_source) [] [] f fd) (zA : mg "abs" = none) (zI : mg "int" = none) :
    FnOk P w K mg base CX0 1 f fd ["_law_cell"] spSource := by
  refine F.ok scSource (fun vs H Q E h => ?_) (fun cdv A outer s H vs Q E hr h => ?_)
  · obtain ⟨n, rfl, _⟩ := h
    rfl
  · obtain ⟨n, rfl, k⟩ := h
    refine ⟨_, PSs.nox (pss_cons (ps_set (i := 0) scSource.nd rfl (.inl rfl) (pe_callB call_abs rfl zA boot_abs (pa_cons (pv 0) pa_nil)))
      (pss_one (ps_ret (pe_lst (pa_cons (pe_op op_mul (pv 0) (pe_callTy call_int1 rfl zI boot_int (pa_cons (pe_cmpR op_ge (pv 0) (pe_op op_pow pe_int pe_int) (nomark _)) pa_nil)))
        (pa_cons (pe_op op_mod (pe_callTy call_int1 rfl zI boot_int (pa_cons (pv 0) pa_nil)) pe_int)
        (pa_cons pe_int pa_nil))))))), ?_⟩
    refine ⟨_, rfl, n, rfl, ?_⟩
    have nn : 0 ≤ (if n < 0 then -n else n) := by split <;> omega
    generalize (if n < 0 then -n else n) = a at nn ⊢
    refine ⟨_, rfl, _, rfl, 10, 18, rfl, rfl, ⟨by decide, by decide, by decide⟩, a, _, rfl, rfl, .inr ⟨_, rfl, a, _, rfl, rfl, .inr ?_, ?_⟩⟩
    · split <;> decide
    refine ⟨_, rfl, .inl ⟨a, rfl, a, 2147483587, rfl, rfl, (show (0 : Int) < 2147483587 by decide), ?_⟩⟩
    refine ⟨(by show 3 ≤ sizeLine; decide), fun l hl => k l _ hl (same_upd hl) ⟨_, _, _, upd_same, ?_, ?_, by decide, by decide⟩⟩
    · split
      · omega
      · simp
    · constructor <;> omega
theorem scDraw : FnScope ["_law_source_here", "_law_many", "_law_digit", "_law_mixed"] ["_law_source_here", "_law_many"] (defScope s_L_draw) := ⟨rfl, rfl, rfl, by decide +kernel, rfl, by decide +kernel, by decide +kernel⟩
theorem ok_draw {f : Addr} {fd : FuncData} {q : Str} (F : FunD K "_law_draw" q (defArgs s_L_draw) (defBody s_L_draw) (defScope s_L_draw) [] [] f fd) (zI : mg "int" = none) :
    FnOk P w K mg base CX0 1 f fd ["_law_source_here", "_law_many"] spDraw := by
  refine F.ok scDraw (fun vs H Q E h => ?_) (fun cdv A outer s H vs Q E hr h => ?_)
  · obtain ⟨l, n, m, rfl, _⟩ := h
    rfl
  · obtain ⟨l, n, m, rfl, ⟨a, b, c, hl, ha, ⟨hb1, hb2⟩, hc1, hc2⟩, n1, m0, m1, k⟩ := h
    have gI (i : Int) := i
    refine ⟨_, PSs.nox (pss_cons (ps_if (pt_cmpR op_gt (pe_ix ix_list (pv 0) pe_int (fun _ _ => rfl)) pe_int (nomark _))
        (pss_cons (ps_set (i := 2) scDraw.nd rfl (.inl rfl) (pe_op op_mod (pe_callTy call_int1 rfl zI boot_int (pa_cons (pe_ix ix_list (pv 0) pe_int (fun _ _ => rfl)) pa_nil)) (pv 1)))
        (pss_cons (ps_asg (pe_op op_fdivW (pe_ix ix_list (pv 0) pe_int (fun _ _ => rfl)) (pv 1)) (pg_sub (pv 0) pe_int set_list))
        (pss_one (ps_ret (pv 2))))) pss_nil)
      (pss_cons (ps_asg (pe_op op_add (pe_ix ix_list (pv 0) pe_int (fun _ _ => rfl)) pe_int) (pg_sub (pv 0) pe_int set_list))
      (pss_cons (ps_set (i := 3) scDraw.nd rfl (.inl rfl) (pe_op op_mod (pe_callTy call_int1 rfl zI boot_int (pa_cons (pe_op op_mul (pe_op op_add (pe_op op_add (pe_ix ix_list (pv 0) pe_int (fun _ _ => rfl)) (pe_op op_mul pe_int (pe_ix ix_list (pv 0) pe_int (fun _ _ => rfl)))) pe_int) pe_int) pa_nil)) pe_int))
      (pss_cons (ps_set (i := 3) scDraw.nd rfl (.inl rfl) (pe_op op_mod (pe_callTy call_int1 rfl zI boot_int (pa_cons (pe_op op_mul (pv 3) (pe_op op_add (pe_op op_fdiv (pv 3) pe_int) pe_int)) pa_nil)) pe_int))
      (pss_one (ps_ret (pe_op op_mod (pe_callTy call_int1 rfl zI boot_int (pa_cons (pe_op op_fdiv (pe_op op_mod (pe_callTy call_int1 rfl zI boot_int (pa_cons (pe_op op_mul (pv 3) (pe_op op_add (pe_op op_fdiv (pv 3) pe_int) pe_int)) pa_nil)) pe_int) pe_int) pa_nil)) (pv 1)))))))), ?_⟩
    have at0 : atI [V.int a, V.int b, V.int c] 0 = some (.int a) := rfl
    refine ⟨_, rfl, l, _, 0, _, rfl, rfl, SqL.of hl, at0, a, 0, rfl, rfl, _, rfl, ?_⟩
    refine ite2 (fun h0 => ?_) (fun h0 => ?_)
    · refine ⟨_, rfl, l, _, 0, _, rfl, rfl, SqL.of hl, at0, .inl ⟨a, rfl, _, rfl, a, m, rfl, rfl, m0, ?_⟩⟩
      refine ⟨_, rfl, l, _, 0, _, rfl, rfl, SqL.of hl, at0, _, rfl, a, m, rfl, rfl, great_div m0 m1, ?_⟩
      refine ⟨_, rfl, l, _, 0, 0, rfl, rfl, hl, rfl, ?_⟩
      exact ⟨_, rfl, k _ _ (Int.emod_nonneg _ (by omega)) (Int.emod_lt_of_pos _ m0) But.upd ⟨_, b, c, upd_same, Int.ediv_nonneg ha (by omega), ⟨hb1, hb2⟩, hc1, by omega⟩⟩
    · have at2 : atI [V.int a, V.int b, V.int c] 2 = some (.int c) := rfl
      have at1' : atI [V.int a, V.int b, V.int (c + 1)] 1 = some (.int b) := rfl
      have at2' : atI [V.int a, V.int b, V.int (c + 1)] 2 = some (.int (c + 1)) := rfl
      refine ⟨_, rfl, l, _, 2, _, rfl, rfl, SqL.of hl, at2, c, 1, rfl, rfl, _, rfl, l, _, 2, 2, rfl, rfl, hl, rfl, ?_⟩
      have hl' : L2.upd H l (.lst [V.int a, V.int b, V.int (c + 1)]) l = some (.lst [V.int a, V.int b, V.int (c + 1)]) := upd_same
      have bt : But l H (L2.upd H l (.lst [V.int a, V.int b, V.int (c + 1)])) := But.upd
      refine ⟨_, rfl, l, _, 1, _, rfl, rfl, SqL.of hl', at1', _, rfl, l, _, 2, _, rfl, rfl, SqL.of hl', at2', 7919, (c + 1), rfl, rfl, .inl ⟨by omega, by omega⟩, b, _, rfl, rfl, _, 13, rfl, rfl, _, 48271, rfl, rfl, .inl ⟨by omega, by omega⟩, .inl ⟨_, rfl, _, 2147483629, rfl, rfl, (show (0 : Int) < 2147483629 by decide), ?_⟩⟩
      generalize hz : (b + 7919 * (c + 1) + 13) * 48271 = z
      have z1 : 0 ≤ z % 2147483629 := Int.emod_nonneg _ (by decide)
      have z2 : z % 2147483629 < 2147483629 := Int.emod_lt_of_pos _ (by decide)
      obtain ⟨u, hu⟩ : ∃ u, z % 2147483629 = u := ⟨_, rfl⟩
      rw [hu] at z1 z2
      refine ⟨_, rfl, _, rfl, u, 1019, congrArg V.int hu, rfl, ⟨by decide, by decide⟩, _, 69621, rfl, rfl, u, _, congrArg V.int hu, rfl, .inl ⟨by omega, by omega⟩, .inl ⟨_, rfl, _, 2147483579, rfl, rfl, (show (0 : Int) < 2147483579 by decide), ?_⟩⟩
      generalize hy : u * (u / 1019 + 69621) = y
      have y1 : 0 ≤ y % 2147483579 := Int.emod_nonneg _ (by decide)
      have y2 : y % 2147483579 < 2147483579 := Int.emod_lt_of_pos _ (by decide)
      obtain ⟨v, hv⟩ : ∃ v, y % 2147483579 = v := ⟨_, rfl⟩
      rw [hv] at y1 y2
      refine ⟨_, rfl, _, rfl, v, 2003, congrArg V.int hv, rfl, ⟨by decide, by decide⟩, _, 40692, rfl, rfl, v, _, congrArg V.int hv, rfl, .inl ⟨by omega, by omega⟩, .inl ⟨_, rfl, _, 2147483549, rfl, rfl, (show (0 : Int) < 2147483549 by decide), ?_⟩⟩
      refine ⟨_, 3, rfl, rfl, ⟨by decide, by decide⟩, .inl ⟨_, rfl, _, rfl, _, m, rfl, rfl, m0, ?_⟩⟩
      exact k _ _ (Int.emod_nonneg _ (by omega)) (Int.emod_lt_of_pos _ m0) But.upd ⟨a, b, c + 1, upd_same, ha, ⟨hb1, hb2⟩, by omega, by omega⟩
end
end K15

set_option Elab.async false
set_option linter.all false
set_option maxRecDepth 100000
set_option maxHeartbeats 8000000
namespace K15
open PySem PySem.Spec PyProof.Rows L2 Lf
/-- what the head says, for one module -/
structure Txt (P : Program) (w : World) (K : PySem.W.Frag) (mg : Str → Option Value) (base : Heap) : Prop where
  d : He.SaysD fa fn K
  m : ex K = true
  gl : ∀ (i : Nat) (x : Str), fa[i]? = some (.glo x) → mg x = some (.ref (He.ga K x))
  fr : ∀ (i : Nat) (x : Str), fa[i]? = some (.free x) → mg x = none
  it : ∀ (i : Nat) (x : Str) (v : Int), fa[i]? = some (.int x v) → ∃ t, mg x = some (.int v t)
  st : ∀ (i : Nat) (x v : Str), fa[i]? = some (.str x v) → ∃ t, mg x = some (.str v t)
theorem pe_gstr {X : Cx} {x v : Str} {t : Tok} {pos : Pos} (hg : Gl X x) (hm : X.mg x = some (.str v t)) (hd : (x == ("__debug__" : Str)) = false := by decide +kernel) : PE X (.Name x pos) (tC (.str v)) := pe_glob hg hm ⟨t, rfl⟩ hd
/-- numbers as values -/
abbrev nv (i : Nat) : V := .int (i : Nat)
/-- the rows at r: lists -/
structure RowsL (K : PySem.W.Frag) (H : Hp) (r : Addr) (rows : List (List Nat)) : Prop where
  ex : ∃ as : List Addr, SqL K H r (as.map V.ref) ∧ as.length = rows.length ∧ ∀ (i : Nat) a row, as[i]? = some a → rows[i]? = some row → SqL K H a (row.map nv)
/-- .. tuples -/
structure RowsT (K : PySem.W.Frag) (H : Hp) (r : Addr) (rows : List (List Nat)) : Prop where
  ex : ∃ as : List Addr, SqT K H r (as.map V.ref) ∧ as.length = rows.length ∧ ∀ (i : Nat) a row, as[i]? = some a → rows[i]? = some row → SqT K H a (row.map nv)
theorem RowsL.same {K : PySem.W.Frag} {H H' : Hp} {r : Addr} {rows : List (List Nat)} (h : RowsL K H r rows) (e : Same H H') : RowsL K H' r rows := by
  obtain ⟨as, a, b, c⟩ := h.ex
  exact ⟨as, L2.Same.seq e a, b, fun i x row h1 h2 => L2.Same.seq e (c i x row h1 h2)⟩
theorem RowsT.same {K : PySem.W.Frag} {H H' : Hp} {r : Addr} {rows : List (List Nat)} (h : RowsT K H r rows) (e : Same H H') : RowsT K H' r rows := by
  obtain ⟨as, a, b, c⟩ := h.ex
  exact ⟨as, Lf.SqT.same e a, b, fun i x row h1 h2 => Lf.SqT.same e (c i x row h1 h2)⟩
theorem map_get {α β : Type} {f : α → β} {l : List α} {i : Nat} {y : β} (h : (l.map f)[i]? = some y) : ∃ a, l[i]? = some a ∧ y = f a := by
  rw [List.getElem?_map] at h
  cases e : l[i]? with
  | none => rw [e] at h; cases h
  | some a => rw [e] at h; exact ⟨a, rfl, (Option.some.inj h).symm⟩
theorem get_map {α β : Type} {f : α → β} {l : List α} {i : Nat} {a : α} (h : l[i]? = some a) : (l.map f)[i]? = some (f a) := by rw [List.getElem?_map, h]; rfl
theorem get_lt {α : Type} {l : List α} {i : Nat} {a : α} (h : l[i]? = some a) : i < l.length := (List.getElem?_eq_some_iff.mp h).1
theorem lt_get {α : Type} {l : List α} {i : Nat} (h : i < l.length) : ∃ a, l[i]? = some a := ⟨_, List.getElem?_eq_getElem h⟩
theorem seq_dec {lo hi : Int} {n : Nat} (a : lo ≤ (n : Int)) (b : (n : Int) ≤ hi) : (decide (lo ≤ (n : Int)) && decide ((n : Int) ≤ hi)) = true := by
  rw [decide_eq_true a, decide_eq_true b]
  rfl
theorem btw_nv {i n : Nat} (h : i < n) : btw 0 ((n : Int) - 1) (nv i) = true := by
  show (decide ((0 : Int) ≤ (i : Nat)) && decide (((i : Nat) : Int) ≤ (n : Int) - 1)) = true
  rw [decide_eq_true (by omega), decide_eq_true (by omega)]
  rfl
theorem all_true {n : Nat} : (List.replicate n true).all id = true := by
  rw [List.all_eq_true]
  intro x hx
  exact (List.mem_replicate.mp hx).2
/-- the form of a table -/
def Form (rows : List (List Nat)) (w : Nat) : Prop := 1 ≤ rows.length ∧ rows.length ≤ 2000 ∧ 1 ≤ w ∧ w ≤ 6 ∧ ∀ row ∈ rows, row.length = w ∧ ∀ t ∈ row, t < rows.length
def spForm (K : PySem.W.Frag) : Sp := fun vs H Q _ => ∃ r rows w, vs = [.ref r] ∧ RowsL K H r rows ∧ Form rows w ∧ ∀ H', Same H H' → Q .non H'
abbrev rLenS (K : PySem.W.Frag) : List V → Hp → VK → Prop := fun xs H Q => ∃ p ys, xs = [V.ref p] ∧ (SqL K H p ys ∨ SqT K H p ys) ∧ Q (V.int ys.length) H
abbrev teForm (K : PySem.W.Frag) : TE := fun σ H Q => (tCons (tVar 3) (tCons (tC (.int 0)) (tCons (tOp (rI0 fun i j => .int (i - j)) (tCB (rLenS K) (tCons (tVar 0) tNil)) (tC (.int 1))) tNil))) σ H fun vs H1 => spBtw vs H1 Q E0
section
variable {P : Program} {w : World} {K : PySem.W.Frag} {mg : Str → Option Value} {base : Heap}
theorem scForm : FnScope ["right", "place", "row", "entry"] ["right"] (defScope s_check_form) := ⟨rfl, rfl, rfl, by decide +kernel, rfl, by decide +kernel, by decide +kernel⟩
theorem ok_form {f : Addr} {fd : FuncData} {q : Str} (F : FunD K "_check_form" q (defArgs s_check_form) (defBody s_check_form) (defScope s_check_form) [] [] f fd) (T : Txt P w K mg base)
    (DS : Def P w K mg base CX0 1 "is_sequence" ["thing", "least", "most"] (spSeq K)) (DB : Def P w K mg base CX0 2 "is_between" ["thing", "least", "most"] spBtw) :
    FnOk P w K mg base CX0 3 f fd ["right"] (spForm K) := by
  obtain ⟨tM, gM⟩ := T.it 27 "MOST_SIZE" 2000 rfl
  obtain ⟨tL, gL⟩ := T.st 29 "LETTERS" "abcdef" rfl
  have zE : mg "enumerate" = none := T.fr 36 "enumerate" rfl
  have zn : mg "len" = none := T.fr 39 "len" rfl
  have za : mg "all" = none := T.fr 33 "all" rfl
  refine F.ok scForm (fun vs H Q E h => ?_) (fun cdv A outer s H vs Q E hr h => ?_)
  · obtain ⟨r, rows, wd, rfl, _⟩ := h
    rfl
  · obtain ⟨r, rows, wd, rfl, R, ⟨n1, n2, w1, w6, row⟩, k⟩ := h
    have r1 : Room 1 _ := hr.mono (by decide)
    refine ⟨_, PSs.nox (pss_cons (ps_if (pt_not (pt_val (pe_def DS r1 pass0 rfl (pa_cons (pv 0) (pa_cons pe_int (pa_cons (pe_gint rfl gM) pa_nil)))))) (pss_one ps_never) pss_nil)
      (pss_one (ps_for PassesOwn.never rfl (pi_enumA rfl zE (pv 0)) (pg_tup rfl (pgs_cons (pg_name (i := 1) scForm.nd rfl (.inl rfl)) (pgs_cons (pg_name (i := 2) scForm.nd rfl (.inl rfl)) pgs_nil)))
        (pss_cons (ps_if (PW.pt (pw_or (pt_not (pt_val (pe_def DS r1 pass0 rfl (pa_cons (pv 2) (pa_cons pe_int (pa_cons (pe_callB call_len_str rfl zn boot_len (pa_cons (pe_gstr rfl gL) pa_nil)) pa_nil))))))
            (pw_or1 (pt_cmpR op_ne (pe_callB call_len_seq rfl zn boot_len (pa_cons (pv 2) pa_nil)) (pe_callB call_len_seq rfl zn boot_len (pa_cons (pe_ix ix_list (pv 0) pe_int (fun _ _ => rfl)) pa_nil)) (nomark _))))) (pss_one ps_never) pss_nil)
        (pss_one (ps_if (pt_not (pt_val (pe_callB (cr_all rfl) rfl za (by decide +kernel) (pa_cons (pe_lc (own := [("entry", 3)]) (g := gName 3) (te := teForm K) (by rfl) scForm.nd (pi_list (pv 2)) (blkOk_by (own := [("entry", 3)]) (N := ["right", "place", "row", "entry"]) (sc := defScope s_check_form) (by decide +kernel)) (fun _ _ _ _ _ => pg_name (i := 3) scForm.nd rfl (Or.inl rfl)) (fun _ _ _ _ _ => pts_nil)
            (fun _ _ _ _ _ => by exact pe_def DB hr pass0 rfl (pa_cons (pv 3) (pa_cons pe_int (pa_cons (pe_op op_sub (pe_callB call_len_seq rfl zn boot_len (pa_cons (pv 0) pa_nil)) pe_int) pa_nil))))) pa_nil)))) (pss_one ps_never) pss_nil)))))), ?_⟩
    obtain ⟨as, sr, la, srow⟩ := R.ex
    have ln : (as.map V.ref).length = rows.length := by rw [List.length_map, la]
    refine ⟨_, rfl, r, as.map V.ref, 1, 2000, rfl, .inl sr, fun H1 s1 => ⟨_, rfl, ?_⟩⟩
    rw [seq_dec (by omega) (by omega)]
    refine ifF rfl ?_
    refine ⟨_, rfl, r, as.map V.ref, rfl, .inl ⟨L2.Same.seq s1 sr, ?_⟩⟩
    have wk : Walk (Ite K r) (as.map V.ref).length (fun H2 => Same H H2) (fun i H v H' => ∃ T x, v = .ref T ∧ H T = none ∧ H' = L2.upd H T (.tup [.int (i : Nat), x]) ∧ (as.map V.ref)[i]? = some x) := (walk_enumL (xs := as.map V.ref)).mono (fun H s => L2.Same.seq s sr) (fun i H x H' _ _ y => y)
    refine for_it wk (fun i σ H2 => ∃ v1 v2 : Option V, σ = [some (.ref r), v1, v2, none] ∧ Same H H2) ⟨none, none, rfl, s1⟩ (fun i σ H2 _ ⟨_, _, _, s⟩ => s) ?_ ?_
    · rintro i x σ H2 H3 hi ⟨v1, v2, rfl, s2⟩ ⟨T', y, rfl, nT, rfl, hy⟩
      obtain ⟨a, ha, rfl⟩ := map_get hy
      have hi2 : i < rows.length := by rw [← ln]; exact hi
      obtain ⟨rw_, hrw⟩ := lt_get hi2
      have sa := srow i a rw_ ha hrw
      obtain ⟨lw, ent⟩ := row rw_ (List.mem_of_getElem? hrw)
      refine ⟨T', _, rfl, SqT.of upd_same, rfl, _, _, rfl, _, _, rfl, rfl, ?_⟩
      have s3 := s2.trans (same_upd (o := .tup [.int (i : Nat), .ref a]) nT)
      generalize L2.upd H2 T' (.tup [.int (i : Nat), .ref a]) = H3 at s3 ⊢
      refine ⟨_, rfl, _, rfl, (by decide +kernel), a, rw_.map nv, 1, 6, rfl, .inl (L2.Same.seq s3 sa), fun H4 s4 => ⟨_, rfl, ?_⟩⟩
      rw [List.length_map, seq_dec (by omega) (by omega)]
      refine ifF rfl ?_
      have s5 := s3.trans s4
      obtain ⟨a0, h0⟩ := lt_get (show 0 < as.length by omega)
      obtain ⟨rw0, hrw0⟩ := lt_get (show 0 < rows.length by omega)
      have lw0 := (row rw0 (List.mem_of_getElem? hrw0)).1
      refine ⟨_, rfl, a, rw_.map nv, rfl, .inl (L2.Same.seq s5 sa), _, rfl, r, as.map V.ref, 0, .ref a0, rfl, rfl, L2.Same.seq s5 sr, ?_, a0, rw0.map nv, rfl, .inl (L2.Same.seq s5 (srow 0 a0 rw0 h0 hrw0)), rfl, _, rfl, ?_⟩
      · exact atI_nat (j := 0) (get_map h0)
      refine ifF (by simp [lw, lw0]) ?_
      refine ⟨_, rfl, a, rfl, ⟨_, L2.Same.seq s5 sa⟩, fun D nD => ?_⟩
      refine lc_list (K := K) (a := a) (xs := rw_.map nv) (fun j Hc => But D H4 Hc ∧ Hc D = some (.lst (List.replicate j (V.bl true)))) ⟨But.upd, upd_same⟩ (fun j Hc _ ⟨bc, _⟩ => L2.Same.seq (Same.but (L2.Same.refl _) nD bc) (L2.Same.seq s5 sa)) (fun j z Hc hz ⟨bc, hD⟩ => ?_) (fun Hc ⟨bc, hD⟩ => ?_)
      · obtain ⟨t, ht, rfl⟩ := map_get hz
        refine ⟨rfl, yesT ?_⟩
        have sc := s5.trans (Same.but (L2.Same.refl _) nD bc)
        refine ⟨_, rfl, _, rfl, r, as.map V.ref, rfl, .inl (L2.Same.seq sc sr), _, 1, rfl, rfl, nv t, 0, _, rfl, True.intro, ?_⟩
        rw [ln, btw_nv (ent t (List.mem_of_getElem? ht))]
        refine ⟨_, hD, ?_, But.trans bc But.upd, ?_⟩
        · rw [List.length_replicate]
          have := get_lt ht
          show j < 16777216
          omega
        · rw [upd_same, List.replicate_succ']
      · rw [List.length_map] at hD
        have sc := s5.trans (Same.but (L2.Same.refl _) nD bc)
        refine ⟨D, List.replicate rw_.length true, rfl, SqL.of (by rw [List.map_replicate]; exact hD), ?_⟩
        rw [all_true]
        refine ⟨_, rfl, ?_⟩
        exact ifF rfl ⟨_, _, rfl, sc⟩
    · rintro σ H2 ⟨v1, v2, rfl, s2⟩
      exact k _ s2
end
end K15

set_option Elab.async false
set_option linter.all false
set_option maxRecDepth 100000
set_option maxHeartbeats 8000000
namespace K15
open PySem PySem.Spec PyProof.Rows L2 Lf
/-- how the elements are made: a tuple of None and pairs -/
structure MadeT (K : PySem.W.Frag) (H : Hp) (t : Addr) (m : List (Nat × Nat)) : Prop where
  ex : ∃ ps : List Addr, SqT K H t (.non :: ps.map V.ref) ∧ ps.length = m.length ∧ ∀ (k : Nat) a p, ps[k]? = some a → m[k]? = some p → SqT K H a [nv p.1, nv p.2]
theorem MadeT.same {K : PySem.W.Frag} {H H' : Hp} {t : Addr} {m : List (Nat × Nat)} (h : MadeT K H t m) (e : Same H H') : MadeT K H' t m := by
  obtain ⟨ps, a, b, c⟩ := h.ex
  exact ⟨ps, Lf.SqT.same e a, b, fun k x p h1 h2 => Lf.SqT.same e (c k x p h1 h2)⟩
/-- .. the list that grows -/
def MadeL (H : Hp) (M : Addr) (m : List (Nat × Nat)) : Prop := ∃ ps : List Addr, H M = some (.lst (.non :: ps.map V.ref)) ∧ ps.length = m.length ∧ ∀ (k : Nat) a p, ps[k]? = some a → m[k]? = some p → H a = some (.tup [nv p.1, nv p.2])
theorem MadeL.same {H H' : Hp} {M : Addr} {m : List (Nat × Nat)} (h : MadeL H M m) (e : Same H H') : MadeL H' M m := by
  obtain ⟨ps, a, b, c⟩ := h
  exact ⟨ps, e _ _ a, b, fun k x p h1 h2 => e _ _ (c k x p h1 h2)⟩
def spMade (K : PySem.W.Frag) : Sp := fun vs H Q _ => ∃ r rows m, vs = [.ref r] ∧ RowsT K H r rows ∧ Mon.madeTab 0 rows [] = some m ∧ m.length ≤ 2000 ∧ ∀ t H', Same H H' → MadeT K H' t m → Q (.ref t) H'
theorem len_grow {rows : List (List Nat)} {m m' : List (Nat × Nat)} {i : Nat} (h : Mon.madeTab 0 rows [] = some m) (h' : Mon.madeTab 0 (rows.take i) [] = some m') : m'.length ≤ m.length := by
  have e := List.take_append_drop i rows
  rw [← e, Mon.madeTab_app, h', Option.bind_some] at h
  obtain ⟨x, hx, _⟩ := Mon.madeTab_ok h
  rw [hx, List.length_append]
  omega
theorem len_growR {row : List Nat} {m m2 m' : List (Nat × Nat)} {i c : Nat} (h : Mon.madeRow i 0 row m = some m2) (h' : Mon.madeRow i 0 (row.take c) m = some m') : m'.length ≤ m2.length := by
  have e := List.take_append_drop c row
  rw [← e, Mon.madeRow_app, h', Option.bind_some] at h
  obtain ⟨x, hx, _⟩ := Mon.madeRow_ok h
  rw [hx, List.length_append]
  omega
section
variable {P : Program} {w : World} {K : PySem.W.Frag} {mg : Str → Option Value} {base : Heap}
theorem scMade : FnScope ["right", "made", "number", "row", "letter", "reached"] ["right"] (defScope s_made_by) := ⟨rfl, rfl, rfl, by decide +kernel, rfl, by decide +kernel, by decide +kernel⟩
theorem ok_made {f : Addr} {fd : FuncData} {q : Str} (F : FunD K "_made_by" q (defArgs s_made_by) (defBody s_made_by) (defScope s_made_by) [] [] f fd) (T : Txt P w K mg base) :
    FnOk P w K mg base CX0 1 f fd ["right"] (spMade K) := by
  have zE : mg "enumerate" = none := T.fr 36 "enumerate" rfl
  have zn : mg "len" = none := T.fr 39 "len" rfl
  have zt : mg "tuple" = none := T.fr 44 "tuple" rfl
  refine F.ok scMade (fun vs H Q E h => ?_) (fun cdv A outer s H vs Q E hr h => ?_)
  · obtain ⟨r, rows, m, rfl, _⟩ := h
    rfl
  · obtain ⟨r, rows, m, rfl, R, hm, lm, k⟩ := h
    refine ⟨_, PSs.nox (pss_cons (ps_set (i := 1) scMade.nd rfl (.inl rfl) (pe_lst (pa_cons pe_non pa_nil)))
      (pss_cons (ps_for PassesOwn.never rfl (pi_enumA rfl zE (pv 0)) (pg_tup rfl (pgs_cons (pg_name (i := 2) scMade.nd rfl (.inl rfl)) (pgs_cons (pg_name (i := 3) scMade.nd rfl (.inl rfl)) pgs_nil)))
        (pss_cons (ps_if (pt_cmpR op_ge (pv 2) (pe_callB call_len_seq rfl zn boot_len (pa_cons (pv 1) pa_nil)) (nomark _)) (pss_one ps_never) pss_nil)
        (pss_one (ps_for PassesOwn.never rfl (pi_enumA rfl zE (pv 3)) (pg_tup rfl (pgs_cons (pg_name (i := 4) scMade.nd rfl (.inl rfl)) (pgs_cons (pg_name (i := 5) scMade.nd rfl (.inl rfl)) pgs_nil)))
          (pss_cons (ps_if (pt_cmpR op_gt (pv 5) (pe_callB call_len_seq rfl zn boot_len (pa_cons (pv 1) pa_nil)) (nomark _)) (pss_one ps_never) pss_nil)
          (pss_one (ps_if (pt_cmpR op_eq (pv 5) (pe_callB call_len_seq rfl zn boot_len (pa_cons (pv 1) pa_nil)) (nomark _))
            (pss_one (ps_expr (pe_bm PySem.F.plainAttrs_list PySem.F.slot_list_append PySem.F.type_list_append mt_append (pv 1) (pa_cons (pe_tup (pa_cons (pv 2) (pa_cons (pv 4) pa_nil))) pa_nil)))) pss_nil)))))))
      (pss_one (ps_ret (pe_callTy call_tuple_of rfl zt PyProof.Rows.boot_tuple (pa_cons (pv 1) pa_nil)))))), ?_⟩
    obtain ⟨as, sr, la, srow⟩ := R.ex
    have ln : (as.map V.ref).length = rows.length := by rw [List.length_map, la]
    refine ⟨(by show 1 ≤ sizeLine; decide), fun M nM => ?_⟩
    have s1 := same_upd (o := .lst [V.non]) nM
    have m1 : MadeL (L2.upd H M (.lst [V.non])) M [] := ⟨[], upd_same, rfl, fun k a p h => by simp at h⟩
    generalize L2.upd H M (.lst [V.non]) = H1 at s1 m1 ⊢
    refine ⟨_, rfl, r, as.map V.ref, rfl, .inr ⟨Lf.SqT.same s1 sr, ?_⟩⟩
    have wk : Walk (Itet K r) (as.map V.ref).length (fun H2 => Same H H2) (fun i H v H' => ∃ T x, v = .ref T ∧ H T = none ∧ H' = L2.upd H T (.tup [.int (i : Nat), x]) ∧ (as.map V.ref)[i]? = some x) := (walk_enumT (xs := as.map V.ref)).mono (fun H s => Lf.SqT.same s sr) (fun i H x H' _ _ y => y)
    refine for_it wk (fun i σ H2 => ∃ v2 v3 v4 v5 : Option V, σ = [some (.ref r), some (.ref M), v2, v3, v4, v5] ∧ Same H H2 ∧ ∃ m', Mon.madeTab 0 (rows.take i) [] = some m' ∧ MadeL H2 M m') ⟨none, none, none, none, rfl, s1, [], by simp [Mon.madeTab], m1⟩ (fun i σ H2 _ ⟨_, _, _, _, _, s, _⟩ => s) ?_ ?_
    · rintro i x σ H2 H3 hi ⟨v2, v3, v4, v5, rfl, s2, m', hm', ml⟩ ⟨T', y, rfl, nT, rfl, hy⟩
      obtain ⟨a, ha, rfl⟩ := map_get hy
      have hi2 : i < rows.length := by rw [← ln]; exact hi
      obtain ⟨row, hrow⟩ := lt_get hi2
      have sa := srow i a row ha hrow
      obtain ⟨m0, e0, i0, m2, e2, e3⟩ := Mon.madeTab_at hm hrow
      rw [hm'] at e0
      cases e0
      have l2 := len_grow hm e3
      refine ⟨T', _, rfl, SqT.of upd_same, rfl, _, _, rfl, _, _, rfl, rfl, ?_⟩
      have u3 := same_upd (o := .tup [.int (i : Nat), .ref a]) nT
      have s3 := s2.trans u3
      have ml3 := ml.same u3
      generalize L2.upd H2 T' (.tup [.int (i : Nat), .ref a]) = H3 at s3 ml3 ⊢
      clear u3 ml
      obtain ⟨ps, hM, lp, _⟩ := id ml3
      refine ⟨_, rfl, _, rfl, M, _, rfl, .inl (SqL.of hM), _, _, rfl, rfl, _, rfl, ?_⟩
      refine ifF (by rw [decide_eq_false]; simp; omega) ?_
      clear hM lp
      have sa3 := Lf.SqT.same s3 sa
      refine ⟨_, rfl, a, row.map nv, rfl, .inr ⟨sa3, ?_⟩⟩
      have wk2 : Walk (Itet K a) (row.map nv).length (fun H2 => Same H H2) (fun i H v H' => ∃ T x, v = .ref T ∧ H T = none ∧ H' = L2.upd H T (.tup [.int (i : Nat), x]) ∧ (row.map nv)[i]? = some x) := (walk_enumT (xs := row.map nv)).mono (fun H s => Lf.SqT.same s sa) (fun i H x H' _ _ y => y)
      refine for_it wk2 (fun j σ H4 => ∃ v4 v5 : Option V, σ = [some (.ref r), some (.ref M), some (nv i), some (.ref a), v4, v5] ∧ Same H H4 ∧ ∃ m'', Mon.madeRow i 0 (row.take j) m' = some m'' ∧ MadeL H4 M m'') ⟨_, _, rfl, s3, m', by simp [Mon.madeRow], ml3⟩ (fun j σ H4 _ ⟨_, _, _, s, _⟩ => s) ?_ ?_
      · rintro j x σ H4 H5 hj ⟨v4, v5, rfl, s4, m4, hm4, ml4⟩ ⟨T2, y, rfl, nT2, rfl, hy2⟩
        obtain ⟨t, ht, rfl⟩ := map_get hy2
        obtain ⟨m5, e5, t5, e6⟩ := Mon.madeRow_at e2 ht
        rw [hm4] at e5
        cases e5
        have l4 := len_growR e2 hm4
        refine ⟨T2, _, rfl, SqT.of upd_same, rfl, _, _, rfl, _, _, rfl, rfl, ?_⟩
        have u5 := same_upd (o := .tup [.int (j : Nat), nv t]) nT2
        have s5 := s4.trans u5
        have ml5 := ml4.same u5
        generalize L2.upd H4 T2 (.tup [.int (j : Nat), nv t]) = H5 at s5 ml5 ⊢
        clear u5 ml4
        obtain ⟨ps, hM, lp, pp⟩ := id ml5
        have len : (V.non :: ps.map V.ref).length = m4.length + 1 := by rw [List.length_cons, List.length_map, lp]
        refine ⟨_, rfl, _, rfl, M, _, rfl, .inl (SqL.of hM), _, _, rfl, rfl, _, rfl, ?_⟩
        refine ifF (by rw [decide_eq_false]; rw [len]; omega) ?_
        refine ⟨_, rfl, _, rfl, M, _, rfl, .inl (SqL.of hM), rfl, _, rfl, ?_⟩
        refine ite2 (fun c => ?_) (fun c => ?_)
        · have ct : t = m4.length + 1 := by
            have := of_decide_eq_true c
            rw [len] at this
            injection this with this
            omega
          rw [if_pos ct] at e6
          refine ⟨_, rfl, .inl ⟨rfl, _, SqL.of hM⟩, _, rfl, _, rfl, (by show 2 ≤ sizeLine; decide), fun N nN => ?_⟩
          have u6 := same_upd (o := .tup [nv i, nv j]) nN
          have hN : L2.upd H5 N (.tup [nv i, nv j]) N = some (.tup [nv i, nv j]) := upd_same
          have s6 := s5.trans u6
          have hM6 := u6 _ _ hM
          have pp6 : ∀ (k : Nat) a p, ps[k]? = some a → m4[k]? = some p → L2.upd H5 N (.tup [nv i, nv j]) a = some (.tup [nv p.1, nv p.2]) := fun k a p h1 h2 => u6 _ _ (pp k a p h1 h2)
          have nMN : N ≠ M := fun z => by rw [z, hM] at nN; cases nN
          generalize L2.upd H5 N (.tup [nv i, nv j]) = H6 at s6 hM6 pp6 hN ⊢
          refine ⟨M, _, _, rfl, rfl, hM6, by rw [len]; show m4.length + 1 < 16777216; omega, _, _, rfl, fun b o e => ?_, _, e6, ps ++ [N], ?_, by simp [lp], fun k a p h1 h2 => ?_⟩
          · rw [upd_ne (ne_of_none e nM)]
            exact s6 _ _ e
          · rw [upd_same]
            simp
          · by_cases hk : k < ps.length
            · rw [List.getElem?_append_left hk] at h1
              rw [List.getElem?_append_left (by omega)] at h2
              have := pp6 k a p h1 h2
              rw [upd_ne (fun z => by rw [z, hM6] at this; cases this)]
              exact this
            · have hk2 : k = ps.length := by
                have := get_lt h1
                rw [List.length_append, List.length_singleton] at this
                omega
              rw [hk2, List.getElem?_append_right (Nat.le_refl _), Nat.sub_self] at h1
              rw [hk2, lp, List.getElem?_append_right (Nat.le_refl _), Nat.sub_self] at h2
              cases h1
              cases h2
              rw [upd_ne nMN]
              exact hN
        · have ct : t ≠ m4.length + 1 := fun z => c (by
            rw [len, z]
            exact decide_eq_true rfl)
          rw [if_neg ct] at e6
          exact ⟨_, _, rfl, s5, _, e6, ml5⟩
      · rintro σ H4 ⟨v4, v5, rfl, s4, m4, hm4, ml4⟩
        rw [List.length_map, List.take_length, e2] at hm4
        cases hm4
        exact ⟨_, _, _, _, rfl, s4, _, e3, ml4⟩
    · rintro σ H2 ⟨v2, v3, v4, v5, rfl, s2, m', hm', ps, hM, lp, pp⟩
      rw [ln, List.take_length, hm] at hm'
      cases hm'
      refine ⟨_, rfl, M, _, rfl, .inl ⟨SqL.of hM, fun t nt => ?_⟩⟩
      have u3 := same_upd (o := .tup (V.non :: ps.map V.ref)) nt
      exact k t _ (s2.trans u3) ⟨ps, SqT.of upd_same, lp, fun k a p h1 h2 => SqT.of (u3 _ _ (pp k a p h1 h2))⟩
end
end K15

set_option Elab.async false
set_option linter.all false
set_option maxRecDepth 100000
set_option maxHeartbeats 8000000
namespace K15
open PySem PySem.Spec PyProof.Rows L2 Lf
theorem sIx1 {n : Nat} : HT.sIx (n + 1) 0 (some 1) = 1 := by
  unfold HT.sIx
  simp
theorem cut1 {x : V} {r : List V} : cutV (x :: r) (some 1) none = r := by
  unfold cutV
  rw [List.length_cons, sIx1]
  simp [HT.sIx]
def spLeft (K : PySem.W.Frag) : Sp := fun vs H Q _ => ∃ r t rows m, vs = [.ref r, .ref t] ∧ RowsT K H r rows ∧ MadeT K H t m ∧ rows ≠ [] ∧ m.length ≤ 2000 ∧ (∀ (k : Nat) p, m[k]? = some p → p.1 < k + 1 ∧ ∀ row ∈ rows, p.2 < row.length) ∧
  (∀ (i k : Nat) l, (Mon.leftTab rows (m.take i))[k]? = some l → l.length ≤ 2000 ∧ ∀ x ∈ l, x < rows.length) ∧ ∀ q H', Same H H' → RowsT K H' q (Mon.leftTab rows m) → Q (.ref q) H'
abbrev teLeft (K : PySem.W.Frag) : TE := tOp (rIxT K) (tOp (rIxT K) (tVar 0) (tVar 5)) (tVar 4)
/-- rows[x][c] -/
theorem ix2 {K : PySem.W.Frag} {H : Hp} {r : Addr} {as : List Addr} {rows : List (List Nat)} (sr : SqT K H r (as.map V.ref)) (la : as.length = rows.length) (srow : ∀ (i : Nat) a row, as[i]? = some a → rows[i]? = some row → SqT K H a (row.map nv)) {x c : Nat} (hx : x < rows.length) (hc : ∀ row ∈ rows, c < row.length) {Q : VK}
    (k : Q (nv ((rows.getD x []).getD c 0)) H) : rIxT K (.ref r) (nv x) H fun y H' => rIxT K y (nv c) H' Q := by
  obtain ⟨a, ha⟩ := lt_get (show x < as.length by omega)
  obtain ⟨row, hrow⟩ := lt_get hx
  obtain ⟨t, ht⟩ := lt_get (hc row (List.mem_of_getElem? hrow))
  rw [Mon.getD_of hrow, Mon.getD_of ht] at k
  exact ⟨r, as.map V.ref, _, .ref a, rfl, rfl, sr, atI_nat (get_map ha), a, row.map nv, _, nv t, rfl, rfl, srow x a row ha hrow, atI_nat (get_map ht), k⟩
section
variable {P : Program} {w : World} {K : PySem.W.Frag} {mg : Str → Option Value} {base : Heap}
theorem scLeft : FnScope ["right", "made", "table", "before", "letter", "number"] ["right", "made"] (defScope s_left_table) := ⟨rfl, rfl, rfl, by decide +kernel, rfl, by decide +kernel, by decide +kernel⟩
theorem ok_left {f : Addr} {fd : FuncData} {q : Str} (F : FunD K "_left_table" q (defArgs s_left_table) (defBody s_left_table) (defScope s_left_table) [] [] f fd) (T : Txt P w K mg base) :
    FnOk P w K mg base CX0 1 f fd ["right", "made"] (spLeft K) := by
  have zt : mg "tuple" = none := T.fr 44 "tuple" rfl
  refine F.ok scLeft (fun vs H Q E h => ?_) (fun cdv A outer s H vs Q E hr h => ?_)
  · obtain ⟨r, t, rows, m, rfl, _⟩ := h
    rfl
  · obtain ⟨r, t, rows, m, rfl, R, M, ne, lm, hm, hL, k⟩ := h
    refine ⟨_, PSs.nox (pss_cons (ps_set (i := 2) scLeft.nd rfl (.inl rfl) (pe_lst (pa_cons (pe_ix ix_tup (pv 0) pe_int (fun _ _ => rfl)) pa_nil)))
      (pss_cons (ps_for PassesOwn.never rfl (pi_tup (pe_slice sl_tup (pv 1) (po_some pe_int) po_none)) (pg_tup rfl (pgs_cons (pg_name (i := 3) scLeft.nd rfl (.inl rfl)) (pgs_cons (pg_name (i := 4) scLeft.nd rfl (.inr rfl)) pgs_nil)))
        (pss_one (ps_expr (pe_bm PySem.F.plainAttrs_list PySem.F.slot_list_append PySem.F.type_list_append mt_append (pv 2) (pa_cons (pe_callTy call_tuple_of rfl zt PyProof.Rows.boot_tuple
          (pa_cons (pe_lc (own := [("number", 5)]) (g := gName 5) (te := teLeft K) (by rfl) scLeft.nd (pi_tup (pe_ix ix_list (pv 2) (pv 3) (fun _ _ => rfl))) (blkOk_by (own := [("number", 5)]) (N := ["right", "made", "table", "before", "letter", "number"]) (sc := defScope s_left_table) (by decide +kernel)) (fun _ _ _ _ _ => pg_name (i := 5) scLeft.nd rfl (Or.inl rfl)) (fun _ _ _ _ _ => pts_nil)
            (fun _ _ _ _ _ => by exact pe_ix ix_tup (pe_ix ix_tup (pv 0) (pv 5) (fun _ _ => rfl)) (pv 4) (fun _ _ => rfl))) pa_nil)) pa_nil)))))
      (pss_one (ps_ret (pe_callTy call_tuple_of rfl zt PyProof.Rows.boot_tuple (pa_cons (pv 2) pa_nil)))))), ?_⟩
    obtain ⟨as, sr, la, srow⟩ := R.ex
    obtain ⟨ps, sm, lp, sp⟩ := M.ex
    have n0 : 0 < rows.length := List.length_pos_iff.mpr ne
    obtain ⟨a0, ha0⟩ := lt_get (show 0 < as.length by omega)
    obtain ⟨row0, hrow0⟩ := lt_get n0
    refine ⟨_, rfl, r, as.map V.ref, 0, .ref a0, rfl, rfl, sr, atI_nat (j := 0) (get_map ha0), (by show 1 ≤ sizeLine; decide), fun B nB => ?_⟩
    have s1 := same_upd (o := .lst [V.ref a0]) nB
    have hB1 : L2.upd H B (.lst [V.ref a0]) B = some (.lst ([a0].map V.ref)) := upd_same
    generalize L2.upd H B (.lst [V.ref a0]) = H1 at s1 hB1 ⊢
    refine ⟨_, rfl, 1, rfl, t, _, rfl, Lf.SqT.same s1 sm, ?_, fun S nS => ⟨S, rfl, ⟨_, SqT.of upd_same⟩, ?_⟩⟩
    · rw [List.length_cons, sIx1]
      rintro ⟨z, _⟩
      exact absurd z (by decide)
    rw [cut1]
    have u2 := same_upd (o := .tup (ps.map V.ref)) nS
    have hS : L2.upd H1 S (.tup (ps.map V.ref)) S = some (.tup (ps.map V.ref)) := upd_same
    have s2 := s1.trans u2
    have hB2 := u2 _ _ hB1
    have nSB : S ≠ B := fun z => by rw [z, hB1] at nS; cases nS
    generalize L2.upd H1 S (.tup (ps.map V.ref)) = H2 at s2 hS hB2 ⊢
    clear u2 s1 hB1 nS
    have lps : (ps.map V.ref).length = m.length := by rw [List.length_map, lp]
    refine for_tup (K := K) (a := S) (xs := ps.map V.ref) (fun i σ Hn => ∃ v3 v4 : Option V, σ = [some (.ref r), some (.ref t), some (.ref B), v3, v4, none] ∧ Same H Hn ∧ Hn S = some (.tup (ps.map V.ref)) ∧ ∃ bs : List Addr, Hn B = some (.lst (bs.map V.ref)) ∧ bs.length = (Mon.leftTab rows (m.take i)).length ∧
        ∀ (j : Nat) b l, bs[j]? = some b → (Mon.leftTab rows (m.take i))[j]? = some l → SqT K H b (l.map nv) ∨ Hn b = some (.tup (l.map nv)))
      ⟨none, none, rfl, s2, hS, [a0], hB2, rfl, fun j b l h1 h2 => ?_⟩ (fun i σ Hn _ ⟨_, _, _, _, h, _⟩ => SqT.of h) (fun i x σ Hn hx ⟨v3, v4, eσ, sn, hSn, bs, hBn, lb, pb⟩ => ?_) (fun σ Hn ⟨v3, v4, eσ, sn, hSn, bs, hBn, lb, pb⟩ => ?_)
    · cases j with
      | zero =>
        cases h1
        have e : row0 = l := by
          have : Mon.leftTab rows (m.take 0) = [rows.getD 0 []] := rfl
          rw [this, Mon.getD_of hrow0] at h2
          exact Option.some.inj h2
        rw [← e]
        exact .inl (srow 0 a0 row0 ha0 hrow0)
      | succ j => simp at h1
    · subst eσ
      obtain ⟨pa, hpa, rfl⟩ := map_get hx
      obtain ⟨p, hp⟩ := lt_get (show i < m.length by have := get_lt hpa; omega)
      obtain ⟨b1, c1⟩ := hm i p hp
      have eL : Mon.leftTab rows (m.take (i + 1)) = Mon.leftStep rows (Mon.leftTab rows (m.take i)) p := by rw [(Mon.take_cons hp).2.1, Mon.left_snoc]
      have lL : (Mon.leftTab rows (m.take i)).length = i + 1 := by rw [Mon.left_len, (Mon.take_cons hp).2.2]
      obtain ⟨b, hb⟩ := lt_get (show p.1 < bs.length by omega)
      obtain ⟨l, hl⟩ := lt_get (show p.1 < (Mon.leftTab rows (m.take i)).length by omega)
      obtain ⟨ll, lx⟩ := hL i p.1 l hl
      have sb : SqT K Hn b (l.map nv) := by
        rcases pb _ b l hb hl with z | z
        · exact Lf.SqT.same sn z
        · exact SqT.of z
      refine ⟨pa, _, rfl, Lf.SqT.same sn (sp i pa p hpa hp), rfl, _, _, rfl, _, _, rfl, rfl, ?_⟩
      refine ⟨_, rfl, .inl ⟨rfl, _, SqL.of hBn⟩, _, rfl, _, rfl, B, bs.map V.ref, _, .ref b, rfl, rfl, SqL.of hBn, atI_nat (get_map hb), b, rfl, ⟨_, sb⟩, fun D nD => ?_⟩
      refine lc_tup (K := K) (a := b) (xs := l.map nv) (fun j Hc => But D Hn Hc ∧ Hc D = some (.lst ((l.take j).map fun x => nv ((rows.getD x []).getD p.2 0)))) ⟨But.upd, upd_same⟩ (fun j Hc _ ⟨bc, _⟩ => Lf.SqT.same (Same.but (L2.Same.refl _) nD bc) sb) (fun j z Hc hz ⟨bc, hD⟩ => ?_) (fun Hc ⟨bc, hD⟩ => ?_)
      · obtain ⟨x, hxx, rfl⟩ := map_get hz
        refine ⟨rfl, yesT ?_⟩
        have sc := sn.trans (Same.but (L2.Same.refl _) nD bc)
        have xl := lx x (List.mem_of_getElem? hxx)
        obtain ⟨a, ha⟩ := lt_get (show x < as.length by omega)
        obtain ⟨row, hrow⟩ := lt_get xl
        obtain ⟨e, he⟩ := lt_get (c1 row (List.mem_of_getElem? hrow))
        refine ⟨_, rfl, _, rfl, r, as.map V.ref, _, .ref a, rfl, rfl, Lf.SqT.same sc sr, atI_nat (get_map ha), _, rfl, a, row.map nv, _, nv e, rfl, rfl, Lf.SqT.same sc (srow x a row ha hrow), atI_nat (get_map he), ?_⟩
        refine ⟨_, hD, ?_, But.trans bc But.upd, ?_⟩
        · rw [List.length_map, List.length_take]
          have := get_lt hxx
          show min j l.length < 16777216
          omega
        · rw [upd_same, take_snoc hxx, List.map_append, List.map_cons, List.map_nil, Mon.getD_of hrow, Mon.getD_of he]
      · rw [List.length_map, List.take_length] at hD
        have sc := Same.but (L2.Same.refl _) nD bc
        refine ⟨D, _, rfl, .inl ⟨SqL.of hD, fun N nN => ?_⟩⟩
        have u3 := sc.trans (same_upd (o := .tup (l.map fun x => nv ((rows.getD x []).getD p.2 0))) nN)
        have hN : L2.upd Hc N (.tup (l.map fun x => nv ((rows.getD x []).getD p.2 0))) N = some (.tup (l.map fun x => nv ((rows.getD x []).getD p.2 0))) := upd_same
        generalize L2.upd Hc N (.tup (l.map fun x => nv ((rows.getD x []).getD p.2 0))) = H3 at u3 hN ⊢
        have hB3 := u3 _ _ hBn
        have nNB : N ≠ B := fun z => by rw [z, hB3] at hN; cases hN
        refine ⟨B, _, _, rfl, rfl, hB3, by rw [List.length_map, lb, lL]; have := get_lt hp; show i + 1 < 16777216; omega, _, _, rfl, fun c o e => ?_, by rw [upd_ne nSB]; exact u3 _ _ hSn, bs ++ [N], by rw [upd_same]; simp, by rw [eL, Mon.leftStep, List.length_append, List.length_append, lb]; rfl, fun j c l2 h1 h2 => ?_⟩
        · rw [upd_ne (ne_of_none e nB)]
          exact (sn.trans u3) _ _ e
        · rw [eL, Mon.leftStep] at h2
          by_cases hj : j < bs.length
          · rw [List.getElem?_append_left hj] at h1
            rw [List.getElem?_append_left (by omega)] at h2
            rcases pb j c l2 h1 h2 with z | z
            · exact .inl z
            · have z3 := u3 _ _ z
              exact .inr (by rw [upd_ne (fun y => by rw [y, hB3] at z3; cases z3)]; exact z3)
          · have hj2 : j = bs.length := by
              have := get_lt h1
              rw [List.length_append, List.length_singleton] at this
              omega
            rw [hj2, List.getElem?_append_right (Nat.le_refl _), Nat.sub_self] at h1
            rw [hj2, lb, List.getElem?_append_right (Nat.le_refl _), Nat.sub_self] at h2
            cases h1
            cases h2
            refine .inr ?_
            rw [upd_ne nNB, hN, Mon.getD_of hl, List.map_map]
            rfl
    · subst eσ
      rw [lps, List.take_length] at lb pb
      refine ⟨_, rfl, B, _, rfl, .inl ⟨SqL.of hBn, fun N nN => ?_⟩⟩
      have u3 := same_upd (o := .tup (bs.map V.ref)) nN
      exact k N _ (sn.trans u3) ⟨bs, SqT.of upd_same, lb, fun j b l h1 h2 => (pb j b l h1 h2).elim (fun z => Lf.SqT.same (sn.trans u3) z) fun z => SqT.of (u3 _ _ z)⟩
end
end K15

set_option Elab.async false
set_option linter.all false
set_option maxRecDepth 100000
set_option maxHeartbeats 8000000
namespace K15
open PySem PySem.Spec PyProof.Rows L2 Lf
/-- a tuple of numbers as data -/
abbrev nd (l : List Nat) : PyData := .tuple (l.map fun i => .int (i : Nat))
theorem nd_all {K : PySem.W.Frag} {H : Hp} : ∀ {l : List Nat}, DpAll K H (l.map nv) (l.map fun i => PyData.int (i : Nat))
  | [] => .nil
  | i :: r => .cons (.int _) (nd_all (l := r))
theorem nd_shape (l : List Nat) : SeqAt.shaped (nd l) = true := by
  have all : ∀ l : List Nat, PyData.canLayAll0 (l.map fun i => PyData.int (i : Nat)) = true ∧ PyData.depthAll (l.map fun i => PyData.int (i : Nat)) = 0 := by
    intro l
    induction l with
    | nil => simp [PyData.canLayAll0, PyData.depthAll]
    | cons i r ih => simp [PyData.canLayAll0, PyData.depthAll, PyData.canLay0, PyData.depth, ih.1, ih.2]
  unfold SeqAt.shaped
  simp [PyData.canLay0, PyData.depth, (all l).1, (all l).2]
/-- tuples of the same numbers are not unlike -/
theorem nd_ne {K : PySem.W.Frag} {H : Hp} {a b : Addr} {l : List Nat} {Q : VK} (qa : SqT K H a (l.map nv)) (qb : SqT K H b (l.map nv)) (k : Q (.bl false) H) : rNeD K (.ref a) (.ref b) H Q := by
  refine ⟨_, _, .tup qa nd_all, .tup qb nd_all, nd_shape l, nd_shape l, ?_⟩
  rw [eqv_same (nd_shape l)]
  exact k
def spProds (K : PySem.W.Frag) : Sp := fun vs H Q _ => ∃ r q rows L, vs = [.ref r, .ref q] ∧ RowsT K H r rows ∧ RowsT K H q L ∧ L.length = rows.length ∧
  (∀ (i : Nat) row (c t : Nat) li, rows[i]? = some row → row[c]? = some t → L[i]? = some li → (∀ row' ∈ rows, c < row'.length) ∧ li.length ≤ 2000 ∧ (∀ x ∈ li, x < rows.length) ∧ t < rows.length ∧ L[t]? = some (li.map fun x => (rows.getD x []).getD c 0)) ∧ ∀ H', Same H H' → Q .non H'
abbrev teProd (K : PySem.W.Frag) : TE := tOp (rIxT K) (tOp (rIxT K) (tVar 0) (tVar 6)) (tVar 4)
section
variable {P : Program} {w : World} {K : PySem.W.Frag} {mg : Str → Option Value} {base : Heap}
theorem scProds : FnScope ["right", "left", "number", "row", "letter", "reached", "begun"] ["right", "left"] (defScope s_check_products) := ⟨rfl, rfl, rfl, by decide +kernel, rfl, by decide +kernel, by decide +kernel⟩
theorem ok_prods {f : Addr} {fd : FuncData} {q : Str} (F : FunD K "_check_products" q (defArgs s_check_products) (defBody s_check_products) (defScope s_check_products) [] [] f fd) (T : Txt P w K mg base) :
    FnOk P w K mg base CX0 1 f fd ["right", "left"] (spProds K) := by
  have zE : mg "enumerate" = none := T.fr 36 "enumerate" rfl
  have zt : mg "tuple" = none := T.fr 44 "tuple" rfl
  refine F.ok scProds (fun vs H Q E h => ?_) (fun cdv A outer s H vs Q E hr h => ?_)
  · obtain ⟨r, q, rows, L, rfl, _⟩ := h
    rfl
  · obtain ⟨r, q, rows, L, rfl, R, RL, eL, ok, k⟩ := h
    refine ⟨_, PSs.nox (pss_one (ps_for PassesOwn.never rfl (pi_enumA rfl zE (pv 0)) (pg_tup rfl (pgs_cons (pg_name (i := 2) scProds.nd rfl (.inl rfl)) (pgs_cons (pg_name (i := 3) scProds.nd rfl (.inl rfl)) pgs_nil)))
      (pss_one (ps_for PassesOwn.never rfl (pi_enumA rfl zE (pv 3)) (pg_tup rfl (pgs_cons (pg_name (i := 4) scProds.nd rfl (.inr rfl)) (pgs_cons (pg_name (i := 5) scProds.nd rfl (.inl rfl)) pgs_nil)))
        (pss_one (ps_if (pt_cmpR (op_neD hr.units) (pe_ix ix_tup (pv 1) (pv 5) (fun _ _ => rfl)) (pe_callTy call_tuple_of rfl zt PyProof.Rows.boot_tuple
          (pa_cons (pe_lc (own := [("begun", 6)]) (g := gName 6) (te := teProd K) (by rfl) scProds.nd (pi_tup (pe_ix ix_tup (pv 1) (pv 2) (fun _ _ => rfl))) (blkOk_by (own := [("begun", 6)]) (N := ["right", "left", "number", "row", "letter", "reached", "begun"]) (sc := defScope s_check_products) (by decide +kernel)) (fun _ _ _ _ _ => pg_name (i := 6) scProds.nd rfl (Or.inl rfl)) (fun _ _ _ _ _ => pts_nil)
            (fun _ _ _ _ _ => by exact pe_ix ix_tup (pe_ix ix_tup (pv 0) (pv 6) (fun _ _ => rfl)) (pv 4) (fun _ _ => rfl))) pa_nil)) (nomark _)) (pss_one ps_never) pss_nil)))))), ?_⟩
    obtain ⟨as, sr, la, srow⟩ := R.ex
    obtain ⟨bs, sq, lb, sl⟩ := RL.ex
    have ln : (as.map V.ref).length = rows.length := by rw [List.length_map, la]
    refine ⟨_, rfl, r, as.map V.ref, rfl, .inr ⟨sr, ?_⟩⟩
    have wk : Walk (Itet K r) (as.map V.ref).length (fun H2 => Same H H2) (fun i H v H' => ∃ T x, v = .ref T ∧ H T = none ∧ H' = L2.upd H T (.tup [.int (i : Nat), x]) ∧ (as.map V.ref)[i]? = some x) := (walk_enumT (xs := as.map V.ref)).mono (fun H s => Lf.SqT.same s sr) (fun i H x H' _ _ y => y)
    refine for_it wk (fun i σ H2 => ∃ v2 v3 v4 v5 : Option V, σ = [some (.ref r), some (.ref q), v2, v3, v4, v5, none] ∧ Same H H2) ⟨none, none, none, none, rfl, L2.Same.refl _⟩ (fun i σ H2 _ ⟨_, _, _, _, _, s⟩ => s) ?_ ?_
    · rintro i x σ H2 H3 hi ⟨v2, v3, v4, v5, rfl, s2⟩ ⟨T', y, rfl, nT, rfl, hy⟩
      obtain ⟨a, ha, rfl⟩ := map_get hy
      have hi2 : i < rows.length := by rw [← ln]; exact hi
      obtain ⟨row, hrow⟩ := lt_get hi2
      have sa := srow i a row ha hrow
      refine ⟨T', _, rfl, SqT.of upd_same, rfl, _, _, rfl, _, _, rfl, rfl, ?_⟩
      have s3 := s2.trans (same_upd (o := .tup [.int (i : Nat), .ref a]) nT)
      generalize L2.upd H2 T' (.tup [.int (i : Nat), .ref a]) = H3 at s3 ⊢
      refine ⟨_, rfl, a, row.map nv, rfl, .inr ⟨Lf.SqT.same s3 sa, ?_⟩⟩
      have wk2 : Walk (Itet K a) (row.map nv).length (fun H2 => Same H H2) (fun i H v H' => ∃ T x, v = .ref T ∧ H T = none ∧ H' = L2.upd H T (.tup [.int (i : Nat), x]) ∧ (row.map nv)[i]? = some x) := (walk_enumT (xs := row.map nv)).mono (fun H s => Lf.SqT.same s sa) (fun i H x H' _ _ y => y)
      refine for_it wk2 (fun j σ H4 => ∃ v4 v5 : Option V, σ = [some (.ref r), some (.ref q), some (nv i), some (.ref a), v4, v5, none] ∧ Same H H4) ⟨_, _, rfl, s3⟩ (fun j σ H4 _ ⟨_, _, _, s⟩ => s) ?_ ?_
      · rintro c x σ H4 H5 hj ⟨v4, v5, rfl, s4⟩ ⟨T2, y, rfl, nT2, rfl, hy2⟩
        obtain ⟨t, ht, rfl⟩ := map_get hy2
        obtain ⟨li, hli⟩ := lt_get (show i < L.length by omega)
        obtain ⟨cw, l2, lx, tl, hlt⟩ := ok i row c t li hrow ht hli
        obtain ⟨bt, hbt⟩ := lt_get (show t < bs.length by omega)
        obtain ⟨bi, hbi⟩ := lt_get (show i < bs.length by omega)
        refine ⟨T2, _, rfl, SqT.of upd_same, rfl, _, _, rfl, _, _, rfl, rfl, ?_⟩
        have s5 := s4.trans (same_upd (o := .tup [.int (c : Nat), nv t]) nT2)
        generalize L2.upd H4 T2 (.tup [.int (c : Nat), nv t]) = H5 at s5 ⊢
        have sb := Lf.SqT.same s5 (sl i bi li hbi hli)
        refine ⟨_, rfl, _, rfl, q, bs.map V.ref, _, .ref bt, rfl, rfl, Lf.SqT.same s5 sq, atI_nat (get_map hbt), ?_⟩
        refine ⟨_, rfl, _, rfl, q, bs.map V.ref, _, .ref bi, rfl, rfl, Lf.SqT.same s5 sq, atI_nat (get_map hbi), bi, rfl, ⟨_, sb⟩, fun D nD => ?_⟩
        refine lc_tup (K := K) (a := bi) (xs := li.map nv) (fun j Hc => But D H5 Hc ∧ Hc D = some (.lst ((li.take j).map fun x => nv ((rows.getD x []).getD c 0)))) ⟨But.upd, upd_same⟩ (fun j Hc _ ⟨bc, _⟩ => Lf.SqT.same (Same.but (L2.Same.refl _) nD bc) sb) (fun j z Hc hz ⟨bc, hD⟩ => ?_) (fun Hc ⟨bc, hD⟩ => ?_)
        · obtain ⟨x, hxx, rfl⟩ := map_get hz
          refine ⟨rfl, yesT ?_⟩
          have sc := s5.trans (Same.but (L2.Same.refl _) nD bc)
          have xl := lx x (List.mem_of_getElem? hxx)
          obtain ⟨a', ha'⟩ := lt_get (show x < as.length by omega)
          obtain ⟨row', hrow'⟩ := lt_get xl
          obtain ⟨e, he⟩ := lt_get (cw row' (List.mem_of_getElem? hrow'))
          refine ⟨_, rfl, _, rfl, r, as.map V.ref, _, .ref a', rfl, rfl, Lf.SqT.same sc sr, atI_nat (get_map ha'), _, rfl, a', row'.map nv, _, nv e, rfl, rfl, Lf.SqT.same sc (srow x a' row' ha' hrow'), atI_nat (get_map he), ?_⟩
          refine ⟨_, hD, ?_, But.trans bc But.upd, ?_⟩
          · rw [List.length_map, List.length_take]
            have := get_lt hxx
            show min j li.length < 16777216
            omega
          · rw [upd_same, take_snoc hxx, List.map_append, List.map_cons, List.map_nil, Mon.getD_of hrow', Mon.getD_of he]
        · rw [List.length_map, List.take_length] at hD
          have sc := Same.but (L2.Same.refl _) nD bc
          refine ⟨D, _, rfl, .inl ⟨SqL.of hD, fun N nN => ?_⟩⟩
          have u6 := sc.trans (same_upd (o := .tup (li.map fun x => nv ((rows.getD x []).getD c 0))) nN)
          have s6 := s5.trans u6
          have e6 : (li.map fun x => nv ((rows.getD x []).getD c 0)) = (li.map fun x => (rows.getD x []).getD c 0).map nv := by rw [List.map_map]; rfl
          refine nd_ne (l := li.map fun x => (rows.getD x []).getD c 0) (Lf.SqT.same s6 (sl t bt _ hbt hlt)) (SqT.of (by rw [upd_same, e6])) ⟨_, rfl, ?_⟩
          exact ifF rfl ⟨_, _, rfl, s6⟩
      · rintro σ H4 ⟨v4, v5, rfl, s4⟩
        exact ⟨_, _, _, _, rfl, s4⟩
    · rintro σ H2 ⟨v2, v3, v4, v5, rfl, s2⟩
      exact k _ s2
end
end K15

set_option Elab.async false
set_option linter.all false
set_option maxRecDepth 100000
set_option maxHeartbeats 8000000
namespace K15
open PySem PySem.Spec PyProof.Rows L2 Lf
theorem SqT.but {K : PySem.W.Frag} {H H' : Hp} {p a C dx : Addr} {fs : List (Str × V)} {xs : List V} (hp : H p = some (.ins C dx fs)) (b : But p H H') (h : SqT K H a xs) : SqT K H' a xs := by
  rcases h with (h | ⟨o, h⟩) | h
  · exact .inl (.inl (b _ _ (fun z => by rw [z, hp] at h; cases h) h))
  · exact .inl (.inr ⟨o, b _ _ (fun z => by rw [z, hp] at h; cases h) h⟩)
  · exact .inr h
theorem RowsT.but {K : PySem.W.Frag} {H H' : Hp} {p r C dx : Addr} {fs : List (Str × V)} {rows : List (List Nat)} (hp : H p = some (.ins C dx fs)) (b : But p H H') (h : RowsT K H r rows) : RowsT K H' r rows := by
  obtain ⟨as, h1, h2, h3⟩ := h.ex
  exact ⟨as, SqT.but hp b h1, h2, fun i x row g1 g2 => SqT.but hp b (h3 i x row g1 g2)⟩
theorem MadeT.but {K : PySem.W.Frag} {H H' : Hp} {p r C dx : Addr} {fs : List (Str × V)} {m : List (Nat × Nat)} (hp : H p = some (.ins C dx fs)) (b : But p H H') (h : MadeT K H r m) : MadeT K H' r m := by
  obtain ⟨as, h1, h2, h3⟩ := h.ex
  exact ⟨as, SqT.but hp b h1, h2, fun i x row g1 g2 => SqT.but hp b (h3 i x row g1 g2)⟩
/-- a table that the constructor takes -/
structure Accept (rows : List (List Nat)) (wd : Nat) (m : List (Nat × Nat)) : Prop where
  form : Form rows wd
  made : Mon.madeTab 0 rows [] = some m
  len : m.length + 1 = rows.length
  left : ∀ (i k : Nat) l, (Mon.leftTab rows (m.take i))[k]? = some l → l.length = wd ∧ ∀ x ∈ l, x < rows.length
  prod : ∀ (i : Nat) row (c t : Nat) li lt, rows[i]? = some row → row[c]? = some t → (Mon.leftTab rows m)[i]? = some li → (Mon.leftTab rows m)[t]? = some lt → lt = li.map fun x => (rows.getD x []).getD c 0
theorem accept_of {n : Nat} {gens found rows : List (List Nat)} {m : List (Nat × Nat)} (T : Mon.Tab n gens found rows) (g1 : gens ≠ []) (g6 : gens.length ≤ 6) (f2 : found.length ≤ 2000) (hm : Mon.madeTab 0 rows [] = some m) (lm : m.length + 1 = rows.length) : Accept rows gens.length m := by
  have mk : ∀ (i k : Nat) p, (m.take i)[k]? = some p → p.1 < k + 1 ∧ ∃ row, rows[p.1]? = some row ∧ row[p.2]? = some (k + 1) := fun i k p h => by
    rw [List.getElem?_take] at h
    split at h
    · exact Mon.madeTab_lt hm h
    · cases h
  have lo : ∀ (i k : Nat) l, (Mon.leftTab rows (m.take i))[k]? = some l → Mon.LeftOk gens found k l := fun i => Mon.left_ok T g1 (m.take i) (mk i)
  have lm' : ∀ (k : Nat) l, (Mon.leftTab rows m)[k]? = some l → Mon.LeftOk gens found k l := fun k l h => lo m.length k l (by rw [List.take_length]; exact h)
  refine ⟨⟨?_, ?_, List.length_pos_iff.mpr g1, g6, fun row hr => ?_⟩, hm, lm, fun i k l h => ?_, fun i row c t li lt h1 h2 h3 h4 => Mon.prod_ok T g1 lm' h1 h2 h3 h4⟩
  · omega
  · rw [T.len]; exact f2
  · obtain ⟨i, hi⟩ := List.getElem?_of_mem hr
    refine ⟨T.wid i row hi, fun t ht => ?_⟩
    obtain ⟨c, hc⟩ := List.getElem?_of_mem ht
    obtain ⟨x, g, _, _, h3⟩ := T.ent i row hi c t hc
    rw [T.len]
    exact (List.getElem?_eq_some_iff.mp h3).1
  · obtain ⟨a, b⟩ := lo i k l h
    refine ⟨a, fun x hx => ?_⟩
    obtain ⟨c, hc⟩ := List.getElem?_of_mem hx
    obtain ⟨_, _, _, _, h3⟩ := b c x hc
    rw [T.len]
    exact (List.getElem?_eq_some_iff.mp h3).1
/-- a Monoid -/
structure Mo (K : PySem.W.Frag) (H : Hp) (x : Addr) (rows : List (List Nat)) (m : List (Nat × Nat)) : Prop where
  ex : ∃ dx t u v, H x = some (.ins (He.ga K "Monoid") dx [("right", .ref t), ("_made", .ref u), ("_left", .ref v)]) ∧ RowsT K H t rows ∧ MadeT K H u m ∧ RowsT K H v (Mon.leftTab rows m)
theorem Mo.same {K : PySem.W.Frag} {H H' : Hp} {x : Addr} {rows : List (List Nat)} {m : List (Nat × Nat)} (h : Mo K H x rows m) (e : Same H H') : Mo K H' x rows m := by
  obtain ⟨dx, t, u, v, a, b, c, d⟩ := h.ex
  exact ⟨dx, t, u, v, e _ _ a, b.same e, c.same e, d.same e⟩
def spMon (K : PySem.W.Frag) : Sp := fun vs H Q _ => ∃ p r dx rows wd m, vs = [.ref p, .ref r] ∧ H p = some (.ins (He.ga K "Monoid") dx []) ∧ RowsL K H r rows ∧ Accept rows wd m ∧ ∀ H', But p H H' → Mo K H' p rows m → Q .non H'
abbrev rTup (K : PySem.W.Frag) : List V → Hp → VK → Prop := fun xs H Q => ∃ p ys, xs = [V.ref p] ∧ ((SqL K H p ys ∧ ∀ (l : Addr), H l = none → Q (V.ref l) (L2.upd H l (HO.tup ys))) ∨ SqT K H p ys ∧ Q (V.ref p) H)
section
variable {P : Program} {w : World} {K : PySem.W.Frag} {mg : Str → Option Value} {base : Heap}
theorem scMon : FnScope ["self", "right", "row"] ["self", "right"] (defScope s_Monoid_init) := ⟨rfl, rfl, rfl, by decide +kernel, rfl, by decide +kernel, by decide +kernel⟩
theorem ok_mon {f : Addr} {fd : FuncData} {q : Str} (F : FunD K "__init__" q (defArgs s_Monoid_init) (defBody s_Monoid_init) (defScope s_Monoid_init) [] [] f fd) (T : Txt P w K mg base)
    (DF : Def P w K mg base CX0 3 "_check_form" ["right"] (spForm K)) (DM : Def P w K mg base CX0 1 "_made_by" ["right"] (spMade K)) (DL : Def P w K mg base CX0 1 "_left_table" ["right", "made"] (spLeft K)) (DP : Def P w K mg base CX0 1 "_check_products" ["right", "left"] (spProds K)) :
    FnOk P w K mg base CX0 4 f fd ["self", "right"] (spMon K) := by
  have zt : mg "tuple" = none := T.fr 44 "tuple" rfl
  have cl : L2.Cls K (He.ga K "Monoid") := He.cls_ok (T.d.fact 46 (f := .cls "Monoid") rfl)
  have n1 : NoAttr K (He.ga K "Monoid") "right" := He.noat_ok (T.d.fact 58 (f := .noat "Monoid" "right") rfl)
  have n2 : NoAttr K (He.ga K "Monoid") "_made" := He.noat_ok (T.d.fact 59 (f := .noat "Monoid" "_made") rfl)
  have n3 : NoAttr K (He.ga K "Monoid") "_left" := He.noat_ok (T.d.fact 60 (f := .noat "Monoid" "_left") rfl)
  refine F.ok scMon (fun vs H Q E h => ?_) (fun cdv A outer s H vs Q E hr h => ?_)
  · obtain ⟨p, r, dx, rows, wd, m, rfl, _⟩ := h
    rfl
  · obtain ⟨p, r, dx, rows, wd, m, rfl, hp, R, AC, k⟩ := h
    have r1 : Room 1 _ := hr.mono (by decide)
    refine ⟨_, PSs.nox (pss_cons (ps_expr (pe_def DF hr pass0 rfl (pa_cons (pv 1) pa_nil)))
      (pss_cons (ps_fld (pv 0) (pe_callTy call_tuple_of rfl zt PyProof.Rows.boot_tuple (pa_cons (pe_lc (own := [("row", 2)]) (g := gName 2) (te := tCB (rTup K) (tCons (tVar 2) tNil)) (by rfl) scMon.nd (pi_list (pv 1)) (blkOk_by (own := [("row", 2)]) (N := ["self", "right", "row"]) (sc := defScope s_Monoid_init) (by decide +kernel)) (fun _ _ _ _ _ => pg_name (i := 2) scMon.nd rfl (Or.inl rfl)) (fun _ _ _ _ _ => pts_nil)
        (fun _ _ _ _ _ => by exact pe_callTy call_tuple_of rfl zt PyProof.Rows.boot_tuple (pa_cons (pv 2) pa_nil))) pa_nil)) rfl)
      (pss_cons (ps_fld (pv 0) (pe_def DM r1 pass0 rfl (pa_cons (pe_fld (pv 0) rfl) pa_nil)) rfl)
      (pss_cons (ps_fld (pv 0) (pe_def DL r1 pass0 rfl (pa_cons (pe_fld (pv 0) rfl) (pa_cons (pe_fld (pv 0) rfl) pa_nil))) rfl)
      (pss_one (ps_expr (pe_def DP r1 pass0 rfl (pa_cons (pe_fld (pv 0) rfl) (pa_cons (pe_fld (pv 0) rfl) pa_nil))))))))), ?_⟩
    obtain ⟨f1, f2, w1, w6, frow⟩ := AC.form
    refine ⟨_, rfl, r, rows, wd, rfl, R, AC.form, fun H1 s1 => ?_⟩
    obtain ⟨as, sr, la, srow⟩ := (R.same s1).ex
    have hp1 := s1 _ _ hp
    have ln : (as.map V.ref).length = rows.length := by rw [List.length_map, la]
    refine ⟨_, rfl, r, rfl, ⟨_, sr⟩, fun D nD => ?_⟩
    refine lc_list (K := K) (a := r) (xs := as.map V.ref) (fun i Hc => But D H1 Hc ∧ ∃ us : List Addr, us.length = i ∧ Hc D = some (.lst (us.map V.ref)) ∧ ∀ (j : Nat) u row, us[j]? = some u → rows[j]? = some row → Hc u = some (.tup (row.map nv))) ⟨But.upd, [], rfl, upd_same, fun j u row h => by simp at h⟩ (fun i Hc _ ⟨bc, _⟩ => L2.Same.seq (Same.but (L2.Same.refl _) nD bc) sr) (fun i z Hc hz ⟨bc, us, lu, hD, pu⟩ => ?_) (fun Hc ⟨bc, us, lu, hD, pu⟩ => ?_)
    · obtain ⟨a, ha, rfl⟩ := map_get hz
      obtain ⟨row, hrow⟩ := lt_get (show i < rows.length by have := get_lt ha; omega)
      have sc := Same.but (L2.Same.refl _) nD bc
      refine ⟨rfl, yesT ?_⟩
      refine ⟨_, rfl, a, row.map nv, rfl, .inl ⟨L2.Same.seq sc (srow i a row ha hrow), fun u nu => ?_⟩⟩
      have u2 := same_upd (o := .tup (row.map nv)) nu
      have hu : L2.upd Hc u (.tup (row.map nv)) u = some (.tup (row.map nv)) := upd_same
      generalize L2.upd Hc u (.tup (row.map nv)) = H2 at u2 hu ⊢
      have hD2 := u2 _ _ hD
      have nuD : u ≠ D := fun z => by rw [z, hD2] at hu; cases hu
      refine ⟨_, hD2, by rw [List.length_map, lu]; have := get_lt hrow; show i < 16777216; omega, But.trans (bc.trans (But.of u2)) But.upd, us ++ [u], by simp [lu], by rw [upd_same]; simp, fun j v rw' h1 h2 => ?_⟩
      by_cases hj : j < us.length
      · rw [List.getElem?_append_left hj] at h1
        have z := u2 _ _ (pu j v rw' h1 h2)
        rw [upd_ne (fun y => by rw [y, hD2] at z; cases z)]
        exact z
      · have hj2 : j = us.length := by
          have := get_lt h1
          rw [List.length_append, List.length_singleton] at this
          omega
        rw [hj2, List.getElem?_append_right (Nat.le_refl _), Nat.sub_self] at h1
        cases h1
        rw [hj2, lu, hrow] at h2
        cases h2
        rw [upd_ne nuD]
        exact hu
    · have sc := Same.but (L2.Same.refl _) nD bc
      refine ⟨D, _, rfl, .inl ⟨SqL.of hD, fun t nt => ?_⟩⟩
      have u2 := same_upd (o := .tup (us.map V.ref)) nt
      have s2 := sc.trans u2
      have Rt : RowsT K (L2.upd Hc t (.tup (us.map V.ref))) t rows := ⟨us, SqT.of upd_same, by rw [lu, ln], fun j u row h1 h2 => SqT.of (u2 _ _ (pu j u row h1 h2))⟩
      generalize L2.upd Hc t (.tup (us.map V.ref)) = H2 at s2 Rt ⊢
      have hp2 := s2 _ _ hp1
      have b0 : But p H H2 := But.of (s1.trans s2)
      clear u2 pu hD bc sc
      refine ⟨_, rfl, p, _, dx, [], rfl, hp2, cl, n1, (by show 0 < 1000; decide), ?_⟩
      have Rt3 : RowsT K (L2.upd H2 p (.ins (He.ga K "Monoid") dx [("right", V.ref t)])) t rows := RowsT.but hp2 But.upd Rt
      have b3 : But p H (L2.upd H2 p (.ins (He.ga K "Monoid") dx [("right", V.ref t)])) := b0.trans But.upd
      have hp3 : L2.upd H2 p (.ins (He.ga K "Monoid") dx [("right", V.ref t)]) p = some (.ins (He.ga K "Monoid") dx [("right", V.ref t)]) := upd_same
      show tSeq _ _ _ _ (L2.upd H2 p (.ins (He.ga K "Monoid") dx [("right", V.ref t)]))
      generalize L2.upd H2 p (.ins (He.ga K "Monoid") dx [("right", V.ref t)]) = H3 at Rt3 b3 hp3 ⊢
      clear Rt b0 hp2 s2 nt hp1 sr srow s1 R
      refine ⟨_, rfl, p, _, dx, _, _, rfl, hp3, cl, n1, rfl, t, rows, m, rfl, Rt3, AC.made, by have := AC.len; omega, fun u H4 s4 Mu => ?_⟩
      have hp4 := s4 _ _ hp3
      refine ⟨_, rfl, p, _, dx, _, rfl, hp4, cl, n2, (by show 1 < 1000; decide), ?_⟩
      have b4 : But p H (L2.upd H4 p (.ins (He.ga K "Monoid") dx [("right", V.ref t), ("_made", V.ref u)])) := (b3.trans (But.of s4)).trans But.upd
      have Rt5 : RowsT K (L2.upd H4 p (.ins (He.ga K "Monoid") dx [("right", V.ref t), ("_made", V.ref u)])) t rows := RowsT.but hp4 But.upd (Rt3.same s4)
      have Mu5 : MadeT K (L2.upd H4 p (.ins (He.ga K "Monoid") dx [("right", V.ref t), ("_made", V.ref u)])) u m := MadeT.but hp4 But.upd Mu
      have hp5 : L2.upd H4 p (.ins (He.ga K "Monoid") dx [("right", V.ref t), ("_made", V.ref u)]) p = some (.ins (He.ga K "Monoid") dx [("right", V.ref t), ("_made", V.ref u)]) := upd_same
      show tSeq _ _ _ _ (L2.upd H4 p (.ins (He.ga K "Monoid") dx [("right", V.ref t), ("_made", V.ref u)]))
      generalize L2.upd H4 p (.ins (He.ga K "Monoid") dx [("right", V.ref t), ("_made", V.ref u)]) = H5 at Rt5 Mu5 b4 hp5 ⊢
      clear Rt3 Mu s4 hp4 b3 hp3
      refine ⟨_, rfl, p, _, dx, _, _, rfl, hp5, cl, n1, rfl, _, rfl, p, _, dx, _, _, rfl, hp5, cl, n2, rfl, t, u, rows, m, rfl, Rt5, Mu5, List.ne_nil_of_length_pos (by omega), by have := AC.len; omega, fun k p hp => ?_, fun i k l h => ?_, fun v H6 s6 Lv => ?_⟩
      · obtain ⟨a, row, b, c⟩ := Mon.madeTab_lt AC.made hp
        refine ⟨a, fun row' h => ?_⟩
        have := get_lt c
        rw [(frow row (List.mem_of_getElem? b)).1] at this
        rw [(frow row' h).1]
        exact this
      · obtain ⟨a, b⟩ := AC.left i k l h
        exact ⟨by omega, b⟩
      have hp6 := s6 _ _ hp5
      refine ⟨_, rfl, p, _, dx, _, rfl, hp6, cl, n3, (by show 2 < 1000; decide), ?_⟩
      have b6 : But p H (L2.upd H6 p (.ins (He.ga K "Monoid") dx [("right", V.ref t), ("_made", V.ref u), ("_left", V.ref v)])) := (b4.trans (But.of s6)).trans But.upd
      have Rt7 : RowsT K (L2.upd H6 p (.ins (He.ga K "Monoid") dx [("right", V.ref t), ("_made", V.ref u), ("_left", V.ref v)])) t rows := RowsT.but hp6 But.upd (Rt5.same s6)
      have Mu7 : MadeT K (L2.upd H6 p (.ins (He.ga K "Monoid") dx [("right", V.ref t), ("_made", V.ref u), ("_left", V.ref v)])) u m := MadeT.but hp6 But.upd (Mu5.same s6)
      have Lv7 : RowsT K (L2.upd H6 p (.ins (He.ga K "Monoid") dx [("right", V.ref t), ("_made", V.ref u), ("_left", V.ref v)])) v (Mon.leftTab rows m) := RowsT.but hp6 But.upd Lv
      have hp7 : L2.upd H6 p (.ins (He.ga K "Monoid") dx [("right", V.ref t), ("_made", V.ref u), ("_left", V.ref v)]) p = some (.ins (He.ga K "Monoid") dx [("right", V.ref t), ("_made", V.ref u), ("_left", V.ref v)]) := upd_same
      show Ends.nx _ _ (L2.upd H6 p (.ins (He.ga K "Monoid") dx [("right", V.ref t), ("_made", V.ref u), ("_left", V.ref v)]))
      generalize L2.upd H6 p (.ins (He.ga K "Monoid") dx [("right", V.ref t), ("_made", V.ref u), ("_left", V.ref v)]) = H7 at Rt7 Mu7 Lv7 b6 hp7 ⊢
      have lL : (Mon.leftTab rows m).length = rows.length := by rw [Mon.left_len, AC.len]
      have left' : ∀ (k : Nat) l, (Mon.leftTab rows m)[k]? = some l → l.length = wd ∧ ∀ x ∈ l, x < rows.length := fun k l h => AC.left m.length k l (by rw [List.take_length]; exact h)
      refine ⟨_, rfl, p, _, dx, _, _, rfl, hp7, cl, n1, rfl, _, rfl, p, _, dx, _, _, rfl, hp7, cl, n3, rfl, t, v, rows, Mon.leftTab rows m, rfl, Rt7, Lv7, lL, fun i row c x li h1 h2 h3 => ?_, fun H8 s8 => ?_⟩
      · obtain ⟨fr, fx⟩ := frow row (List.mem_of_getElem? h1)
        obtain ⟨la', lb'⟩ := left' i li h3
        have hx := fx x (List.mem_of_getElem? h2)
        obtain ⟨lt, hlt⟩ := lt_get (show x < (Mon.leftTab rows m).length by omega)
        refine ⟨fun row' h => ?_, by omega, lb', hx, ?_⟩
        · have := get_lt h2
          rw [(frow row' h).1]
          omega
        · rw [hlt, AC.prod i row c x li lt h1 h2 h3 hlt]
      · exact k H8 (b6.trans (But.of s8)) ⟨dx, t, u, v, s8 _ _ hp7, Rt7.same s8, Mu7.same s8, Lv7.same s8⟩
end
end K15

set_option Elab.async false
set_option linter.all false
set_option maxRecDepth 100000
set_option maxHeartbeats 8000000
namespace K15
open PySem PySem.Spec PyProof.Rows L2 Lf
/-- a list of maps, as tuples -/
structure Maps (H : Hp) (p : Addr) (gens : List (List Nat)) : Prop where
  ex : ∃ as : List Addr, H p = some (.lst (as.map V.ref)) ∧ as.length = gens.length ∧ ∀ (i : Nat) a row, as[i]? = some a → gens[i]? = some row → H a = some (.tup (row.map nv))
theorem Maps.same {H H' : Hp} {p : Addr} {gens : List (List Nat)} (h : Maps H p gens) (e : Same H H') : Maps H' p gens := by
  obtain ⟨as, a, b, c⟩ := h.ex
  exact ⟨as, e _ _ a, b, fun i x row h1 h2 => e _ _ (c i x row h1 h2)⟩
theorem Maps.but {H H' : Hp} {l p : Addr} {a b c : Int} {gens : List (List Nat)} (hl : H l = some (.lst [.int a, .int b, .int c])) (h : Maps H p gens) (e : But l H H') : Maps H' p gens := by
  obtain ⟨as, h1, h2, h3⟩ := h.ex
  refine ⟨as, e _ _ (fun z => ?_) h1, h2, fun i x row g1 g2 => e _ _ (fun z => ?_) (h3 i x row g1 g2)⟩
  · rw [z, hl] at h1
    cases as with
    | nil => simp at h1
    | cons u r => simp at h1
  · have := h3 i x row g1 g2
    rw [z, hl] at this
    simp at this
theorem Src.un {H : Hp} {l : Addr} {n : Nat} (h : Src H l n) : ∃ a b c : Int, H l = some (.lst [.int a, .int b, .int c]) := by
  obtain ⟨a, b, c, e, _⟩ := h
  exact ⟨a, b, c, e⟩
theorem Src.ne {H : Hp} {l x : Addr} {n : Nat} (h : Src H l n) (nx : H x = none) : x ≠ l := fun z => by
  obtain ⟨a, b, c, e⟩ := h.un
  rw [← z, nx] at e
  cases e
theorem Src.upd {H : Hp} {l x : Addr} {n : Nat} {o : HO} (h : Src H l n) (nx : x ≠ l) : Src (L2.upd H x o) l n := by
  obtain ⟨a, b, c, e, r⟩ := h
  exact ⟨a, b, c, by rw [upd_ne nx.symm]; exact e, r⟩
def spMaps : Sp := fun vs H Q _ => ∃ (l : Addr) (n mp ml : Nat), vs = [.ref l, .int mp, .int ml] ∧ Src H l n ∧ n + 40 ≤ 1000000 ∧ 1 ≤ mp ∧ mp ≤ 4 ∧ 1 ≤ ml ∧ ml ≤ 6 ∧
  ∀ p gens size H', But l H H' → H p = none → Maps H' p gens → gens ≠ [] → gens.length ≤ ml → 1 ≤ size → size ≤ 4 → (∀ g ∈ gens, Mon.Valid size g) → Src H' l (n + 40) → Q (.ref p) H'
abbrev teDraw : TE := fun σ H Q => (tCons (tVar 0) (tCons (tVar 3) tNil)) σ H fun vs H1 => spDraw vs H1 Q E0
abbrev teMap (K : PySem.W.Frag) : TE := tCB (rTup K) (tCons (tLc (iRng1 (tCons (tVar 3) tNil)) (gName 5) tYes teDraw [5]) tNil)
/-- the scope of the comprehension over the turns -/
def scTurn : Scope := { kind := .function, names := [(".0", .local), ("_law_turn", .local), ("tuple", .globalImplicit), ("range", .globalImplicit), ("_law_size", .cell), ("_law_source_here", .cell)], isGenerator := false, isCoroutine := false }
/-- one map -/
theorem one_map {K : PySem.W.Frag} {H : Hp} {l : Addr} {n size : Nat} {v1 v2 v4 v5 v6 : Option V} {Q : VK} (src : Src H l n) (n1 : n + size ≤ 1000000) (s1 : 1 ≤ size) (s4 : size ≤ 4)
    (k : ∀ t xs H', But l H H' → H t = none → H' t = some (.tup (xs.map nv)) → Mon.Valid size xs → Src H' l (n + size) → Q (.ref t) H') :
    teMap K [some (.ref l), v1, v2, some (.int (size : Nat)), v4, v5, v6] H Q := by
  refine ⟨_, rfl, (size : Nat), rfl, by omega, by omega, fun D nD => ?_⟩
  have nDl := src.ne nD
  refine lc_range (lo := 0) (n := size) (fun i Hc => (∀ b o, b ≠ l → b ≠ D → H b = some o → Hc b = some o) ∧ Src Hc l (n + i) ∧ ∃ acc : List Nat, Hc D = some (.lst (acc.map nv)) ∧ acc.length = i ∧ ∀ z ∈ acc, z < size) ⟨fun b o _ nb e => by rw [upd_ne nb]; exact e, src.upd nDl, [], upd_same, rfl, fun z hz => by cases hz⟩ (fun i Hc hi ⟨bc, sc, acc, hD, la, oa⟩ => ?_) (fun Hc ⟨bc, sc, acc, hD, la, oa⟩ => ?_)
  · refine ⟨rfl, yesT ?_⟩
    refine ⟨_, rfl, _, rfl, l, n + i, (size : Nat), rfl, sc, by omega, by omega, by omega, fun x H' x0 x1 b' src' => ?_⟩
    obtain ⟨x, rfl⟩ : ∃ x' : Nat, x = (x' : Nat) := ⟨x.toNat, by omega⟩
    have hD' := b' _ _ nDl hD
    refine ⟨_, hD', by rw [List.length_map, la]; show i < 16777216; omega, fun b o nl nb e => by rw [upd_ne nb]; exact b' _ _ nl (bc _ _ nl nb e), src'.upd nDl, acc ++ [x], by rw [upd_same]; simp, by simp [la], fun z hz => ?_⟩
    rcases List.mem_append.mp hz with h | h
    · exact oa z h
    · rw [List.mem_singleton.mp h]
      omega
  · refine ⟨D, _, rfl, .inl ⟨SqL.of hD, fun t nt => ?_⟩⟩
    have ntl := sc.ne nt
    have ntD : t ≠ D := fun z => by rw [z, hD] at nt; cases nt
    refine k t acc _ (fun b o nl e => ?_) ?_ upd_same ⟨la, oa⟩ (sc.upd ntl)
    · have nb : b ≠ D := ne_of_none e nD
      have nt' : b ≠ t := ne_of_none (bc _ _ nl nb e) nt
      rw [upd_ne nt']
      exact bc _ _ nl nb e
    · cases e : H t with
      | none => rfl
      | some o => rw [bc _ _ ntl ntD e] at nt; cases nt
section
variable {P : Program} {w : World} {K : PySem.W.Frag} {mg : Str → Option Value} {base : Heap}
theorem scMaps : FnScope ["_law_source_here", "_law_most_points", "_law_most_letters", "_law_size", "_law_many", "_law_point", "_law_turn"] ["_law_source_here", "_law_most_points", "_law_most_letters"] (defScope s_L_maps) := ⟨rfl, rfl, rfl, by decide +kernel, rfl, by decide +kernel, by decide +kernel⟩
theorem ok_maps {f : Addr} {fd : FuncData} {q : Str} (F : FunD K "_law_maps" q (defArgs s_L_maps) (defBody s_L_maps) (defScope s_L_maps) [] [] f fd) (zr : mg "range" = none) (zt : mg "tuple" = none)
    (DD : Def P w K mg base CX0 1 "_law_draw" ["_law_source_here", "_law_many"] spDraw) :
    FnOk P w K mg base CX0 2 f fd ["_law_source_here", "_law_most_points", "_law_most_letters"] spMaps := by
  refine F.ok scMaps (fun vs H Q E h => ?_) (fun cdv A outer s H vs Q E hr h => ?_)
  · obtain ⟨l, n, mp, ml, rfl, _⟩ := h
    rfl
  · obtain ⟨l, n, mp, ml, rfl, src, n1, p1, p4, m1, m6, k⟩ := h
    refine ⟨_, PSs.nox (pss_cons (ps_asg (pe_tup (pa_cons (pe_op op_add pe_int (pe_def DD hr pass0 rfl (pa_cons (pv 0) (pa_cons (pv 1) pa_nil)))) (pa_cons (pe_op op_add pe_int (pe_def DD hr pass0 rfl (pa_cons (pv 0) (pa_cons (pv 2) pa_nil)))) pa_nil)))
        (pg_tup rfl (pgs_cons (pg_name (i := 3) scMaps.nd rfl (.inr rfl)) (pgs_cons (pg_name (i := 4) scMaps.nd rfl (.inl rfl)) pgs_nil))))
      (pss_one (ps_ret (pe_lc (own := [("_law_turn", 6)]) (g := gName 6) (te := teMap K) (by rfl) scMaps.nd (pi_range1 rfl zr (pa_cons (pv 4) pa_nil)) (blkOk_by (own := [("_law_turn", 6)]) (N := ["_law_source_here", "_law_most_points", "_law_most_letters", "_law_size", "_law_many", "_law_point", "_law_turn"]) (sc := defScope s_L_maps) (by decide +kernel)) (fun _ _ _ _ _ => pg_name (i := 6) scMaps.nd rfl (Or.inl rfl)) (fun _ _ _ _ _ => pts_nil)
        (fun _ _ _ _ _ => by exact pe_callTy call_tuple_of rfl zt PyProof.Rows.boot_tuple (pa_cons (pe_lc (own := [("_law_point", 5)]) (g := gName 5) (te := teDraw) (by rfl) scMaps.nd (pi_range1 rfl zr (pa_cons (pv 3) pa_nil)) (blkOk_by (own := [("_law_point", 5)]) (N := ["_law_source_here", "_law_most_points", "_law_most_letters", "_law_size", "_law_many", "_law_point", "_law_turn"]) (sc := scTurn) (by decide +kernel)) (fun _ _ _ _ _ => pg_name (i := 5) scMaps.nd rfl (Or.inl rfl)) (fun _ _ _ _ _ => pts_nil)
          (fun _ _ _ _ _ => by exact pe_def DD hr pass0 rfl (pa_cons (pv 0) (pa_cons (pv 3) pa_nil)))) pa_nil)))))), ?_⟩
    refine ⟨_, rfl, _, rfl, l, n, (mp : Nat), rfl, src, by omega, by omega, by omega, fun x H1 x0 x1 b1 src1 => ?_⟩
    refine ⟨1, x, rfl, rfl, _, rfl, _, rfl, l, n + 1, (ml : Nat), rfl, src1, by omega, by omega, by omega, fun y H2 y0 y1 b2 src2 => ?_⟩
    refine ⟨1, y, rfl, rfl, ?_⟩
    refine ⟨(by show 2 ≤ sizeLine; decide), fun T nT => ?_⟩
    refine ⟨T, _, rfl, SqT.of upd_same, rfl, _, _, rfl, _, _, rfl, rfl, ?_⟩
    obtain ⟨x, rfl⟩ : ∃ x' : Nat, x = (x' : Nat) := ⟨x.toNat, by omega⟩
    obtain ⟨y, rfl⟩ : ∃ y' : Nat, y = (y' : Nat) := ⟨y.toNat, by omega⟩
    have ex : (1 : Int) + (x : Nat) = ((1 + x : Nat) : Int) := by omega
    have ey : (1 : Int) + (y : Nat) = ((1 + y : Nat) : Int) := by omega
    have nTl := src2.ne nT
    have src3 := src2.upd (o := .tup [.int (1 + (x : Nat)), .int (1 + (y : Nat))]) nTl
    have b3 : But l H (L2.upd H2 T (.tup [.int (1 + (x : Nat)), .int (1 + (y : Nat))])) := But.trans (b1.trans b2) (But.of (same_upd nT))
    generalize L2.upd H2 T (.tup [.int (1 + (x : Nat)), .int (1 + (y : Nat))]) = H3 at src3 b3 ⊢
    refine ⟨_, rfl, ((1 + y : Nat) : Int), congrArg (fun z => [V.int z]) ey, by omega, by omega, fun D nD => ?_⟩
    have nDl := src3.ne nD
    refine lc_range (lo := 0) (n := 1 + y) (fun i Hc => (∀ b o, b ≠ l → b ≠ D → H3 b = some o → Hc b = some o) ∧ Src Hc l (n + 2 + i * 4) ∧ ∃ (as : List Addr) (gens : List (List Nat)), Hc D = some (.lst (as.map V.ref)) ∧ as.length = i ∧ gens.length = i ∧ (∀ (j : Nat) a row, as[j]? = some a → gens[j]? = some row → Hc a = some (.tup (row.map nv))) ∧ ∀ g ∈ gens, Mon.Valid (1 + x) g)
      ⟨fun b o _ nb e => by rw [upd_ne nb]; exact e, src3.upd nDl, [], [], upd_same, rfl, rfl, fun j a row h => by simp at h, fun z hz => by cases hz⟩ (fun i Hc hi ⟨bc, sc, as, gens, hD, la, lg, el, vl⟩ => ?_) (fun Hc ⟨bc, sc, as, gens, hD, la, lg, el, vl⟩ => ?_)
    · refine ⟨rfl, yesT ?_⟩
      show teMap K [some (.ref l), _, _, some (.int (1 + (x : Nat))), _, _, _] Hc _
      rw [ex]
      refine one_map sc (by omega) (by omega) (by omega) fun t xs H' b' nt ht va src' => ?_
      have hD' := b' _ _ nDl hD
      have ntD : t ≠ D := fun z => by rw [z, hD] at nt; cases nt
      refine ⟨_, hD', by rw [List.length_map, la]; show i < 16777216; omega, fun b o nl nb e => by rw [upd_ne nb]; exact b' _ _ nl (bc _ _ nl nb e), (src'.upd nDl).up (by omega), as ++ [t], gens ++ [xs], by rw [upd_same]; simp, by simp [la], by simp [lg], fun j a row h1 h2 => ?_, fun g hg => ?_⟩
      · by_cases hj : j < i
        · rw [List.getElem?_append_left (by omega)] at h1 h2
          have e0 := el j a row h1 h2
          have nal : a ≠ l := fun z => by
            obtain ⟨u, v, w', e, _⟩ := sc
            rw [z, e] at e0
            cases e0
          have naD : a ≠ D := fun z => by
            rw [z, hD] at e0
            cases e0
          rw [upd_ne naD]
          exact b' _ _ nal e0
        · have ej : j = i := by
            have := get_lt h1
            simp at this
            omega
          subst ej
          rw [List.getElem?_append_right (by omega), la, Nat.sub_self] at h1
          rw [List.getElem?_append_right (by omega), lg, Nat.sub_self] at h2
          cases h1
          cases h2
          rw [upd_ne ntD]
          exact ht
      · rcases List.mem_append.mp hg with h | h
        · exact vl g h
        · rw [List.mem_singleton.mp h]
          exact va
    · have hDn : H D = none := by
        cases e : H D with
        | none => rfl
        | some o => rw [b3 _ _ nDl e] at nD; cases nD
      refine k D gens (1 + x) Hc (fun b o nl e => bc _ _ nl (ne_of_none e hDn) (b3 _ _ nl e)) hDn ⟨as, hD, by omega, el⟩ (fun z => ?_) (by omega) (by omega) (by omega) vl (sc.up (by omega))
      rw [z] at lg
      simp at lg
      omega
end
end K15

set_option Elab.async false
set_option linter.all false
set_option maxRecDepth 100000
set_option maxHeartbeats 4000000
/-! Products of maps, found one by one: pure. -/
namespace Lf
open PySem PySem.Spec PyProof.Rows L2
/-- numbers as the key of a dict -/
def kt (x : List Nat) : List Key := x.map fun i => (Sum.inl ((i : Nat) : Int) : Key)
theorem kt_map {x : List Nat} : (kt x).map kV = x.map fun i => V.int (i : Nat) := by
  unfold kt
  rw [List.map_map]
  rfl
theorem kt_inj : ∀ {x y : List Nat}, kt x = kt y → x = y
  | [], [], _ => rfl
  | [], _ :: _, h => by simp [kt] at h
  | _ :: _, [], h => by simp [kt] at h
  | a :: r, b :: s, h => by
    unfold kt at h
    rw [List.map_cons, List.map_cons] at h
    injection h with h1 h2
    have e : ((a : Int)) = (b : Int) := Sum.inl.inj h1
    rw [show a = b by omega, kt_inj (x := r) (y := s) h2]
/-- a dict of numbers by their place -/
def dtabF : Nat → List (List Nat) → List (List Key × V)
  | _, [] => []
  | k, x :: r => (kt x, .int (k : Nat)) :: dtabF (k + 1) r
abbrev dtab (f : List (List Nat)) : List (List Key × V) := dtabF 0 f
theorem dtabF_len : ∀ {f : List (List Nat)} {k : Nat}, (dtabF k f).length = f.length
  | [], _ => rfl
  | x :: r, k => by rw [dtabF, List.length_cons, dtabF_len, List.length_cons]
theorem dtabF_snoc {x : List Nat} : ∀ {f : List (List Nat)} {k : Nat}, dtabF k (f ++ [x]) = dtabF k f ++ [(kt x, .int (k + f.length : Nat))]
  | [], k => rfl
  | y :: r, k => by
    rw [List.cons_append, dtabF, dtabF, dtabF_snoc, List.cons_append, List.length_cons, show k + 1 + r.length = k + (r.length + 1) by omega]
theorem dtabF_none {x : List Nat} : ∀ {f : List (List Nat)} {k : Nat}, x ∉ f → valV (dtabF k f) (kt x) = none
  | [], _, _ => rfl
  | y :: r, k, h => by
    have hy : ¬ kt y = kt x := fun z => h (by rw [kt_inj z]; exact List.mem_cons_self)
    rw [dtabF, valV_neg (p := (kt y, V.int (k : Nat))) hy]
    exact dtabF_none fun z => h (List.mem_cons_of_mem _ z)
theorem dtabF_some {x : List Nat} : ∀ {f : List (List Nat)} {k i : Nat}, f.Nodup → f[i]? = some x → valV (dtabF k f) (kt x) = some (.int (k + i : Nat))
  | [], _, _, _, h => by simp at h
  | y :: r, k, 0, _, h => by
    cases h
    rw [dtabF, valV_pos (p := (kt x, V.int (k : Nat))) rfl]
    rfl
  | y :: r, k, i + 1, nd, h => by
    have hm : r[i]? = some x := h
    obtain ⟨h1, h2⟩ := List.nodup_cons.mp nd
    have hy : ¬ kt y = kt x := fun z => h1 (by rw [kt_inj z]; exact List.mem_of_getElem? hm)
    rw [dtabF, valV_neg (p := (kt y, V.int (k : Nat))) hy, dtabF_some h2 hm, show k + 1 + i = k + (i + 1) by omega]
theorem dtab_put {x : List Nat} {f : List (List Nat)} (h : x ∉ f) : putK (dtab f) (kt x) (.int (f.length : Nat)) = dtab (f ++ [x]) := by
  rw [putK_new _ (dtabF_none h), dtab, dtabF_snoc, Nat.zero_add]
end Lf
namespace Mon
/-- the words of what was met -/
def wordStep (L : List (List Nat)) (p : Nat × Nat) : List (List Nat) := L ++ [L.getD p.1 [] ++ [p.2]]
def wordTab (m : List (Nat × Nat)) : List (List Nat) := m.foldl wordStep [[]]
theorem word_snoc {m : List (Nat × Nat)} {p : Nat × Nat} : wordTab (m ++ [p]) = wordStep (wordTab m) p := by
  unfold wordTab
  rw [List.foldl_append]
  rfl
theorem word_len : ∀ {m : List (Nat × Nat)}, (wordTab m).length = m.length + 1 := by
  intro m
  unfold wordTab
  suffices h : ∀ (m : List (Nat × Nat)) (L : List (List Nat)), (m.foldl wordStep L).length = L.length + m.length by
    rw [h]
    show 1 + m.length = _
    omega
  intro m
  induction m with
  | nil => intro L; rfl
  | cons p r ih =>
    intro L
    rw [List.foldl_cons, ih, wordStep, List.length_append, List.length_cons, List.length_cons, List.length_nil]
    omega
/-- the search at letter c of row i -/
structure Bfs (n : Nat) (gens : List (List Nat)) (i c : Nat) (found rows : List (List Nat)) (row : List Nat) (m : List (Nat × Nat)) : Prop where
  nd : found.Nodup
  val : ∀ x ∈ found, Valid n x
  gval : ∀ g ∈ gens, Valid n g
  head : found[0]? = some (idm n)
  len : rows.length = i
  wid : ∀ (j : Nat) r, rows[j]? = some r → r.length = gens.length
  ent : ∀ (j : Nat) r, rows[j]? = some r → ∀ (k t : Nat), r[k]? = some t → ∃ x g, found[j]? = some x ∧ gens[k]? = some g ∧ found[t]? = some (comp x g)
  rlen : row.length = c
  rent : ∀ (k t : Nat), row[k]? = some t → ∃ x g, found[i]? = some x ∧ gens[k]? = some g ∧ found[t]? = some (comp x g)
  made : ∃ m0, madeTab 0 rows [] = some m0 ∧ (c ≠ 0 → i < m0.length + 1) ∧ madeRow i 0 row m0 = some m
  mlen : m.length + 1 = found.length
  le : i ≤ found.length
theorem Bfs.few {n : Nat} {gens found rows : List (List Nat)} {i c : Nat} {row : List Nat} {m : List (Nat × Nat)} (B : Bfs n gens i c found rows row m) : found.length ≤ n ^ n := maps_few B.nd B.val
theorem Bfs.start {n : Nat} {gens : List (List Nat)} (gv : ∀ g ∈ gens, Valid n g) : Bfs n gens 0 0 [idm n] [] [] [] where
  nd := by simp
  val := fun x hx => by rw [List.mem_singleton.mp hx]; exact idm_valid
  gval := gv
  head := rfl
  len := rfl
  wid := fun j r h => by simp at h
  ent := fun j r h => by simp at h
  rlen := rfl
  rent := fun k t h => by simp at h
  made := ⟨[], rfl, fun z => (z rfl).elim, rfl⟩
  mlen := rfl
  le := Nat.zero_le _
theorem get_app {α : Type} {l : List α} {i : Nat} {x : α} (y : α) (h : l[i]? = some x) : (l ++ [y])[i]? = some x := by
  rw [List.getElem?_append_left (List.getElem?_eq_some_iff.mp h).1]
  exact h
theorem snoc_cases {α : Type} {l : List α} {j : Nat} {x y : α} (h : (l ++ [y])[j]? = some x) : l[j]? = some x ∨ j = l.length ∧ x = y := by
  by_cases hj : j < l.length
  · rw [List.getElem?_append_left hj] at h
    exact .inl h
  · have := (List.getElem?_eq_some_iff.mp h).1
    rw [List.length_append, List.length_singleton] at this
    have e : j = l.length := by omega
    subst e
    rw [List.getElem?_append_right (Nat.le_refl _), Nat.sub_self] at h
    exact .inr ⟨rfl, (Option.some.inj h).symm⟩
section
variable {n : Nat} {gens found rows : List (List Nat)} {i c : Nat} {row : List Nat} {m : List (Nat × Nat)}
/-- a product that was met before -/
theorem Bfs.old (B : Bfs n gens i c found rows row m) {x g : List Nat} {t : Nat} (hx : found[i]? = some x) (hg : gens[c]? = some g) (ht : found[t]? = some (comp x g)) : Bfs n gens i (c + 1) found rows (row ++ [t]) m := by
  obtain ⟨m0, a1, a2, a3⟩ := B.made
  have tl := (List.getElem?_eq_some_iff.mp ht).1
  have il := (List.getElem?_eq_some_iff.mp hx).1
  have ml := B.mlen
  refine { B with rlen := by rw [List.length_append, B.rlen]; rfl, rent := fun k u h => ?_, made := ⟨m0, a1, fun _ => ?_, ?_⟩ }
  · rcases snoc_cases h with h | ⟨rfl, rfl⟩
    · exact B.rent k u h
    · exact ⟨x, g, hx, by rw [B.rlen]; exact hg, ht⟩
  · by_cases hc : c = 0
    · subst hc
      have : row = [] := List.length_eq_zero_iff.mp B.rlen
      subst this
      have e : m0 = m := Option.some.inj a3
      subst e
      omega
    · exact a2 hc
  · rw [madeRow_snoc, a3, Option.bind_some, if_neg (by omega), if_neg (by omega)]
/-- a new one -/
theorem Bfs.new (B : Bfs n gens i c found rows row m) {x g : List Nat} (hx : found[i]? = some x) (hg : gens[c]? = some g) (hn : comp x g ∉ found) : Bfs n gens i (c + 1) (found ++ [comp x g]) rows (row ++ [found.length]) (m ++ [(i, c)]) := by
  obtain ⟨m0, a1, a2, a3⟩ := B.made
  have il := (List.getElem?_eq_some_iff.mp hx).1
  have ml := B.mlen
  refine ⟨?_, fun z hz => ?_, B.gval, get_app _ B.head, B.len, B.wid, fun j r hr k t ht => ?_, by rw [List.length_append, B.rlen]; rfl, fun k t h => ?_, ⟨m0, a1, fun _ => ?_, ?_⟩, by simp [ml], by rw [List.length_append]; omega⟩
  · rw [List.nodup_append]
    refine ⟨B.nd, by simp, fun a ha b hb e => ?_⟩
    rw [e, List.mem_singleton.mp hb] at ha
    exact hn ha
  · rcases List.mem_append.mp hz with h | h
    · exact B.val z h
    · rw [List.mem_singleton.mp h]
      exact comp_valid (B.val x (List.mem_of_getElem? hx)) (B.gval g (List.mem_of_getElem? hg))
  · obtain ⟨u, v, h1, h2, h3⟩ := B.ent j r hr k t ht
    exact ⟨u, v, get_app _ h1, h2, get_app _ h3⟩
  · rcases snoc_cases h with h | ⟨rfl, rfl⟩
    · obtain ⟨u, v, h1, h2, h3⟩ := B.rent k t h
      exact ⟨u, v, get_app _ h1, h2, get_app _ h3⟩
    · refine ⟨x, g, get_app _ hx, by rw [B.rlen]; exact hg, ?_⟩
      rw [List.getElem?_append_right (Nat.le_refl _), Nat.sub_self]
      rfl
  · by_cases hc : c = 0
    · subst hc
      have : row = [] := List.length_eq_zero_iff.mp B.rlen
      subst this
      have e : m0 = m := Option.some.inj a3
      subst e
      omega
    · exact a2 hc
  · rw [madeRow_snoc, a3, Option.bind_some, if_neg (by omega), if_pos ml.symm, Nat.zero_add, B.rlen]
/-- the end of a row -/
theorem Bfs.next (B : Bfs n gens i c found rows row m) (hc : c = gens.length) (c0 : c ≠ 0) {x : List Nat} (hx : found[i]? = some x) : Bfs n gens (i + 1) 0 found (rows ++ [row]) [] m := by
  obtain ⟨m0, a1, a2, a3⟩ := B.made
  have il := (List.getElem?_eq_some_iff.mp hx).1
  refine ⟨B.nd, B.val, B.gval, B.head, by rw [List.length_append, B.len]; rfl, fun j r h => ?_, fun j r h k t ht => ?_, rfl, fun k t h => by simp at h, ⟨m, ?_, fun z => (z rfl).elim, rfl⟩, B.mlen, il⟩
  · rcases snoc_cases h with h | ⟨rfl, rfl⟩
    · exact B.wid j r h
    · rw [B.rlen, hc]
  · rcases snoc_cases h with h | ⟨rfl, rfl⟩
    · exact B.ent j r h k t ht
    · rw [B.len]
      exact B.rent k t ht
  · rw [madeTab_snoc, a1, Option.bind_some, Nat.zero_add, B.len, if_neg (by have := a2 c0; omega)]
    exact a3
/-- the end of the search -/
theorem Bfs.tab (B : Bfs n gens i 0 found rows [] m) (h : found.length ≤ i) : Tab n gens found rows ∧ madeTab 0 rows [] = some m ∧ m.length + 1 = rows.length := by
  obtain ⟨m0, a1, a2, a3⟩ := B.made
  have e : m0 = m := Option.some.inj a3
  subst e
  have le := B.le
  have l := B.len
  have ml := B.mlen
  exact ⟨⟨B.nd, B.val, B.gval, B.head, by omega, B.wid, B.ent⟩, a1, by omega⟩
end
end Mon

set_option Elab.async false
set_option linter.all false
set_option maxRecDepth 100000
set_option maxHeartbeats 4000000
/-! {key: value} with a tuple key. -/
namespace Lf
open PySem PySem.Spec PyProof.Rows L2
/-- {k: v} -/
def tDispT1 (tk tv : TE) : TE := fun σ H Q => ∀ p, H p = none → tk σ (upd H p (.dT [])) fun x H1 => tv σ H1 fun y H2 => ∃ ks b H3, H2 p = some (.dT []) ∧ x = .ref b ∧ H2 b = some (.tup (ks.map kV)) ∧ H3 = upd H2 p (.dT [(ks, y)]) ∧ Q (.ref p) H3
theorem pe_dispT1 {X : Cx} {pos : Pos} {k v : Expr} {tk tv : TE} (hu : X.A.units + 1 < cLine) (hk : PE X k tk) (hv : PE X v tv) : PE X (.Dict [some k] [v] pos) (tDispT1 tk tv) := by
  refine ⟨fun pins s σ H Q I q => ?_⟩
  have hn := I.hok.fresh (Nat.le_refl s.heap.objs.size)
  have I1 := I.laid (a := s.heap.objs.size) (o := .dT []) (h' := s.heap.push { cls := .type "dict", data := .dict #[] }) (t' := s.toks) (fun _ _ q => Heap.get?_push_of_some _ q) (Nat.le_refl _) (dt_empty s.heap I.big)
  rw [arm_eval_Dict, zip_pairTrees [some k] [v] X.env pos rfl rfl, dictDisplay_pairs (pairTrees [some k] [v] X.env pos) (fun z => by cases z) (show 1 < 17 by decide)]
  refine wpAny_bind (wpAny_standAt (wpAny_bind ?_))
  unfold subDict
  refine wpAny_bind (wpAny_alloc ?_)
  refine wpAny_bind (wpAny_holding ?_)
  rw [if_pos (show (pairTrees [some k] [v] X.env pos).length ≤ 15 from (by show 1 ≤ 15; decide))]
  refine wpAny_bind (pairTrees_cons_walk (thn (hk.run pins _ σ _ _ I1 (q _ hn)) fun u s1 ⟨x, H1, I1, rx, q1⟩ => thn (hv.run pins s1 σ H1 _ I1 q1) fun r s2 ⟨y, H2, I2, ry, q2⟩ => pairTrees_nil_walk ?_))
  obtain ⟨ks, b, H3, e, ex, eb, e3, q3⟩ := q2
  subst ex e3
  cases (show u = Value.ref b from rx)
  obtain ⟨z, hd, xs, rel, dd⟩ := dt_of I2.hok e
  cases rel
  refine wpAny_holding ?_
  rw [List.forIn_cons]
  refine wpAny_bind (wpAny_bind (wpAny_bind (wpAny_dictSet_heap (hsz := by decide) (show (tupleKind (mixKind X.prog X.w)).room X.A from Nat.lt_of_succ_lt hu) (key_of I2.hok eb) dd fun h' dd' hs => wpAny_pure ?_)))
  dsimp only
  refine wpAny_pure (wpAny_pure (wpAny_pure (wpAny_pure ⟨.ref s.heap.objs.size, _, ?_, rfl, q3⟩)))
  obtain ⟨q, es, ep, hq, h2, h3, h4, _, h5⟩ := dd'
  refine d_write I2 (by rw [e]; exact True.intro) hs ⟨q, hq⟩ ⟨by show 1 ≤ sizeLine; decide, hd, _, ((show KT H2 [] [] from .nil).put ks eb ry).keeps fun c ys ec => ?_, q, es, ep, hq, h2, h3, h4, h5⟩
  rw [upd_ne (ne_of ec e (fun z => nomatch z))]
  exact ec
end Lf

set_option Elab.async false
set_option linter.all false
set_option maxRecDepth 100000
set_option maxHeartbeats 4000000
/-! zip(text, list), walked. -/
namespace Lf
open PySem PySem.Spec PyProof.Rows L2
/-- the cells of such a zip lie apart -/
structure Far (z TI TO i1 i2 b : Addr) : Prop where
  a1 : TI ≠ z
  a2 : TO ≠ z
  a3 : TI ≠ TO
  a4 : TI ≠ i1
  a5 : TI ≠ i2
  a6 : z ≠ i1
  a7 : z ≠ i2
  a8 : TO ≠ i1
  a9 : TO ≠ i2
  b1 : i1 ≠ i2
  c1 : z ≠ b
  c2 : TO ≠ b
  c3 : i1 ≠ b
  c4 : i2 ≠ b
theorem Far.sep {z TI TO i1 i2 b : Addr} (f : Far z TI TO i1 i2 b) : ZipSep2 z TI TO i1 i2 [i1] [i2, b] where
  TIz := f.a1
  TOz := f.a2
  TITO := f.a3
  TIi1 := f.a4
  mem1 := List.mem_cons_self
  zf1 := fun h => f.a6 (List.mem_singleton.mp h)
  Tf1 := fun h => f.a8 (List.mem_singleton.mp h)
  TIi2 := f.a5
  mem2 := List.mem_cons_self
  zf2 := fun h => by
    simp only [List.mem_cons, List.not_mem_nil, or_false] at h
    exact h.elim f.a7 f.c1
  Tf2 := fun h => by
    simp only [List.mem_cons, List.not_mem_nil, or_false] at h
    exact h.elim f.a9 f.c2
  sep1_2 := fun h => by
    simp only [List.mem_cons, List.not_mem_nil, or_false] at h
    exact h.elim f.b1 f.c3
  sep2_1 := fun h => f.b1 (List.mem_singleton.mp h).symm
/-- signs of a text and items of a list, in new pairs -/
def Itzs (K : PySem.W.Frag) (x : Str) (b : Addr) : It :=
  ⟨fun i H => ∃ (ys : List V) (c : Nat) (y : V), SqL K H b ys ∧ x.cps[i]? = some c ∧ ys[i]? = some y,
    fun i H v H' => ∃ (T : Addr) (c : Nat) (y : V), v = .ref T ∧ H T = none ∧ H' = L2.upd H T (.tup [.str ⟨#[c]⟩, y]) ∧ x.cps[i]? = some c ∧ ∀ ys, SqL K H b ys → ys[i]? = some y,
    fun i H => ∃ ys : List V, SqL K H b ys ∧ i ≤ x.cps.size ∧ i ≤ ys.length ∧ (i = x.cps.size ∨ i = ys.length)⟩
theorem turn_zips {P : Program} {w : World} {K : PySem.W.Frag} {elts : List Expr} {kk : Nat} {tpos : Pos} {z TI TO i1 i2 b : Addr} (x : Str) (t : Tok) (f : Far z TI TO i1 i2 b) :
    Turn P w K (.Tuple elts kk tpos) (Itzs K x b) [z, TI, TO, i1, i2] z (fun i h => IsZip h z TI TO .none ∧ IsTupOf2 h TI (.ref i1) (.ref i2) ∧ (∃ p q, IsTupOf2 h TO p q) ∧ h.IsStrIter i1 (strIterType x) x t i ∧ h.IsListIter i2 b i) where
  mem := List.mem_cons_self
  obj := fun i h st c hc => by
    obtain ⟨hz, hTI, ⟨p, q, hTO⟩, ⟨o1, e1, _, d1⟩, ⟨o2, e2, _, d2⟩⟩ := st
    simp only [List.mem_cons, List.not_mem_nil, or_false] at hc
    rcases hc with rfl | rfl | rfl | rfl | rfl
    · exact ⟨_, hz, fun v q => nomatch q⟩
    · exact ⟨_, hTI, fun v q => nomatch q⟩
    · exact ⟨_, hTO, fun v q => nomatch q⟩
    · exact ⟨o1, e1, fun v q => by rw [d1] at q; cases q⟩
    · exact ⟨o2, e2, fun v q => by rw [d2] at q; cases q⟩
  keep := fun i h h' st k => by
    obtain ⟨hz, hTI, ⟨p, q, hTO⟩, h1, h2⟩ := st
    obtain ⟨o1, e1, g1⟩ := h1
    exact ⟨k z (by simp) _ hz, k TI (by simp) _ hTI, ⟨p, q, k TO (by simp) _ hTO⟩, ⟨o1, k i1 (by simp) _ e1, g1⟩, h2.at fun o e => k i2 (by simp) o e⟩
  item := by
    intro X hP hw hK hc i pins s σ H E I hf st hg
    subst hP hw hK
    obtain ⟨hz, hTI, ⟨p0, q0, hTO⟩, h1, h2⟩ := st
    obtain ⟨ys, c, y, hq, hx, hy⟩ := hg
    obtain ⟨its, rv, p, _⟩ := I.list hq
    obtain ⟨u, hu, ru⟩ := rv.get hy
    have calm : X.A.in1.handled = none := by have := I.ok.hd hc; simp [this]
    have zl : z < s.heap.objs.size := Heap.lt_size hz
    have lt1 : i < x.cps.size := (Array.getElem?_eq_some_iff.mp hx).1
    have lt2 : i < its.toArray.size := by rw [List.size_toArray, ← rv.length]; exact (List.getElem?_eq_some_iff.mp hy).1
    refine wpAny_pyNext_zipD2_item f.sep (Draws.text (prog := X.prog) (w := X.w) calm i1 x t) (Draws.list (prog := X.prog) (w := X.w) calm i2 b (Ne.symm f.c4) its.toArray) hz hTI hTO h1 ⟨h2, p.isList⟩ lt1 lt2
      fun x1 x2 h' tk y1 y2 hz' hTO' d1 d2 hT hsz hk => ?_
    obtain ⟨c', t', hc', rfl⟩ := y1
    rw [hx] at hc'
    cases hc'
    have eu : u = x2 := by
      have q : its[i]? = some x2 := by simpa using y2
      rw [hu] at q
      exact Option.some.inj q
    subst eu
    refine ⟨_, rfl, wpAny_letOwnedTupleGo_zip (s := { s with heap := h', toks := tk }) hz' fun h'' z'' sb => ?_⟩
    have hT2 : h''.get? s.heap.objs.size = some { cls := .type "tuple", data := .seq #[.str ⟨#[c]⟩ t', u] } := (sb.2 _ (Nat.ne_of_gt zl)).trans hT
    have new : ObjOk X.prog X.w (L2.upd H s.heap.objs.size (.tup [.str ⟨#[c]⟩, y])) h'' s.heap.objs.size (.tup [.str ⟨#[c]⟩, y]) :=
      ⟨by show 2 ≤ sizeLine; decide, [.str ⟨#[c]⟩ t', u], .cons ⟨_, rfl⟩ (.cons ru .nil), ⟨_, hT2, rfl, _, rfl⟩⟩
    have I1 : Inv X pins σ (L2.upd H s.heap.objs.size (.tup [.str ⟨#[c]⟩, y])) { s with heap := h'', toks := tk } :=
      I.turnedNew (ch := [z, TI, TO, i1, i2]) (fun d o hb q => (sb.2 d (fun e => hb (by simp [e]))).trans (hk d o (fun e => hb (by simp [e])) (fun e => hb (by simp [e])) (fun e => hb (by simp [e])) (fun e => hb (by simp [e])) q)) hf (Nat.le_refl _) new
    obtain ⟨o1, e1, g1⟩ := d1
    refine ⟨.ref s.heap.objs.size, _, I1, rfl, ⟨_, c, y, rfl, I.hok.fresh (Nat.le_refl _), rfl, hx, fun l hl => by rw [I.list_inj hl hq]; exact hy⟩, ⟨z'', ?_, ⟨_, _, (sb.2 _ f.a2).trans hTO'⟩, ⟨o1, (sb.2 _ (Ne.symm f.a6)).trans e1, g1⟩, d2.1.at fun o q => (sb.2 _ (Ne.symm f.a7)).trans q⟩, fun d hd => ?_⟩
    · exact (sb.2 _ f.a1).trans (hk _ _ f.a1 f.a3 f.a4 f.a5 hTI)
    · have lt : d < s.heap.objs.size := by
        simp only [List.mem_cons, List.not_mem_nil, or_false] at hd
        rcases hd with rfl | rfl | rfl | rfl | rfl
        · exact zl
        · exact Heap.lt_size hTI
        · exact Heap.lt_size hTO
        · obtain ⟨_, e, _⟩ := h1; exact Heap.lt_size e
        · obtain ⟨_, e, _⟩ := h2; exact Heap.lt_size e
      rw [upd_ne (Nat.ne_of_lt lt)]
      exact (hf d hd).1
  done := by
    intro X hP hw hK hc i pins s σ H E I hf st hg
    subst hP hw hK
    obtain ⟨hz, hTI, ⟨p0, q0, hTO⟩, h1, h2⟩ := st
    obtain ⟨ys, hq, le1, le2, hend⟩ := hg
    obtain ⟨its, rv, p, _⟩ := I.list hq
    have l2 := rv.length
    have calm : X.A.in1.handled = none := by have := I.ok.hd hc; simp [this]
    refine wpAny_pyNext_zipD2_end f.sep (Draws.text (prog := X.prog) (w := X.w) calm i1 x t) (Draws.list (prog := X.prog) (w := X.w) calm i2 b (Ne.symm f.c4) its.toArray) hz hTI hTO h1 ⟨h2, p.isList⟩ le1 (by simp; omega) (by simp; omega)
      fun h' tk hk => ⟨rfl, I.turnedL (t' := tk) (ch := [z, TI, TO, i1, i2]) (fun d o hb q => hk d o (fun e => hb (by simp [e])) (fun e => hb (by simp [e])) (fun e => hb (by simp [e])) (fun e => hb (by simp [e])) q) hf⟩
  self := fun A i s Q E st h => wpAny_pyIter_zip st.1 h
def iZips (K : PySem.W.Frag) (ta : TA) : TI := fun σ H R => ta σ H fun vs H1 => ∃ x b ys, vs = [.str x, .ref b] ∧ SqL K H1 b ys ∧ R (Itzs K x b) H1
theorem pi_zips {X : Cx} {e e2 : Expr} {ta : TA} {p pos tpos : Pos} {elts : List Expr} {kk : Nat} (hg : Gl X "zip") (hm : X.mg "zip" = none) (ha : PA X [e, e2] ta)
    (hs : starEach [e, e2] X.env = (false, eval e X.env) :: starEach [e2] X.env := by rfl) (hpl : (backTo pos (starEach [e2] X.env)).any (·.1) = false := by rfl) :
    PI X (.Tuple elts kk tpos) (.Call (.Name "zip" p) [e, e2] [] pos) (iZips X.K ta) := by
  refine ⟨fun pins s σ H R I h => ?_⟩
  refine Call_ (ld_blt I hg hm PyProof.Rows.boot_zip (PyProof.Rows.callWith_type1 (thn (ha.run pos pins s σ H _ I h) fun us s1 hh => ?_) hs hpl))
  obtain ⟨vs, H1, I1, r1, x, b, ys, rfl, hq, q⟩ := hh
  cases r1 with
  | cons r rr =>
    cases rr with
    | cons r2 rr =>
      cases rr
      obtain ⟨t, rfl⟩ := r
      cases r2
      obtain ⟨its, rv, pl, _⟩ := I1.list hq
      have lb : b < s1.heap.objs.size := pl.lt
      refine zip_begins2 (begins_text x t) (begins_list b its.toArray) trivial pl.isList fun h' hz hTI hTO g1 g2 hsz hk => wpAny_pyIter_zip hz ?_
      have I2 : Inv X pins σ H1 { s1 with heap := h' } := I1.kept (t' := s1.toks) hk
      have far : Far (s1.heap.objs.size + 4) (s1.heap.objs.size + 2) (s1.heap.objs.size + 3) s1.heap.objs.size (s1.heap.objs.size + 1) b := by
        have ne : ∀ k : Nat, s1.heap.objs.size + k ≠ b := fun k => Nat.ne_of_gt (Nat.lt_of_lt_of_le lb (Nat.le_add_right _ _))
        refine ⟨?_, ?_, ?_, ?_, ?_, ?_, ?_, ?_, ?_, ?_, ne 4, ne 3, ne 0, ne 1⟩ <;> (intro h; have h' : (_ : Nat) = _ := h; omega)
      refine ⟨s1.heap.objs.size + 4, [s1.heap.objs.size + 4, s1.heap.objs.size + 2, s1.heap.objs.size + 3, s1.heap.objs.size, s1.heap.objs.size + 1], _, _, H1, rfl, I2, turn_zips x t far, ⟨hz, hTI, ⟨_, _, hTO⟩, ⟨_, g1, rfl, rfl⟩, ⟨_, g2, rfl, rfl⟩⟩, fun c hc => ?_, q⟩
      have hle : s1.heap.objs.size ≤ c := by
        simp only [List.mem_cons, List.not_mem_nil, or_false] at hc
        rcases hc with z | z | z | z | z <;> rw [z]
        · exact Nat.le_add_right _ _
        · exact Nat.le_add_right _ _
        · exact Nat.le_add_right _ _
        · exact Nat.le_refl _
        · exact Nat.le_add_right _ _
      exact I1.fpOk hle (I1.hok.fresh hle)
theorem walk_zips {K : PySem.W.Frag} {x : Str} {b : Addr} {ys : List V} (le : ys.length ≤ x.cps.size) : Walk (Itzs K x b) ys.length (fun H => SqL K H b ys)
    (fun i H v H' => ∃ (T : Addr) (c : Nat) (y : V), v = .ref T ∧ H T = none ∧ H' = L2.upd H T (.tup [.str ⟨#[c]⟩, y]) ∧ x.cps[i]? = some c ∧ ys[i]? = some y) where
  goes := fun i H hi g => ⟨ys, x.cps[i]'(by omega), ys[i], g, Array.getElem?_eq_getElem (by omega), List.getElem?_eq_getElem hi⟩
  stops := fun H g => ⟨ys, g, le, Nat.le_refl _, .inr rfl⟩
  yields := fun i H v H' hi g y => by
    obtain ⟨T, c, u, e1, e2, e3, e4, e5⟩ := y
    exact ⟨T, c, u, e1, e2, e3, e4, e5 ys g⟩
end Lf

set_option Elab.async false
set_option linter.all false
set_option maxRecDepth 100000
set_option maxHeartbeats 8000000
namespace K15
open PySem PySem.Spec PyProof.Rows L2 Lf
/-- a word as a text -/
def ws (x : List Nat) : Str := ⟨(x.map fun c => 97 + c).toArray⟩
abbrev wv (x : List Nat) : V := .str (ws x)
theorem ws_app {x : List Nat} {c : Nat} : (ws x ++ (⟨#[97 + c]⟩ : Str)) = ws (x ++ [c]) := by
  show Str.mk ((x.map fun c => 97 + c).toArray ++ #[97 + c]) = ws (x ++ [c])
  unfold ws
  simp
theorem ws_len {x : List Nat} : (ws x).length = x.length := by
  show ((x.map fun c => 97 + c).toArray).size = x.length
  simp
theorem word_shortF : ∀ (m : List (Nat × Nat)) (L : List (List Nat)) (n : Nat), (∀ w ∈ L, w.length ≤ n) → ∀ w ∈ m.foldl Mon.wordStep L, w.length ≤ n + m.length
  | [], L, n, h, w, hw => h w hw
  | p :: r, L, n, h, w, hw => by
    rw [List.length_cons, show n + (r.length + 1) = n + 1 + r.length by omega]
    refine word_shortF r (Mon.wordStep L p) (n + 1) (fun u hu => ?_) w hw
    unfold Mon.wordStep at hu
    rcases List.mem_append.mp hu with g | g
    · have := h u g
      omega
    · rw [List.mem_singleton.mp g, List.length_append, List.length_singleton]
      cases e : L[p.1]? with
      | none => rw [List.getD, e]; show 0 + 1 ≤ _; omega
      | some v =>
        rw [List.getD, e]
        have := h v (List.mem_of_getElem? e)
        show v.length + 1 ≤ _
        omega
theorem word_short {m : List (Nat × Nat)} {w : List Nat} (h : w ∈ Mon.wordTab m) : w.length ≤ m.length := by
  have := word_shortF m [[]] 0 (fun u hu => by rw [List.mem_singleton.mp hu]; exact Nat.le_refl _) w h
  omega
/-- what the search has found, as it lies -/
structure Lay (H : Hp) (pf pw pt pn : Addr) (as bs : List Addr) (found words rows : List (List Nat)) : Prop where
  f : H pf = some (.lst (as.map V.ref))
  fl : as.length = found.length
  fe : ∀ (j : Nat) a x, as[j]? = some a → found[j]? = some x → H a = some (.tup (x.map nv))
  w : H pw = some (.lst (words.map wv))
  t : H pt = some (.lst (bs.map V.ref))
  tl : bs.length = rows.length
  te : ∀ (j : Nat) b r, bs[j]? = some b → rows[j]? = some r → H b = some (.lst (r.map nv))
  tn : ∀ b ∈ bs, b ≠ pf ∧ b ≠ pw ∧ b ≠ pt
  d : H pn = some (.dT (dtab found))
  n1 : pf ≠ pw
  n2 : pf ≠ pt
  n3 : pw ≠ pt
section
variable {H : Hp} {pf pw pt pn : Addr} {as bs : List Addr} {found words rows : List (List Nat)}
theorem Lay.same {H' : Hp} (L : Lay H pf pw pt pn as bs found words rows) (s : Same H H') : Lay H' pf pw pt pn as bs found words rows :=
  ⟨s _ _ L.f, L.fl, fun j a x h1 h2 => s _ _ (L.fe j a x h1 h2), s _ _ L.w, s _ _ L.t, L.tl, fun j b r h1 h2 => s _ _ (L.te j b r h1 h2), L.tn, s _ _ L.d, L.n1, L.n2, L.n3⟩
theorem Lay.gn (L : Lay H pf pw pt pn as bs found words rows) : pn ≠ pf ∧ pn ≠ pw ∧ pn ≠ pt := by
  refine ⟨fun z => ?_, fun z => ?_, fun z => ?_⟩
  · have := L.d; rw [z, L.f] at this; cases this
  · have := L.d; rw [z, L.w] at this; cases this
  · have := L.d; rw [z, L.t] at this; cases this
theorem Lay.bn (L : Lay H pf pw pt pn as bs found words rows) {b : Addr} (hb : b ∈ bs) : b ≠ pn := fun z => by
  obtain ⟨j, hj⟩ := List.getElem?_of_mem hb
  obtain ⟨r, hr⟩ := lt_get (show j < rows.length by rw [← L.tl]; exact get_lt hj)
  have := L.te j b r hj hr
  rw [z, L.d] at this
  cases this
/-- a list that is not of it changes -/
theorem Lay.off (L : Lay H pf pw pt pn as bs found words rows) {p : Addr} {l l' : List V} (hp : H p = some (.lst l)) (np : p ≠ pf ∧ p ≠ pw ∧ p ≠ pt) (nb : p ∉ bs) : Lay (upd H p (.lst l')) pf pw pt pn as bs found words rows where
  f := by rw [upd_ne np.1.symm]; exact L.f
  fl := L.fl
  fe := fun j a x h1 h2 => by
    have e := L.fe j a x h1 h2
    rw [upd_ne (fun z => by rw [z, hp] at e; cases e)]
    exact e
  w := by rw [upd_ne np.2.1.symm]; exact L.w
  t := by rw [upd_ne np.2.2.symm]; exact L.t
  tl := L.tl
  te := fun j b r h1 h2 => by
    rw [upd_ne (fun z => nb (by rw [← z]; exact List.mem_of_getElem? h1))]
    exact L.te j b r h1 h2
  tn := L.tn
  d := by
    have e := L.d
    rw [upd_ne (fun z => by rw [z, hp] at e; cases e)]
    exact e
  n1 := L.n1
  n2 := L.n2
  n3 := L.n3
/-- a row more -/
theorem Lay.row (L : Lay H pf pw pt pn as bs found words rows) {p : Addr} {r : List Nat} (hp : H p = some (.lst (r.map nv))) (np : p ≠ pf ∧ p ≠ pw ∧ p ≠ pt) : Lay (upd H pt (.lst ((bs ++ [p]).map V.ref))) pf pw pt pn as (bs ++ [p]) found words (rows ++ [r]) where
  f := by rw [upd_ne L.n2]; exact L.f
  fl := L.fl
  fe := fun j a x h1 h2 => by
    have e := L.fe j a x h1 h2
    rw [upd_ne (fun z => by rw [z, L.t] at e; cases e)]
    exact e
  w := by rw [upd_ne L.n3]; exact L.w
  t := upd_same
  tl := by rw [List.length_append, List.length_append, L.tl]; rfl
  te := fun j b r' h1 h2 => by
    rcases Mon.snoc_cases h1 with h1 | ⟨rfl, rfl⟩
    · rcases Mon.snoc_cases h2 with h2 | ⟨rfl, rfl⟩
      · rw [upd_ne (L.tn b (List.mem_of_getElem? h1)).2.2]
        exact L.te j b r' h1 h2
      · have := get_lt h1
        rw [L.tl] at this
        omega
    · rcases Mon.snoc_cases h2 with h2 | ⟨_, rfl⟩
      · have := get_lt h2
        rw [L.tl] at this
        omega
      · rw [upd_ne np.2.2]
        exact hp
  tn := fun b hb => by
    rcases List.mem_append.mp hb with h | h
    · exact L.tn b h
    · rw [List.mem_singleton.mp h]
      exact np
  d := by rw [upd_ne L.gn.2.2]; exact L.d
  n1 := L.n1
  n2 := L.n2
  n3 := L.n3
/-- an element more -/
theorem Lay.add (L : Lay H pf pw pt pn as bs found words rows) {b : Addr} {x wd : List Nat} (hb : H b = some (.tup (x.map nv))) : Lay (upd (upd (upd H pn (.dT (dtab (found ++ [x])))) pf (.lst ((as ++ [b]).map V.ref))) pw (.lst ((words ++ [wd]).map wv))) pf pw pt pn (as ++ [b]) bs (found ++ [x]) (words ++ [wd]) rows where
  f := by rw [upd_ne L.n1, upd_same]
  fl := by rw [List.length_append, List.length_append, L.fl]; rfl
  fe := fun j a y h1 h2 => by
    have e : H a = some (.tup (y.map nv)) := by
      rcases Mon.snoc_cases h1 with h1 | ⟨rfl, rfl⟩
      · rcases Mon.snoc_cases h2 with h2 | ⟨rfl, rfl⟩
        · exact L.fe j a y h1 h2
        · have := get_lt h1
          rw [L.fl] at this
          omega
      · rcases Mon.snoc_cases h2 with h2 | ⟨_, rfl⟩
        · have := get_lt h2
          rw [L.fl] at this
          omega
        · exact hb
    rw [upd_ne (fun z => by rw [z, L.w] at e; cases e), upd_ne (fun z => by rw [z, L.f] at e; cases e), upd_ne (fun z => by rw [z, L.d] at e; cases e)]
    exact e
  w := upd_same
  t := by rw [upd_ne L.n3.symm, upd_ne L.n2.symm, upd_ne L.gn.2.2.symm]; exact L.t
  tl := L.tl
  te := fun j c r h1 h2 => by
    have m := List.mem_of_getElem? h1
    obtain ⟨a1, a2, a3⟩ := L.tn c m
    rw [upd_ne a2, upd_ne a1, upd_ne (L.bn m)]
    exact L.te j c r h1 h2
  tn := L.tn
  d := by rw [upd_ne L.gn.2.1, upd_ne L.gn.1, upd_same]
  n1 := L.n1
  n2 := L.n2
  n3 := L.n3
end
end K15

set_option Elab.async false
set_option linter.all false
set_option maxRecDepth 100000
set_option maxHeartbeats 4000000
/-! list(text), text * n; texts by their signs. -/
namespace Lf
open PySem PySem.Spec PyProof.Rows L2
/-- a text of signs -/
def tx (cs : List Nat) : Str := ⟨cs.toArray⟩
theorem tx_len (cs : List Nat) : (tx cs).length = cs.length := by
  show cs.toArray.size = _
  simp
theorem tx_list (cs : List Nat) : (tx cs).cps.toList = cs := rfl
theorem tx_app (a b : List Nat) : tx a ++ tx b = tx (a ++ b) := by
  show Str.mk (a.toArray ++ b.toArray) = Str.mk (a ++ b).toArray
  simp
theorem tx_inj {a b : List Nat} (h : tx a = tx b) : a = b := by
  have := congrArg (fun z : Str => z.cps.toList) h
  exact this
theorem tx_of (z : Str) : z = tx z.cps.toList := by
  obtain ⟨⟨l⟩⟩ := z
  rfl
theorem call_listStr {X : Cx} (hc : X.calm = true) : CallR X (.type "list") (fun xs H Q => ∃ cs : List Nat, xs = [.str (tx cs)] ∧ cs.length ≤ sizeLine ∧ ∀ l, H l = none → Q (.ref l) (upd H l (.lst (cs.map fun c => V.str (tx [c]))))) := by
  intro pins s σ H xs us Q I r h
  obtain ⟨cs, rfl, hz, q⟩ := h
  obtain ⟨u, rfl, rx⟩ := vals1 r
  obtain ⟨t, rfl⟩ := rx
  have sz : (tx cs).cps.size = cs.length := by simp [tx]
  refine call_list_str (I.ok.hd hc) (tx cs) t (fun h' tk acc' c' kp e it => ?_) (by rw [sz]; exact hz)
  have la : acc'.toList.length = cs.length := by rw [Array.length_toList, it.1, sz]
  have rv : Vals (cs.map fun c => V.str (tx [c])) acc'.toList := by
    have g : ∀ (cs : List Nat) (us : List Value), us.length = cs.length → (∀ (j : Nat) (v : Value), us[j]? = some v → ∃ (c : Nat) (u : Tok), cs[j]? = some c ∧ v = Value.str ⟨#[c]⟩ u) → Vals (cs.map fun c => V.str (tx [c])) us := by
      intro cs
      induction cs with
      | nil =>
        intro us hl _
        cases us with
        | nil => exact .nil
        | cons a b => simp at hl
      | cons c cs ih =>
        intro us hl hv
        cases us with
        | nil => simp at hl
        | cons a b =>
          refine .cons ?_ (ih b (by simpa using hl) fun j v hj => hv (j + 1) v hj)
          obtain ⟨c', u, e1, e2⟩ := hv 0 a rfl
          cases e1
          exact ⟨u, e2⟩
    refine g cs _ la fun j v hj => ?_
    have hj' : acc'[j]? = some v := by rw [← Array.getElem?_toList]; exact hj
    obtain ⟨c, u, e1, e2⟩ := it.2 j v hj'
    refine ⟨c, u, ?_, e2⟩
    rw [← Array.getElem?_toList] at e1
    exact e1
  refine ⟨.ref s.heap.objs.size, _, I.laid (t' := tk) kp (Nat.le_refl _) (show ObjOk X.prog X.w _ h' _ (.lst (cs.map fun c => V.str (tx [c]))) from ⟨by rw [List.length_map]; exact hz, acc'.toList, c', rv, ?_⟩), rfl, q _ (I.hok.fresh (Nat.le_refl _))⟩
  exact e
theorem foldl_app (x : Array Nat) : ∀ (n : Nat) (a : Array Nat), (List.replicate n x).foldl (· ++ ·) a = a ++ (List.replicate n x.toList).flatten.toArray
  | 0, a => by simp
  | n + 1, a => by
    rw [List.replicate_succ, List.foldl_cons, foldl_app x n, List.replicate_succ, List.flatten_cons]
    apply Array.ext'
    simp
theorem flat_len (n : Nat) (cs : List Nat) : (List.replicate n cs).flatten.length = n * cs.length := by
  induction n with
  | zero => rw [Nat.zero_mul]; rfl
  | succ n ih => rw [List.replicate_succ, List.flatten_cons, List.length_append, ih, Nat.succ_mul, Nat.add_comm]
theorem op_mul_str {X : Cx} : OpR X (binaryOp .Mult) (fun x y H Q => ∃ (cs : List Nat) (n : Nat), x = .str (tx cs) ∧ y = .int (n : Nat) ∧ 2 ≤ n ∧ n ≤ 1000 ∧ 1 ≤ cs.length ∧ cs.length ≤ 1000 ∧ Q (.str (tx (List.replicate n cs).flatten)) H) := by
  intro pins s σ H x y v u Q I rx ry h
  obtain ⟨cs, n, rfl, rfl, h2, hn, l1, l2, q⟩ := h
  obtain ⟨t, rfl⟩ := rx
  obtain ⟨t', rfl⟩ := ry
  have ll : (tx cs).length = cs.length := tx_len cs
  have nl : ¬ ((n : Nat) : Int) < 1 := by omega
  have no : (((n : Nat) : Int) == 1 || (tx cs).length == 0) = false := by
    rw [ll]
    have a : (((n : Nat) : Int) == 1) = false := by
      apply beq_false_of_ne
      omega
    have b : (cs.length == 0) = false := by
      apply beq_false_of_ne
      omega
    rw [a, b]
    rfl
  have hm : cs.length * n ≤ 1000000 := by
    have := Nat.mul_le_mul l2 hn
    omega
  refine P.mul_str ?_ (fun _ _ => ?_) (fun _ _ => ?_) ?_
  · rw [decide_eq_false (by omega), decide_eq_false (by omega)]
    rfl
  · rw [ll]
    have : (cs.length : Int) ≤ (2 ^ 63 - 1) / (n : Nat) := by
      rw [Int.le_ediv_iff_mul_le (by omega)]
      have : ((cs.length * n : Nat) : Int) ≤ 1000000 := Int.ofNat_le.mpr hm
      rw [Int.natCast_mul] at this
      omega
    omega
  · rw [ll, Int.toNat_natCast]
    have : ¬ cs.length * n > sizeLine := by rw [sizeLine_eq]; omega
    show decide (cs.length * n > sizeLine) = false
    exact decide_eq_false this
  · rw [if_neg nl, no, if_neg (by decide), Int.toNat_natCast]
    have e : (⟨(List.replicate n (tx cs).cps).foldl (· ++ ·) #[]⟩ : Str) = tx (List.replicate n cs).flatten := by
      rw [foldl_app]
      show Str.mk (#[] ++ (List.replicate n cs).flatten.toArray) = _
      rw [Array.empty_append]
      rfl
    rw [e]
    refine ⟨?_, ⟨.str (tx (List.replicate n cs).flatten), H, I.tok _, ⟨_, rfl⟩, q⟩⟩
    rw [tx_len]
    have : (List.replicate n cs).flatten.length = n * cs.length := flat_len n cs
    rw [this, sizeLine_eq, Nat.mul_comm]
    omega
end Lf

set_option Elab.async false
set_option linter.all false
set_option maxRecDepth 100000
set_option maxHeartbeats 4000000
/-! Small things that many texts want. -/
namespace Lf
open PySem PySem.Spec PyProof.Rows L2
theorem yesT {σ : L2.St} {H : Hp} {A B : Hp → Prop} (h : A H) : tYes σ H fun b H3 => if b = true then A H3 else B H3 := by
  show if true = true then A H else B H
  rw [if_pos rfl]
  exact h
theorem pe_gstr {X : Cx} {x v : Str} {t : Tok} {pos : Pos} (hg : Gl X x) (hm : X.mg x = some (.str v t)) (hd : (x == ("__debug__" : Str)) = false := by decide +kernel) : PE X (.Name x pos) (tC (.str v)) := pe_glob hg hm ⟨t, rfl⟩ hd
theorem map_get {α β : Type} {f : α → β} {l : List α} {i : Nat} {y : β} (h : (l.map f)[i]? = some y) : ∃ a, l[i]? = some a ∧ y = f a := by
  rw [List.getElem?_map] at h
  cases z : l[i]? with
  | none => rw [z] at h; cases h
  | some a => rw [z] at h; exact ⟨a, rfl, (Option.some.inj h).symm⟩
theorem get_map {α β : Type} {f : α → β} {l : List α} {i : Nat} {a : α} (h : l[i]? = some a) : (l.map f)[i]? = some (f a) := by rw [List.getElem?_map, h]; rfl
theorem get_lt {α : Type} {l : List α} {i : Nat} {a : α} (h : l[i]? = some a) : i < l.length := (List.getElem?_eq_some_iff.mp h).1
theorem lt_get {α : Type} {l : List α} {i : Nat} (h : i < l.length) : ∃ a, l[i]? = some a := ⟨_, List.getElem?_eq_getElem h⟩
theorem nil_of {H H' : Hp} {p : Addr} (s : Same H H') (n : H' p = none) : H p = none := by
  cases e : H p with
  | none => rfl
  | some o => rw [s _ _ e] at n; cases n
theorem But.nil {H H' : Hp} {l p : Addr} (s : But l H H') (np : p ≠ l) (n : H' p = none) : H p = none := by
  cases e : H p with
  | none => rfl
  | some o => rw [s _ _ np e] at n; cases n
theorem tyx_same {K : PySem.W.Frag} {H H' : Hp} {x : V} {t : Value} (e : Same H H') (h : TyX K H x t) : TyX K H' x t := by
  cases h with
  | base b =>
    cases b with
    | non => exact .base .non
    | bl b => exact .base (.bl b)
    | int i => exact .base (.int i)
    | str s => exact .base (.str s)
    | flt f => exact .base (.flt f)
    | lst h => exact .base (.lst (e _ _ h))
    | frz h => exact .base (.frz (e _ _ h))
    | tup h => exact .base (.tup (e _ _ h))
    | dK h => exact .base (.dK (e _ _ h))
    | dT h => exact .base (.dT (e _ _ h))
    | ins h a b c d f => exact .base (.ins (e _ _ h) a b c d f)
  | byt b => exact .byt b
  | set h => exact .set (e _ _ h)
  | kList h c => exact .kList h c
  | kTuple h c => exact .kTuple h c
  | kDict h c => exact .kDict h c
  | fTuple h => exact .fTuple (e _ _ h)
  | fDict h => exact .fDict (e _ _ h)
/-- a number, or what is none -/
inductive NumK (K : PySem.W.Frag) (H : Hp) : V → Option Int → Prop
  | int (i : Int) : NumK K H (.int i) (some i)
  | bl (b : Bool) : NumK K H (.bl b) none
  | oth {x : V} {n : String} (ty : TyX K H x (.type n)) (e : kitB n "int" = some false) : NumK K H x none
theorem NumK.same {K : PySem.W.Frag} {H H' : Hp} {x : V} {o : Option Int} (e : Same H H') (h : NumK K H x o) : NumK K H' x o := by
  cases h with
  | int i => exact .int i
  | bl b => exact .bl b
  | oth t q => exact .oth (tyx_same e t) q
/-- a text, or what is none -/
inductive TxtK (K : PySem.W.Frag) (H : Hp) : V → Option Str → Prop
  | str (z : Str) : TxtK K H (.str z) (some z)
  | oth {x : V} {n : String} (ty : TyX K H x (.type n)) (e : kitB n "str" = some false) : TxtK K H x none
theorem TxtK.same {K : PySem.W.Frag} {H H' : Hp} {x : V} {o : Option Str} (e : Same H H') (h : TxtK K H x o) : TxtK K H' x o := by
  cases h with
  | str i => exact .str i
  | oth t q => exact .oth (tyx_same e t) q
def isTx : Option Str → Bool
  | some _ => true
  | none => false
theorem TxtK.ty {K : PySem.W.Frag} {H : Hp} {x : V} {o : Option Str} (h : TxtK K H x o) : ∃ n, TyX K H x (.type n) ∧ PySem.W.kitOne K (.type n) (.type "str") = some (isTx o) := by
  cases h with
  | str z => exact ⟨_, .base (.str z), kit_ty (show kitB "str" "str" = some true by decide +kernel)⟩
  | oth t q => exact ⟨_, t, kit_ty q⟩
end Lf

set_option Elab.async false
set_option linter.all false
set_option maxRecDepth 100000
set_option maxHeartbeats 8000000
namespace K15
open PySem PySem.Spec PyProof.Rows L2 Lf
/-- all words of a length, in order -/
def lvl (wd : Nat) : Nat → List (List Nat)
  | 0 => [[]]
  | k + 1 => (lvl wd k).flatMap fun u => (List.range wd).map fun c => u ++ [c]
def upW (wd : Nat) : Nat → List (List Nat)
  | 0 => lvl wd 0
  | k + 1 => upW wd k ++ lvl wd (k + 1)
theorem fl_len {wd : Nat} : ∀ {l : List (List Nat)}, (l.flatMap fun u => (List.range wd).map fun c => u ++ [c]).length = l.length * wd
  | [] => by simp
  | a :: l => by rw [List.flatMap_cons, List.length_append, fl_len, List.length_map, List.length_range, List.length_cons, Nat.succ_mul, Nat.add_comm]
theorem lvl_len {wd : Nat} : ∀ k, (lvl wd k).length = wd ^ k
  | 0 => rfl
  | k + 1 => by rw [lvl, fl_len, lvl_len k, Nat.pow_succ]
theorem lvl_word {wd : Nat} : ∀ {k : Nat} {w : List Nat}, w ∈ lvl wd k → w.length = k ∧ ∀ c ∈ w, c < wd
  | 0, w, h => by
    rw [List.mem_singleton.mp h]
    exact ⟨rfl, fun c hc => nomatch hc⟩
  | k + 1, w, h => by
    obtain ⟨u, hu, hw⟩ := List.mem_flatMap.mp h
    obtain ⟨c, hc, rfl⟩ := List.mem_map.mp hw
    obtain ⟨a, b⟩ := lvl_word hu
    refine ⟨by simp [a], fun d hd => ?_⟩
    rcases List.mem_append.mp hd with z | z
    · exact b d z
    · rw [List.mem_singleton.mp z]
      exact List.mem_range.mp hc
theorem lvl_few {wd k : Nat} (h : wd ≤ 3) (hk : k ≤ 10) : (lvl wd k).length ≤ 59049 := by
  rw [lvl_len]
  calc wd ^ k ≤ 3 ^ k := Nat.pow_le_pow_left h k
    _ ≤ 3 ^ 10 := Nat.pow_le_pow_right (by decide) hk
theorem upW_few {wd : Nat} (h : wd ≤ 3) : ∀ {k : Nat}, k ≤ 10 → (upW wd k).length ≤ (k + 1) * 59049
  | 0, _ => by show 1 ≤ _; omega
  | k + 1, hk => by
    have a := upW_few h (k := k) (by omega)
    have b := lvl_few h hk
    rw [upW, List.length_append]
    omega
def spAllW : Sp := fun vs H Q _ => ∃ wd most, vs = [.str (ws (List.range wd)), .int (most : Nat)] ∧ wd ≤ 3 ∧ most ≤ 9 ∧ ∀ l H', Same H H' → H l = none → H' l = some (.lst ((upW wd most).map wv)) → Q (.ref l) H'
abbrev teApp : TE := tOp (fun x y H Q => ∃ i j, x = .str i ∧ y = .str j ∧ i.length + j.length ≤ sizeLine ∧ Q (.str (i ++ j)) H) (tVar 6) (tVar 7)
abbrev NAW : List Str := ["_law_letters", "_law_most", "_law_found", "_law_layer", "_law_turn", "_law_longer", "_law_word", "_law_letter"]
section
variable {P : Program} {w : World} {K : PySem.W.Frag} {mg : Str → Option Value} {base : Heap}
theorem scAllW : FnScope NAW ["_law_letters", "_law_most"] (defScope s_L_all_words) := ⟨rfl, rfl, rfl, by decide +kernel, rfl, by decide +kernel, by decide +kernel⟩
theorem ok_allW {f : Addr} {fd : FuncData} {q : Str} (F : FunD K "_law_all_words" q (defArgs s_L_all_words) (defBody s_L_all_words) (defScope s_L_all_words) [] [] f fd) (zr : mg "range" = none) :
    FnOk P w K mg base CX0 1 f fd ["_law_letters", "_law_most"] spAllW := by
  refine F.ok scAllW (fun vs H Q E h => ?_) (fun cdv A outer s H vs Q E hr h => ?_)
  · obtain ⟨wd, m, rfl, _⟩ := h
    rfl
  · obtain ⟨wd, m, rfl, w3, m9, k⟩ := h
    refine ⟨_, PSs.nox (pss_cons (ps_par (i := 2) (j := 3) rfl scAllW.nd rfl rfl (by decide) rfl rfl (pa_cons (pe_lst (pa_cons pe_str pa_nil)) (pa_cons (pe_lst (pa_cons pe_str pa_nil)) pa_nil)) (by rfl))
      (pss_cons (ps_for PassesOwn.never rfl (pi_range1 rfl zr (pa_cons (pv 1) pa_nil)) (pg_name (i := 4) scAllW.nd rfl (.inl rfl))
        (pss_cons (ps_set (i := 5) scAllW.nd rfl (.inl rfl) (pe_lst pa_nil))
        (pss_cons (ps_for PassesOwn.never rfl (pi_list (pv 3)) (pg_name (i := 6) scAllW.nd rfl (.inr rfl))
          (pss_one (ps_expr (pe_bm PySem.F.plainAttrs_list PySem.F.slot_list_extend PySem.F.type_list_extend mt_extend (pv 5) (pa_cons (pe_lc (own := [("_law_letter", 7)]) (g := gName 7) (te := teApp) (by rfl) scAllW.nd (pi_str (pv 0)) (blkOk_by (own := [("_law_letter", 7)]) (N := NAW) (sc := defScope s_L_all_words) (by decide +kernel)) (fun _ _ _ _ _ => pg_name (i := 7) scAllW.nd rfl (Or.inl rfl)) (fun _ _ _ _ _ => pts_nil)
            (fun _ _ _ _ _ => by exact pe_op op_add_str (pv 6) (pv 7))) pa_nil)))))
        (pss_cons (ps_set (i := 3) scAllW.nd rfl (.inl rfl) (pv 5))
        (pss_one (ps_set (i := 2) scAllW.nd rfl (.inl rfl) (pe_op op_cat (pv 2) (pv 3))))))))
      (pss_one (ps_ret (pv 2))))), ?_⟩
    refine ⟨(by show 1 ≤ sizeLine; decide), fun pf nf => ?_⟩
    have s1 := same_upd (o := .lst [.str ("" : Str)]) nf
    have hf : L2.upd H pf (.lst [.str ("" : Str)]) pf = some (.lst ((upW wd 0).map wv)) := upd_same
    generalize L2.upd H pf (.lst [.str ("" : Str)]) = H1 at s1 hf ⊢
    refine ⟨(by show 1 ≤ sizeLine; decide), fun pe ne => ?_⟩
    have s2 := same_upd (o := .lst [.str ("" : Str)]) ne
    have he : L2.upd H1 pe (.lst [.str ("" : Str)]) pe = some (.lst ((lvl wd 0).map wv)) := upd_same
    have hf2 := s2 _ _ hf
    have s3 := s1.trans s2
    generalize L2.upd H1 pe (.lst [.str ("" : Str)]) = H2 at s3 hf2 he ⊢
    refine ⟨_, _, rfl, _, rfl, (m : Nat), rfl, by omega, by omega, ?_⟩
    refine for_range (lo := 0) (n := m) (fun i σ Hi => ∃ (pf pe : Addr) (v4 v5 v6 : Option V), σ = [some (.str (ws (List.range wd))), some (.int (m : Nat)), some (.ref pf), some (.ref pe), v4, v5, v6, none] ∧ Same H Hi ∧ Hi pf = some (.lst ((upW wd i).map wv)) ∧ Hi pe = some (.lst ((lvl wd i).map wv)) ∧ H pf = none)
      ⟨pf, pe, none, none, none, rfl, s3, hf2, he, nf⟩ ?_ ?_
    · rintro i σ Hi hi ⟨pf, pe, v4, v5, v6, rfl, si, hf, he, nf⟩
      have lv := lvl_few w3 (k := i + 1) (by omega)
      have lu := upW_few w3 (k := i) (by omega)
      refine ⟨(by show 0 ≤ sizeLine; decide), fun pl nl => ?_⟩
      have s4 := si.trans (same_upd (o := .lst []) nl)
      have npl := nil_of si nl
      have hf' := same_upd (o := .lst []) nl _ _ hf
      have he' := same_upd (o := .lst []) nl _ _ he
      have hl : L2.upd Hi pl (.lst []) pl = some (.lst ((((lvl wd i).take 0).flatMap fun u => (List.range wd).map fun c => u ++ [c]).map wv)) := upd_same
      have nle : pe ≠ pl := fun z => by rw [z, nl] at he; cases he
      have nlf : pf ≠ pl := fun z => by rw [z, nl] at hf; cases hf
      generalize L2.upd Hi pl (.lst []) = H3 at s4 hf' he' hl ⊢
      refine ⟨_, rfl, pe, rfl, ⟨_, SqL.of he'⟩, ?_⟩
      refine for_list (K := K) (a := pe) (xs := (lvl wd i).map wv) (fun j σ Hj => ∃ v6 : Option V, σ = [some (.str (ws (List.range wd))), some (.int (m : Nat)), some (.ref pf), some (.ref pe), some (.int (0 + (i : Nat))), some (.ref pl), v6, none] ∧ Same H Hj ∧ Hj pf = some (.lst ((upW wd i).map wv)) ∧ Hj pe = some (.lst ((lvl wd i).map wv)) ∧ Hj pl = some (.lst ((((lvl wd i).take j).flatMap fun u => (List.range wd).map fun c => u ++ [c]).map wv)))
        ⟨v6, rfl, s4, hf', he', hl⟩ (fun j σ Hj _ ⟨_, _, _, _, e, _⟩ => SqL.of e) ?_ ?_
      · rintro j y σ Hj hj ⟨v6, rfl, sj, hfj, hej, hlj⟩
        obtain ⟨x, hx, rfl⟩ := map_get hj
        have xl : x.length = i := (lvl_word (List.mem_of_getElem? hx)).1
        have jl := get_lt hx
        refine ⟨_, rfl, .inl ⟨rfl, _, SqL.of hlj⟩, _, rfl, ws (List.range wd), rfl, fun D nD => ?_⟩
        refine lc_it (walk_str (z := ws (List.range wd))) (fun t Hd => But D Hj Hd ∧ Hd D = some (.lst ((((List.range wd).take t).map fun c => x ++ [c]).map wv))) ⟨But.upd, upd_same⟩ (fun _ _ _ _ => True.intro) (fun t y Hd H' ht ⟨bd, hD⟩ ⟨e', c, hc, ey⟩ => ?_) (fun Hd ⟨bd, hD⟩ => ?_)
        · subst e' ey
          obtain ⟨c', hc', rfl⟩ : ∃ d, (List.range wd)[t]? = some d ∧ c = 97 + d := by
            unfold ws at hc
            rw [List.getElem?_toArray] at hc
            obtain ⟨d, h1, h2⟩ := map_get hc
            exact ⟨d, h1, h2⟩
          have t4 : t < wd := by have := get_lt hc'; rwa [List.length_range] at this
          refine ⟨rfl, yesT ?_⟩
          refine ⟨_, rfl, _, rfl, ws x, ⟨#[97 + c']⟩, rfl, rfl, by rw [ws_len]; show x.length + 1 ≤ 16777216; omega, ?_⟩
          refine ⟨_, hD, ?_, But.trans bd But.upd, ?_⟩
          · rw [List.length_map, List.length_map, List.length_take, List.length_range]
            show min t wd < 16777216
            omega
          · rw [upd_same, ws_app, take_snoc hc', List.map_append, List.map_append]
            rfl
        · have hl2 := bd _ _ (fun z => by rw [z, nD] at hlj; cases hlj) hlj
          have nDl : D ≠ pl := fun z => by rw [z, hlj] at nD; cases nD
          have e4 : (List.range wd).take (ws (List.range wd)).cps.size = List.range wd := List.take_of_length_le (by simp [ws])
          rw [e4] at hD
          refine ⟨pl, D, _, _, rfl, rfl, hl2, hD, ?_, ?_⟩
          · rw [List.length_map, List.length_map, List.length_map, fl_len, List.length_take, List.length_range]
            have h1 : min j (lvl wd i).length * wd ≤ 59049 * 3 := Nat.mul_le_mul (Nat.le_trans (Nat.min_le_right _ _) (lvl_few w3 (by omega))) w3
            show _ + wd ≤ 16777216
            omega
          · have sd := Same.but (L2.Same.refl _) nD bd
            refine ⟨_, rfl, fun b o e => ?_, ?_, ?_, ?_⟩
            · rw [upd_ne (ne_of_none e npl)]
              exact sd _ _ (sj b o e)
            · rw [upd_ne nlf]
              exact sd _ _ hfj
            · rw [upd_ne nle]
              exact sd _ _ hej
            · rw [upd_same, take_snoc hx, List.flatMap_append, List.map_append]
              show _ = some (HO.lst (_ ++ (((List.range wd).map fun c => x ++ [c]) ++ []).map wv))
              rw [List.append_nil]
      · rintro σ Hj ⟨v6, rfl, sj, hfj, hej, hlj⟩
        rw [List.length_map, List.take_length] at hlj
        refine ⟨_, rfl, ?_⟩
        refine ⟨_, rfl, _, rfl, pf, pl, _, _, rfl, rfl, hfj, hlj, ?_, fun pn nn => ?_⟩
        · rw [List.length_map, List.length_map]
          show (upW wd i).length + (lvl wd (i + 1)).length ≤ 16777216
          have : (i + 1) * 59049 ≤ 10 * 59049 := Nat.mul_le_mul_right _ (by omega)
          omega
        · have un := same_upd (o := .lst ((upW wd i).map wv ++ (lvl wd (i + 1)).map wv)) nn
          refine ⟨pn, pl, _, _, _, rfl, sj.trans un, ?_, un _ _ hlj, nil_of sj nn⟩
          rw [upW, List.map_append]
          exact upd_same
    · rintro σ Hi ⟨pf, pe, v4, v5, v6, rfl, si, hf, he, nf⟩
      exact ⟨_, rfl, k pf Hi si nf hf⟩
end
end K15

set_option Elab.async false
set_option linter.all false
set_option maxRecDepth 100000
set_option maxHeartbeats 4000000
/-! How many words lead to each element: pure. -/
namespace Mon
/-- how often each number below N stands in I -/
def cvec (N : Nat) (I : List Nat) : List Nat := (List.range N).map fun k => I.count k
theorem cvec_len {N : Nat} {I : List Nat} : (cvec N I).length = N := by simp [cvec]
theorem cvec_get {N k : Nat} {I : List Nat} (h : k < N) : (cvec N I)[k]? = some (I.count k) := by simp [cvec, h]
def bump (f : List Nat) (t many : Nat) : List Nat := f.set t (f.getD t 0 + many)
def rowBump (f row : List Nat) (many : Nat) : List Nat := row.foldl (fun f t => bump f t many) f
def stepF (f : List Nat) : List (List Nat) → List Nat → List Nat
  | row :: rows, c :: cs => stepF (rowBump f row c) rows cs
  | _, _ => f
def stepC (rows : List (List Nat)) (cs : List Nat) : List Nat := stepF (List.replicate rows.length 0) rows cs
def dp (rows : List (List Nat)) : Nat → List Nat
  | 0 => (List.replicate rows.length 0).set 0 1
  | t + 1 => stepC rows (dp rows t)
theorem bump_len {f : List Nat} {t many : Nat} : (bump f t many).length = f.length := by simp [bump]
theorem rowBump_len : ∀ {row f : List Nat} {many : Nat}, (rowBump f row many).length = f.length
  | [], f, many => rfl
  | t :: row, f, many => by
    show (rowBump (bump f t many) row many).length = _
    rw [rowBump_len, bump_len]
theorem bump_at {f : List Nat} {t many k : Nat} (h : t < f.length) : (bump f t many).getD k 0 = f.getD k 0 + (if t = k then many else 0) := by
  unfold bump
  by_cases e : t = k
  · subst e
    rw [if_pos rfl]
    simp [List.getD, h]
  · rw [if_neg e]
    simp [List.getD, List.getElem?_set_ne e]
theorem rowBump_at : ∀ {row f : List Nat} {many k : Nat}, (∀ t ∈ row, t < f.length) → (rowBump f row many).getD k 0 = f.getD k 0 + row.count k * many
  | [], f, many, k, _ => by
    show f.getD k 0 = f.getD k 0 + 0 * many
    omega
  | t :: row, f, many, k, h => by
    show (rowBump (bump f t many) row many).getD k 0 = _
    rw [rowBump_at (fun u hu => by rw [bump_len]; exact h u (List.mem_cons_of_mem _ hu)), bump_at (h t List.mem_cons_self), List.count_cons]
    by_cases e : t = k
    · subst e
      simp only [if_true, beq_self_eq_true]
      rw [Nat.add_mul]
      omega
    · have e' : (t == k) = false := beq_eq_false_iff_ne.mpr e
      rw [if_neg e, e', if_neg (by decide), Nat.add_zero, Nat.add_zero]
/-- what the rows add to number k -/
def wsum (k : Nat) : List (List Nat) → List Nat → Nat
  | row :: rows, c :: cs => row.count k * c + wsum k rows cs
  | _, _ => 0
theorem stepF_len : ∀ {rows : List (List Nat)} {cs f : List Nat}, (stepF f rows cs).length = f.length
  | [], cs, f => by cases cs <;> rfl
  | row :: rows, [], f => rfl
  | row :: rows, c :: cs, f => by
    show (stepF (rowBump f row c) rows cs).length = _
    rw [stepF_len, rowBump_len]
theorem stepF_at {k : Nat} : ∀ {rows : List (List Nat)} {cs f : List Nat}, (∀ row ∈ rows, ∀ t ∈ row, t < f.length) → (stepF f rows cs).getD k 0 = f.getD k 0 + wsum k rows cs
  | [], cs, f, _ => by
    cases cs <;> rfl
  | row :: rows, [], f, _ => rfl
  | row :: rows, c :: cs, f, h => by
    show (stepF (rowBump f row c) rows cs).getD k 0 = f.getD k 0 + (row.count k * c + wsum k rows cs)
    rw [stepF_at (fun r hr t ht => by rw [rowBump_len]; exact h r (List.mem_cons_of_mem _ hr) t ht), rowBump_at (h row List.mem_cons_self)]
    omega
theorem stepC_len {rows : List (List Nat)} {cs : List Nat} : (stepC rows cs).length = rows.length := by rw [stepC, stepF_len, List.length_replicate]
theorem dp_len {rows : List (List Nat)} : ∀ {t : Nat}, (dp rows t).length = rows.length
  | 0 => by simp [dp]
  | t + 1 => by rw [dp, stepC_len]
/-- summed over the places, or over what stands there -/
theorem sum_set {h : Nat → Nat} : ∀ (I : List Nat) (N s : Nat), (∀ x ∈ I, s ≤ x ∧ x < s + N) → (I.map h).sum = ((List.range' s N).map fun j => I.count j * h j).sum
  | [], N, s, _ => by
    rw [List.map_nil, List.sum_nil]
    induction N generalizing s with
    | zero => rfl
    | succ N ih => rw [List.range'_succ, List.map_cons, List.sum_cons, ← ih (s + 1) fun y hy => (by cases hy)]; simp
  | x :: I, N, s, hx => by
    have ih := sum_set (h := h) I N s fun y hy => hx y (List.mem_cons_of_mem _ hy)
    have hb := hx x List.mem_cons_self
    rw [List.map_cons, List.sum_cons, ih]
    suffices g : ∀ (N s : Nat), ((List.range' s N).map fun j => (x :: I).count j * h j).sum = (if s ≤ x ∧ x < s + N then h x else 0) + ((List.range' s N).map fun j => I.count j * h j).sum by
      rw [g, if_pos hb]
    intro N
    induction N with
    | zero =>
      intro s
      rw [if_neg (by omega)]
      rfl
    | succ N ih2 =>
      intro s
      rw [List.range'_succ, List.map_cons, List.sum_cons, List.map_cons, List.sum_cons, ih2, List.count_cons]
      by_cases e : x = s
      · subst e
        rw [beq_self_eq_true, if_pos rfl, if_neg (show ¬ (x + 1 ≤ x ∧ x < x + 1 + N) by omega), if_pos (show x ≤ x ∧ x < x + (N + 1) by omega), Nat.add_mul]
        omega
      · have e' : (x == s) = false := beq_eq_false_iff_ne.mpr e
        rw [e', if_neg (by decide), Nat.add_zero]
        by_cases b : s + 1 ≤ x ∧ x < s + 1 + N
        · rw [if_pos b, if_pos (show s ≤ x ∧ x < s + (N + 1) by omega)]
          omega
        · rw [if_neg b, if_neg (show ¬ (s ≤ x ∧ x < s + (N + 1)) by omega)]
          omega
theorem wsum_eq {k : Nat} : ∀ (rows : List (List Nat)) (g : Nat → Nat) (s : Nat), wsum k rows ((List.range' s rows.length).map g) = ((List.range' s rows.length).map fun j => g j * (rows.getD (j - s) []).count k).sum
  | [], g, s => rfl
  | row :: rows, g, s => by
    rw [List.length_cons, List.range'_succ, List.map_cons, List.map_cons, List.sum_cons]
    show row.count k * g s + wsum k rows _ = _
    rw [wsum_eq rows g (s + 1)]
    have e : (List.range' (s + 1) rows.length).map (fun j => g j * (rows.getD (j - (s + 1)) []).count k) = (List.range' (s + 1) rows.length).map fun j => g j * ((row :: rows).getD (j - s) []).count k := by
      refine List.map_congr_left fun j hj => ?_
      have := List.mem_range'_1.mp hj
      obtain ⟨d, rfl⟩ : ∃ d, j = s + 1 + d := ⟨j - (s + 1), by omega⟩
      rw [show s + 1 + d - (s + 1) = d by omega, show s + 1 + d - s = d + 1 by omega]
      rfl
    rw [e, Nat.sub_self, Nat.mul_comm]
    rfl
theorem ext_getD {f g : List Nat} (l : f.length = g.length) (h : ∀ k, k < f.length → f.getD k 0 = g.getD k 0) : f = g := by
  refine List.ext_getElem l fun k h1 h2 => ?_
  have := h k h1
  rwa [getD_at h1, getD_at h2] at this
/-- a letter more -/
theorem step_cvec {rows : List (List Nat)} {I : List Nat} (hr : ∀ row ∈ rows, ∀ t ∈ row, t < rows.length) (hI : ∀ x ∈ I, x < rows.length) : stepC rows (cvec rows.length I) = cvec rows.length (I.flatMap fun j => rows.getD j []) := by
  refine ext_getD (by rw [stepC_len, cvec_len]) fun k hk => ?_
  rw [stepC_len] at hk
  rw [stepC, stepF_at (fun r hr' t ht => by rw [List.length_replicate]; exact hr r hr' t ht), getD_of (cvec_get hk), cvec, List.range_eq_range', wsum_eq, List.count_flatMap]
  have z : (List.replicate rows.length 0).getD k 0 = 0 := by simp [List.getD, hk]
  rw [z, Nat.zero_add]
  have s := sum_set (h := fun j => (rows.getD j []).count k) I rows.length 0 fun x hx => ⟨Nat.zero_le _, by have := hI x hx; omega⟩
  simp only [Nat.sub_zero]
  exact s.symm
/-- the numbers of the products of all words of a length -/
def idx (rows : List (List Nat)) : Nat → List Nat
  | 0 => [0]
  | t + 1 => (idx rows t).flatMap fun j => rows.getD j []
theorem idx_lt {rows : List (List Nat)} (h0 : 0 < rows.length) (hr : ∀ row ∈ rows, ∀ t ∈ row, t < rows.length) : ∀ (t : Nat), ∀ x ∈ idx rows t, x < rows.length
  | 0, x, hx => by
    rw [idx, List.mem_singleton] at hx
    omega
  | t + 1, x, hx => by
    rw [idx] at hx
    obtain ⟨j, _, hj⟩ := List.mem_flatMap.mp hx
    cases e : rows[j]? with
    | none => rw [List.getD, e] at hj; cases hj
    | some row =>
      rw [getD_of e] at hj
      exact hr row (List.mem_of_getElem? e) x hj
theorem dp_idx {rows : List (List Nat)} (h0 : 0 < rows.length) (hr : ∀ row ∈ rows, ∀ t ∈ row, t < rows.length) : ∀ (t : Nat), dp rows t = cvec rows.length (idx rows t)
  | 0 => by
    refine ext_getD (by rw [dp_len, cvec_len]) fun k hk => ?_
    rw [dp_len] at hk
    rw [getD_of (cvec_get hk), dp, idx]
    cases k with
    | zero => simp [List.getD, h0]
    | succ k => simp [List.getD, hk, List.count_cons]
  | t + 1 => by rw [dp, dp_idx h0 hr t, step_cvec hr (idx_lt h0 hr t), idx]
theorem ones : ∀ (I : List Nat), (I.map fun _ => 1).sum = I.length
  | [] => rfl
  | x :: I => by rw [List.map_cons, List.sum_cons, ones I, List.length_cons, Nat.add_comm]
theorem cvec_sum {N : Nat} {I : List Nat} (h : ∀ x ∈ I, x < N) : (cvec N I).sum = I.length := by
  have s : (I.map fun _ => 1).sum = ((List.range' 0 N).map fun j => I.count j * 1).sum := sum_set I N 0 fun x hx => ⟨Nat.zero_le _, by have := h x hx; omega⟩
  rw [cvec, List.range_eq_range']
  rw [show ((List.range' 0 N).map fun j => I.count j * 1) = (List.range' 0 N).map fun k => I.count k from List.map_congr_left fun j _ => Nat.mul_one _] at s
  rw [← s]
  exact ones I
end Mon

set_option Elab.async false
set_option linter.all false
set_option maxRecDepth 100000
set_option maxHeartbeats 8000000
namespace K15
open PySem PySem.Spec PyProof.Rows L2 Lf
/-- a method of Monoid -/
structure DefM (P : Program) (w : World) (K : PySem.W.Frag) (mg : Str → Option Value) (base : Heap) (CX : CXT) (k : Nat) (m : Str) (ps : List Str) (sp : Sp) : Prop where
  ex : ∃ f fd, Meth K (He.ga K "Monoid") m f ∧ FnOk P w K mg base CX k f fd ps sp ∧ Binds K fd ps []
def spSize (K : PySem.W.Frag) : Sp := fun vs H Q _ => ∃ p rows m, vs = [.ref p] ∧ Mo K H p rows m ∧ Q (.int (rows.length : Nat)) H
theorem flat_rep {n : Nat} : (List.replicate n [V.int 0]).flatten = (List.replicate n 0).map nv := by
  induction n with
  | zero => rfl
  | succ n ih => rw [List.replicate_succ, List.replicate_succ, List.flatten_cons, ih]; rfl
/-- o[i], i from the front -/
def rGetN (K : PySem.W.Frag) : V → V → Hp → VK → Prop := fun o i H Q => ∃ (p : Addr) (xs : List V) (j : Nat) (v : V), o = .ref p ∧ i = .int (j : Nat) ∧ SqL K H p xs ∧ xs[j]? = some v ∧ Q v H
theorem get_listN {X : Cx} : PGet X (rGetN X.K) := by
  intro pins s σ H o i ov iv Q I ro ri h
  obtain ⟨p, xs, j, v, rfl, rfl, hq, hv, q⟩ := h
  cases ro
  obtain ⟨t, rfl⟩ := ri
  obtain ⟨its, r, pl, hz⟩ := I.list hq
  obtain ⟨w, ew, rw'⟩ := r.get hv
  have lj := (List.getElem?_eq_some_iff.mp hv).1
  have z : sizeLine = 16777216 := sizeLine_eq
  exact wpAny_getItem_list pl.isList (by omega) (by omega) (by rw [show ((j : Nat) : Int).toNat = j by omega]; simpa using ew) ⟨v, H, I, rw', q⟩
theorem bump_nv {f : List Nat} {t many : Nat} : (f.map nv).set t (.int ((f.getD t 0 : Nat) + (many : Nat) : Int)) = (Mon.bump f t many).map nv := by
  unfold Mon.bump
  rw [List.map_set]
  rfl
theorem ixn {n j : Nat} (h : j < n) : ixN n (j : Nat) = some j := by
  unfold ixN
  rw [if_pos (by omega), if_pos (by omega)]
  rfl
theorem stepF_app {r2 : List (List Nat)} {c2 : List Nat} : ∀ {r1 : List (List Nat)} {c1 f : List Nat}, r1.length = c1.length → Mon.stepF f (r1 ++ r2) (c1 ++ c2) = Mon.stepF (Mon.stepF f r1 c1) r2 c2
  | [], [], f, _ => rfl
  | [], _ :: _, _, h => by simp at h
  | _ :: _, [], _, h => by simp at h
  | r :: r1, c :: c1, f, h => by
    show Mon.stepF (Mon.rowBump f r c) (r1 ++ r2) (c1 ++ c2) = Mon.stepF (Mon.stepF (Mon.rowBump f r c) r1 c1) r2 c2
    exact stepF_app (by simpa using h)
theorem stepF_snoc {rows : List (List Nat)} {cs f : List Nat} {j c : Nat} {row : List Nat} (h1 : rows[j]? = some row) (h2 : cs[j]? = some c) : Mon.stepF f (rows.take (j + 1)) (cs.take (j + 1)) = Mon.rowBump (Mon.stepF f (rows.take j) (cs.take j)) row c := by
  rw [take_snoc h1, take_snoc h2, stepF_app (by rw [List.length_take, List.length_take]; have := get_lt h1; have := get_lt h2; omega)]
  rfl
theorem rowBump_snoc {f row : List Nat} {c k t : Nat} (h : row[k]? = some t) : Mon.rowBump f (row.take (k + 1)) c = Mon.bump (Mon.rowBump f (row.take k) c) t c := by
  rw [take_snoc h]
  unfold Mon.rowBump
  rw [List.foldl_append]
  rfl
theorem dp_pos {rows : List (List Nat)} : ∀ {t : Nat}, (Mon.dp rows t).length = rows.length := fun {t} => Mon.dp_len
section
variable {P : Program} {w : World} {K : PySem.W.Frag} {mg : Str → Option Value} {base : Heap}
theorem scSize : FnScope ["self"] ["self"] (defScope s_Monoid_size) := ⟨rfl, rfl, rfl, by decide +kernel, rfl, by decide +kernel, by decide +kernel⟩
theorem ok_size {f : Addr} {fd : FuncData} {q : Str} (F : FunD K "size" q (defArgs s_Monoid_size) (defBody s_Monoid_size) (defScope s_Monoid_size) [] [] f fd) (T : Txt P w K mg base) :
    FnOk P w K mg base CX0 1 f fd ["self"] (spSize K) := by
  have cl : L2.Cls K (He.ga K "Monoid") := He.cls_ok (T.d.fact 46 (f := .cls "Monoid") rfl)
  have n1 : NoAttr K (He.ga K "Monoid") "right" := He.noat_ok (T.d.fact 58 (f := .noat "Monoid" "right") rfl)
  have zn : mg "len" = none := T.fr 39 "len" rfl
  refine F.ok scSize (fun vs H Q E h => ?_) (fun cdv A outer s H vs Q E hr h => ?_)
  · obtain ⟨p, rows, m, rfl, _⟩ := h
    rfl
  · obtain ⟨p, rows, m, rfl, M, k⟩ := h
    obtain ⟨dx, t, u, v, hp, R, _, _⟩ := M.ex
    obtain ⟨as, sr, la, _⟩ := R.ex
    refine ⟨_, PSs.nox (pss_one (ps_ret (pe_callB call_len_seq rfl zn boot_len (pa_cons (pe_fld (pv 0) rfl) pa_nil)))), ?_⟩
    refine ⟨_, rfl, p, _, dx, _, _, rfl, hp, cl, n1, rfl, t, as.map V.ref, rfl, .inr sr, ?_⟩
    rw [List.length_map, la]
    exact k
end
end K15

set_option Elab.async false
set_option linter.all false
/-! How long the words are: pure. -/
namespace Mon
theorem pw_const {v : Nat} : ∀ {l : List Nat}, (∀ a ∈ l, a = v) → l.Pairwise (· ≤ ·)
  | [], _ => .nil
  | x :: l, h => .cons (fun a ha => by rw [h x List.mem_cons_self, h a (List.mem_cons_of_mem _ ha)]; exact Nat.le_refl _) (pw_const fun a ha => h a (List.mem_cons_of_mem _ ha))
theorem madeTab_sorted : ∀ {rows : List (List Nat)} {i : Nat} {m m' : List (Nat × Nat)}, madeTab i rows m = some m' → ∃ e, m' = m ++ e ∧ (e.map (·.1)).Pairwise (· ≤ ·) ∧ ∀ p ∈ e, i ≤ p.1
  | [], i, m, m', h => by
    simp only [madeTab, Option.some.injEq] at h
    exact ⟨[], by simp [h], by simp, fun p hp => by cases hp⟩
  | row :: rows, i, m, m', h => by
    simp only [madeTab] at h
    split at h
    · cases h
    · cases hr : madeRow i 0 row m with
      | none => rw [hr] at h; cases h
      | some m1 =>
        rw [hr, Option.bind_some] at h
        obtain ⟨e1, he1, q1⟩ := madeRow_ok hr
        obtain ⟨e2, he2, p2, g2⟩ := madeTab_sorted h
        have all1 : ∀ p ∈ e1, p.1 = i := fun p hp => by
          obtain ⟨k, hk⟩ := List.getElem?_of_mem hp
          exact (q1 k p hk).1
        refine ⟨e1 ++ e2, by rw [he2, he1, List.append_assoc], ?_, fun p hp => ?_⟩
        · rw [List.map_append, List.pairwise_append]
          refine ⟨?_, p2, fun a ha b hb => ?_⟩
          · exact pw_const (v := i) fun a ha => by
              obtain ⟨p, hp, rfl⟩ := List.mem_map.mp ha
              exact all1 p hp
          · obtain ⟨pa, hpa, rfl⟩ := List.mem_map.mp ha
            obtain ⟨pb, hpb, rfl⟩ := List.mem_map.mp hb
            have := g2 pb hpb
            rw [all1 pa hpa]
            omega
        · rcases List.mem_append.mp hp with z | z
          · rw [all1 p z]
            exact Nat.le_refl _
          · have := g2 p z
            omega
theorem made_le {rows : List (List Nat)} {m : List (Nat × Nat)} (h : madeTab 0 rows [] = some m) {i j : Nat} {p q : Nat × Nat} (hp : m[i]? = some p) (hq : m[j]? = some q) (ij : i ≤ j) : p.1 ≤ q.1 := by
  obtain ⟨e, he, pw, _⟩ := madeTab_sorted h
  rw [List.nil_append] at he
  subst he
  rcases Nat.eq_or_lt_of_le ij with z | z
  · subst z
    rw [hp] at hq
    cases hq
    exact Nat.le_refl _
  · obtain ⟨a1, a2⟩ := List.getElem?_eq_some_iff.mp hp
    obtain ⟨b1, b2⟩ := List.getElem?_eq_some_iff.mp hq
    rw [List.pairwise_map] at pw
    have := List.pairwise_iff_getElem.mp pw i j a1 b1 z
    rw [a2, b2] at this
    exact this
/-- the lengths of the words -/
def lens (m : List (Nat × Nat)) : List Nat := (wordTab m).map List.length
theorem lens_len {m : List (Nat × Nat)} : (lens m).length = m.length + 1 := by rw [lens, List.length_map, word_len]
theorem lens_snoc {m : List (Nat × Nat)} {p : Nat × Nat} (h : p.1 < m.length + 1) : lens (m ++ [p]) = lens m ++ [(lens m).getD p.1 0 + 1] := by
  unfold lens
  rw [word_snoc, wordStep, List.map_append, List.map_cons, List.map_nil, List.length_append]
  have e : (wordTab m)[p.1]? = some ((wordTab m)[p.1]'(by rw [word_len]; exact h)) := List.getElem?_eq_getElem (by rw [word_len]; exact h)
  rw [getD_of e]
  have e2 : ((wordTab m).map List.length)[p.1]? = some ((wordTab m)[p.1]'(by rw [word_len]; exact h)).length := by rw [List.getElem?_map, e]; rfl
  rw [getD_of e2]
  rfl
section
variable {m : List (Nat × Nat)}
theorem take_app_len {α : Type} {l : List α} {k : Nat} {x : α} (h : l[k]? = some x) : l.take (k + 1) = l.take k ++ [x] := (take_cons h).2.1
theorem lens_take (hm : ∀ (k : Nat) p, m[k]? = some p → p.1 < k + 1) : ∀ (k : Nat), k ≤ m.length → lens (m.take k) = (lens m).take (k + 1) := by
  suffices g : ∀ (d k : Nat), k + d = m.length → lens (m.take k) = (lens m).take (k + 1) from fun k hk => g (m.length - k) k (by omega)
  intro d
  induction d with
  | zero =>
    intro k e
    rw [List.take_of_length_le (by omega), List.take_of_length_le (by rw [lens_len]; omega)]
  | succ d ih =>
    intro k e
    have hk : k < m.length := by omega
    have hp : m[k]? = some m[k] := List.getElem?_eq_getElem hk
    have q := ih (k + 1) (by omega)
    have lk : (m.take k).length = k := by rw [List.length_take]; omega
    rw [take_app_len hp, lens_snoc (by rw [lk]; exact hm k _ hp)] at q
    have l1 : (lens (m.take k)).length = k + 1 := by rw [lens_len, lk]
    have q2 := congrArg (List.take (k + 1)) q
    rw [List.take_left' l1, List.take_take, Nat.min_eq_left (by omega)] at q2
    exact q2
theorem lens_at (hm : ∀ (k : Nat) p, m[k]? = some p → p.1 < k + 1) {k : Nat} {p : Nat × Nat} (hp : m[k]? = some p) : (lens m).getD (k + 1) 0 = (lens m).getD p.1 0 + 1 := by
  have hk := (List.getElem?_eq_some_iff.mp hp).1
  have lk : (m.take k).length = k := by rw [List.length_take]; omega
  have pk := hm k p hp
  have q := lens_take hm (k + 1) hk
  rw [take_app_len hp, lens_snoc (by rw [lk]; exact pk)] at q
  have l1 : (lens (m.take k)).length = k + 1 := by rw [lens_len, lk]
  have a : ((lens m).take (k + 2))[k + 1]? = some ((lens (m.take k)).getD p.1 0 + 1) := by
    rw [← q, List.getElem?_append_right (by omega), l1, Nat.sub_self]
    rfl
  rw [List.getElem?_take_of_lt (by omega)] at a
  rw [getD_of a, lens_take hm k (by omega)]
  have b : ((lens m).take (k + 1))[p.1]? = (lens m)[p.1]? := List.getElem?_take_of_lt pk
  rw [List.getD, List.getD, b]
theorem lens_0 : (lens m).getD 0 0 = 0 := by
  have e : (lens m)[0]? = some 0 := by
    have h : (lens m).take 1 = lens (m.take 0) ∨ True := .inr trivial
    unfold lens wordTab
    suffices g : ∀ (m : List (Nat × Nat)) (L : List (List Nat)), L[0]? = some [] → ((m.foldl wordStep L))[0]? = some [] by
      rw [List.getElem?_map, g m [[]] rfl]
      rfl
    intro m
    induction m with
    | nil => intro L h; exact h
    | cons p r ih =>
      intro L h
      rw [List.foldl_cons]
      refine ih _ ?_
      unfold wordStep
      exact get_app _ h
  rw [getD_of e]
theorem lens_mono {rows : List (List Nat)} (h : madeTab 0 rows [] = some m) : ∀ (N i j : Nat), i ≤ j → j ≤ N → N < m.length + 1 → (lens m).getD i 0 ≤ (lens m).getD j 0 := by
  have hm : ∀ (k : Nat) p, m[k]? = some p → p.1 < k + 1 := fun k p hp => (madeTab_lt h hp).1
  intro N
  induction N with
  | zero =>
    intro i j ij jN _
    rw [show i = j by omega]
    exact Nat.le_refl _
  | succ N ih =>
    intro i j ij jN hN
    by_cases z : j ≤ N
    · exact ih i j ij z (by omega)
    · by_cases z2 : i = j
      · rw [z2]
        exact Nat.le_refl _
      · have ej : j = N + 1 := by omega
        subst ej
        have hq : m[N]? = some m[N] := List.getElem?_eq_getElem (by omega)
        have s1 := ih i N (by omega) (Nat.le_refl _) (by omega)
        refine Nat.le_trans s1 ?_
        rw [lens_at hm hq]
        cases N with
        | zero => rw [lens_0]; exact Nat.zero_le _
        | succ N =>
          have hp : m[N]? = some m[N] := List.getElem?_eq_getElem (by omega)
          rw [lens_at hm hp]
          have := made_le h hp hq (by omega)
          have b := hm _ _ hq
          exact Nat.succ_le_succ (ih _ _ this (by omega) (by omega))
theorem lens_all {rows : List (List Nat)} (h : madeTab 0 rows [] = some m) : ∀ (N k l : Nat), k ≤ N → k < m.length + 1 → l ≤ (lens m).getD k 0 → ∃ j, j < m.length + 1 ∧ (lens m).getD j 0 = l := by
  have hm : ∀ (k : Nat) p, m[k]? = some p → p.1 < k + 1 := fun k p hp => (madeTab_lt h hp).1
  intro N
  induction N with
  | zero =>
    intro k l hk hk2 hl
    have : k = 0 := by omega
    subst this
    rw [lens_0] at hl
    exact ⟨0, hk2, by rw [lens_0]; omega⟩
  | succ N ih =>
    intro k l hk hk2 hl
    by_cases e : l = (lens m).getD k 0
    · exact ⟨k, hk2, e.symm⟩
    · cases k with
      | zero => exact ih 0 l (Nat.zero_le _) hk2 hl
      | succ k =>
        have hp : m[k]? = some m[k] := List.getElem?_eq_getElem (by omega)
        have b := hm _ _ hp
        rw [lens_at hm hp] at hl e
        exact ih m[k].1 l (by omega) (by omega) (by omega)
/-- the greatest length -/
def top (m : List (Nat × Nat)) : Nat := (lens m).getD m.length 0
theorem lens_le {rows : List (List Nat)} (h : madeTab 0 rows [] = some m) : ∀ x ∈ lens m, x < top m + 1 := fun x hx => by
  obtain ⟨i, hi⟩ := List.getElem?_of_mem hx
  have il := (List.getElem?_eq_some_iff.mp hi).1
  rw [lens_len] at il
  have := lens_mono h m.length i m.length (by omega) (Nat.le_refl _) (by omega)
  rw [getD_of hi] at this
  exact Nat.lt_succ_of_le this
theorem top_short {m : List (Nat × Nat)} (hs : ∀ w ∈ wordTab m, w.length ≤ m.length) : top m ≤ m.length := by
  have e : (lens m)[m.length]? = some ((lens m)[m.length]'(by rw [lens_len]; omega)) := List.getElem?_eq_getElem _
  rw [top, getD_of e]
  have hm := List.mem_of_getElem? e
  generalize (lens m)[m.length]'(by rw [lens_len]; omega) = z at hm
  unfold lens at hm
  obtain ⟨w, hw, rfl⟩ := List.mem_map.mp hm
  exact hs w hw
/-- how many words have each length -/
def grow (m : List (Nat × Nat)) : List Nat := cvec (top m + 1) (lens m)
theorem grow_bump {rows : List (List Nat)} (h : madeTab 0 rows [] = some m) : rowBump (List.replicate (top m + 1) 0) (lens m) 1 = grow m := by
  refine ext_getD (by rw [rowBump_len, List.length_replicate, grow, cvec_len]) fun k hk => ?_
  rw [rowBump_len, List.length_replicate] at hk
  rw [rowBump_at (fun t ht => by rw [List.length_replicate]; exact lens_le h t ht), grow, getD_of (cvec_get hk)]
  simp [List.getD, hk]
theorem grow_pos {rows : List (List Nat)} (h : madeTab 0 rows [] = some m) : 0 ∉ grow m := fun hz => by
  unfold grow cvec at hz
  obtain ⟨l, hl, e⟩ := List.mem_map.mp hz
  obtain ⟨j, hj, e2⟩ := lens_all h m.length m.length l (Nat.le_refl _) (by omega) (by have := List.mem_range.mp hl; unfold top at this; omega)
  have hj' : (lens m)[j]? = some l := by
    have : j < (lens m).length := by rw [lens_len]; exact hj
    rw [List.getElem?_eq_getElem this, ← e2, getD_at this]
  have := List.count_pos_iff.mpr (List.mem_of_getElem? hj')
  omega
theorem grow_le : ∀ x ∈ grow m, x ≤ m.length + 1 := fun x hx => by
  unfold grow cvec at hx
  obtain ⟨l, _, rfl⟩ := List.mem_map.mp hx
  rw [← lens_len]
  exact List.count_le_length
theorem grow_len : (grow m).length = top m + 1 := cvec_len
end
end Mon

set_option Elab.async false
set_option linter.all false
/-! Words letter by letter, the table walked: pure. -/
namespace Mon
section
variable {m : List (Nat × Nat)}
theorem word_take (hm : ∀ (k : Nat) p, m[k]? = some p → p.1 < k + 1) : ∀ (k : Nat), k ≤ m.length → wordTab (m.take k) = (wordTab m).take (k + 1) := by
  suffices g : ∀ (d k : Nat), k + d = m.length → wordTab (m.take k) = (wordTab m).take (k + 1) from fun k hk => g (m.length - k) k (by omega)
  intro d
  induction d with
  | zero =>
    intro k e
    rw [List.take_of_length_le (by omega), List.take_of_length_le (by rw [word_len]; omega)]
  | succ d ih =>
    intro k e
    have hk : k < m.length := by omega
    have hp : m[k]? = some m[k] := List.getElem?_eq_getElem hk
    have q := ih (k + 1) (by omega)
    have lk : (m.take k).length = k := by rw [List.length_take]; omega
    rw [take_app_len hp, word_snoc, wordStep] at q
    have l1 : (wordTab (m.take k)).length = k + 1 := by rw [word_len, lk]
    have q2 := congrArg (List.take (k + 1)) q
    rw [List.take_left' l1, List.take_take, Nat.min_eq_left (by omega)] at q2
    exact q2
/-- the word of a number, by that of the number before it -/
theorem word_at (hm : ∀ (k : Nat) p, m[k]? = some p → p.1 < k + 1) {k : Nat} {p : Nat × Nat} (hp : m[k]? = some p) : (wordTab m).getD (k + 1) [] = (wordTab m).getD p.1 [] ++ [p.2] := by
  have hk := (List.getElem?_eq_some_iff.mp hp).1
  have lk : (m.take k).length = k := by rw [List.length_take]; omega
  have pk := hm k p hp
  have q := word_take hm (k + 1) hk
  rw [take_app_len hp, word_snoc, wordStep] at q
  have l1 : (wordTab (m.take k)).length = k + 1 := by rw [word_len, lk]
  have a : ((wordTab m).take (k + 2))[k + 1]? = some ((wordTab (m.take k)).getD p.1 [] ++ [p.2]) := by
    rw [← q, List.getElem?_append_right (by omega), l1, Nat.sub_self]
    rfl
  rw [List.getElem?_take_of_lt (by omega)] at a
  rw [getD_of a, word_take hm k (by omega)]
  have b : ((wordTab m).take (k + 1))[p.1]? = (wordTab m)[p.1]? := List.getElem?_take_of_lt pk
  rw [List.getD, List.getD, b]
theorem word_0 : (wordTab m).getD 0 [] = [] := by
  have e : (wordTab m)[0]? = some [] := by
    unfold wordTab
    suffices g : ∀ (m : List (Nat × Nat)) (L : List (List Nat)), L[0]? = some [] → ((m.foldl wordStep L))[0]? = some [] from g m [[]] rfl
    intro m
    induction m with
    | nil => intro L h; exact h
    | cons p r ih =>
      intro L h
      rw [List.foldl_cons]
      refine ih _ ?_
      unfold wordStep
      exact get_app _ h
  rw [getD_of e]
end
/-- where letters lead -/
def walk (rows : List (List Nat)) (s : Nat) (w : List Nat) : Nat := w.foldl (fun i c => (rows.getD i []).getD c 0) s
def compW (gens : List (List Nat)) (x : List Nat) (w : List Nat) : List Nat := w.foldl (fun x c => comp x (gens.getD c [])) x
theorem walk_app {rows : List (List Nat)} {s : Nat} {u v : List Nat} : walk rows s (u ++ v) = walk rows (walk rows s u) v := by
  unfold walk
  rw [List.foldl_append]
/-- the table acts as the maps do -/
theorem Tab.walk {n : Nat} {gens found rows : List (List Nat)} (T : Tab n gens found rows) : ∀ {w : List Nat} {s : Nat} {x : List Nat}, found[s]? = some x → (∀ c ∈ w, c < gens.length) → found[Mon.walk rows s w]? = some (compW gens x w)
  | [], s, x, h, _ => h
  | c :: w, s, x, h, hw => by
    have hg : gens[c]? = some (gens[c]'(hw c List.mem_cons_self)) := List.getElem?_eq_getElem _
    have e := T.get h hg
    have r := T.walk (w := w) e fun d hd => hw d (List.mem_cons_of_mem _ hd)
    show found[Mon.walk rows ((rows.getD s []).getD c 0) w]? = some (compW gens (comp x (gens.getD c [])) w)
    rw [getD_of hg]
    exact r
end Mon

set_option Elab.async false
set_option linter.all false
set_option maxRecDepth 100000
set_option maxHeartbeats 8000000
namespace K15
open PySem PySem.Spec PyProof.Rows L2 Lf
def spLettersOf (K : PySem.W.Frag) : Sp := fun vs H Q _ => ∃ u m n, vs = [.ref u, .int (n : Nat)] ∧ MadeT K H u m ∧ (∀ (k : Nat) p, m[k]? = some p → p.1 < k + 1) ∧ n < m.length + 1 ∧ m.length ≤ 2000 ∧
  ∀ l H', Same H H' → H l = none → H' l = some (.lst (((Mon.wordTab m).getD n []).map nv)) → Q (.ref l) H'
def spEnd (K : PySem.W.Frag) : Sp := fun vs H Q _ => ∃ r l rows wd s w, vs = [.ref r, .int (s : Nat), .ref l] ∧ RowsT K H r rows ∧ Form rows wd ∧ s < rows.length ∧ SqL K H l (w.map nv) ∧ (∀ c ∈ w, c < wd) ∧ Q (.int (Mon.walk rows s w : Nat)) H
section
variable {P : Program} {w : World} {K : PySem.W.Frag} {mg : Str → Option Value} {base : Heap}
theorem scEnd : FnScope ["right", "start", "letters", "number", "letter"] ["right", "start", "letters"] (defScope s_end) := ⟨rfl, rfl, rfl, by decide +kernel, rfl, by decide +kernel, by decide +kernel⟩
theorem ok_end {f : Addr} {fd : FuncData} {q : Str} (F : FunD K "_end" q (defArgs s_end) (defBody s_end) (defScope s_end) [] [] f fd) : FnOk P w K mg base CX0 1 f fd ["right", "start", "letters"] (spEnd K) := by
  refine F.ok scEnd (fun vs H Q E h => ?_) (fun cdv A outer s H vs Q E hr h => ?_)
  · obtain ⟨r, l, rows, wd, s0, wl, rfl, _⟩ := h
    rfl
  · obtain ⟨r, l, rows, wd, s0, wl, rfl, R, FO, hs, sl, hw, k⟩ := h
    obtain ⟨as, sr, la, srow⟩ := R.ex
    obtain ⟨f1, f2, f3, f4, f5⟩ := FO
    refine ⟨_, PSs.nox (pss_cons (ps_set (i := 3) scEnd.nd rfl (.inl rfl) (pv 1))
      (pss_cons (ps_for PassesOwn.never rfl (pi_list (pv 2)) (pg_name (i := 4) scEnd.nd rfl (.inl rfl))
        (pss_one (ps_set (i := 3) scEnd.nd rfl (.inl rfl) (pe_ix ix_tup (pe_ix ix_tup (pv 0) (pv 3) (fun _ _ => rfl)) (pv 4) (fun _ _ => rfl)))))
      (pss_one (ps_ret (pv 3))))), ?_⟩
    refine ⟨_, rfl, _, rfl, l, rfl, ⟨_, sl⟩, for_list (K := K) (a := l) (xs := wl.map nv) (fun i σ Hn => ∃ v4 : Option V, σ = [some (.ref r), some (.int (s0 : Nat)), some (.ref l), some (.int (Mon.walk rows s0 (wl.take i) : Nat)), v4] ∧ Hn = H ∧ Mon.walk rows s0 (wl.take i) < rows.length)
      ⟨none, rfl, rfl, hs⟩ (fun i σ Hn _ ⟨_, _, e, _⟩ => by rw [e]; exact sl) (fun i x σ Hn hx ⟨v4, eσ, eH, lt⟩ => ?_) (fun σ Hn ⟨v4, eσ, eH, lt⟩ => ?_)⟩
    · subst eσ eH
      obtain ⟨c, hc, rfl⟩ := map_get hx
      have cw := hw c (List.mem_of_getElem? hc)
      have e : Mon.walk rows s0 (wl.take (i + 1)) = (rows.getD (Mon.walk rows s0 (wl.take i)) []).getD c 0 := by
        rw [take_snoc hc, Mon.walk_app]
        rfl
      rw [e]
      generalize Mon.walk rows s0 (wl.take i) = s1 at lt ⊢
      obtain ⟨a, ha⟩ := lt_get (show s1 < as.length by omega)
      obtain ⟨row, hrow⟩ := lt_get lt
      obtain ⟨l1, l2⟩ := f5 row (List.mem_of_getElem? hrow)
      obtain ⟨t, ht⟩ := lt_get (show c < row.length by omega)
      rw [Mon.getD_of hrow, Mon.getD_of ht]
      refine ⟨_, rfl, _, rfl, r, as.map V.ref, _, .ref a, rfl, rfl, sr, atI_nat (get_map ha), _, rfl, a, row.map nv, _, nv t, rfl, rfl, srow s1 a row ha hrow, atI_nat (get_map ht), _, rfl, rfl, l2 t (List.mem_of_getElem? ht)⟩
    · subst eσ eH
      rw [List.length_map, List.take_length]
      exact ⟨_, rfl, k⟩
theorem scLet : FnScope ["made", "number", "letters", "letter"] ["made", "number"] (defScope s_letters_of) := ⟨rfl, rfl, rfl, by decide +kernel, rfl, by decide +kernel, by decide +kernel⟩
theorem ok_letters {f : Addr} {fd : FuncData} {q : Str} (F : FunD K "_letters_of" q (defArgs s_letters_of) (defBody s_letters_of) (defScope s_letters_of) [] [] f fd) : FnOk P w K mg base CX0 1 f fd ["made", "number"] (spLettersOf K) := by
  refine F.ok scLet (fun vs H Q E h => ?_) (fun cdv A outer s H vs Q E hr h => ?_)
  · obtain ⟨u, m, n, rfl, _⟩ := h
    rfl
  · obtain ⟨u, m, n, rfl, MM, hlt, hn, m2, k⟩ := h
    obtain ⟨ps, sm, lp, sp⟩ := MM.ex
    refine ⟨_, PSs.nox (pss_cons (ps_set (i := 2) scLet.nd rfl (.inl rfl) (pe_lst pa_nil))
      (pss_cons (ps_while PassesOwn.never (pt_cmpR op_gt (pv 1) pe_int (nomark _))
        (pss_cons (ps_asg (pe_ix ix_tup (pv 0) (pv 1) (fun _ _ => rfl)) (pg_tup rfl (pgs_cons (pg_name (i := 1) scLet.nd rfl (.inl rfl)) (pgs_cons (pg_name (i := 3) scLet.nd rfl (.inl rfl)) pgs_nil))))
        (pss_one (ps_expr (pe_bm PySem.F.plainAttrs_list PySem.F.slot_list_append PySem.F.type_list_append mt_append (pv 2) (pa_cons (pv 3) pa_nil))))))
      (pss_one (ps_ret (pe_revL (pv 2)))))), ?_⟩
    refine ⟨(by show 0 ≤ sizeLine; decide), fun B nB => ?_⟩
    have s1 := same_upd (o := .lst []) nB
    have hB : L2.upd H B (.lst []) B = some (.lst (([] : List Nat).map nv)) := upd_same
    generalize L2.upd H B (.lst []) = H1 at s1 hB ⊢
    refine ⟨fun i σ Hn => ∃ (v3 : Option V) (acc : List Nat), σ = [some (.ref u), some (.int (i : Nat)), some (.ref B), v3] ∧ Same H Hn ∧ Hn B = some (.lst (acc.map nv)) ∧ i < m.length + 1 ∧ acc.length + i ≤ n ∧ (Mon.wordTab m).getD n [] = (Mon.wordTab m).getD i [] ++ acc.reverse,
      ⟨n, none, [], rfl, s1, hB, hn, by simp, by simp⟩, ?_⟩
    rintro i σ Hn ⟨v3, acc, rfl, sn, hBn, il, ln, ew⟩
    refine ⟨_, rfl, _, 0, rfl, rfl, _, rfl, ?_⟩
    by_cases i0 : i = 0
    · subst i0
      rw [show decide ((0 : Int) < ((0 : Nat) : Int)) = false by decide]
      refine ifF rfl ?_
      refine ⟨_, rfl, B, _, rfl, SqL.of hBn, fun l nl => ?_⟩
      have nl0 : H l = none := by
        cases e : H l with
        | none => rfl
        | some o => rw [sn _ _ e] at nl; cases nl
      refine k l _ (sn.trans (same_upd nl)) nl0 ?_
      rw [upd_same, ew, Mon.word_0, List.nil_append, List.map_reverse]
    · obtain ⟨j, rfl⟩ : ∃ j, i = j + 1 := ⟨i - 1, by omega⟩
      rw [show decide ((0 : Int) < ((j + 1 : Nat) : Int)) = true from decide_eq_true (by omega)]
      refine ifT rfl ?_
      obtain ⟨pr, hpr⟩ := lt_get (show j < m.length by omega)
      obtain ⟨pa, hpa⟩ := lt_get (show j < ps.length by omega)
      have b1 := hlt j pr hpr
      have hat : (V.non :: ps.map V.ref)[j + 1]? = some (.ref pa) := by
        rw [List.getElem?_cons_succ]
        exact get_map hpa
      refine ⟨fun σ' H' => ∃ i', i' < j + 1 ∧ ∃ (v3 : Option V) (acc : List Nat), σ' = [some (.ref u), some (.int (i' : Nat)), some (.ref B), v3] ∧ Same H H' ∧ H' B = some (.lst (acc.map nv)) ∧ i' < m.length + 1 ∧ acc.length + i' ≤ n ∧ (Mon.wordTab m).getD n [] = (Mon.wordTab m).getD i' [] ++ acc.reverse, fun σ' H' z => z, ?_⟩
      refine ⟨_, rfl, _, rfl, u, _, _, .ref pa, rfl, rfl, Lf.SqT.same sn sm, atI_nat hat, pa, _, rfl, Lf.SqT.same sn (sp j pa pr hpa hpr), rfl, _, _, rfl, _, _, rfl, rfl, ?_⟩
      refine ⟨_, rfl, .inl ⟨rfl, _, SqL.of hBn⟩, _, rfl, B, _, _, rfl, rfl, hBn, by rw [List.length_map]; show acc.length < 16777216; omega, pr.1, b1, _, acc ++ [pr.2], rfl, fun b o e => ?_, by rw [upd_same, List.map_append]; rfl, by omega, by rw [List.length_append, List.length_singleton]; omega, ?_⟩
      · rw [upd_ne (ne_of_none e nB)]
        exact sn b o e
      · rw [ew, Mon.word_at hlt hpr, List.reverse_append, List.append_assoc]
        rfl
end
end K15

set_option Elab.async false
set_option linter.all false
set_option maxRecDepth 100000
set_option maxHeartbeats 8000000
namespace K15
open PySem PySem.Spec PyProof.Rows L2 Lf
def spCkN (K : PySem.W.Frag) : Sp := fun vs H Q _ => ∃ p rows m n, vs = [.ref p, .int (n : Nat)] ∧ Mo K H p rows m ∧ n < rows.length ∧ Q .non H
def spLeftM (K : PySem.W.Frag) : Sp := fun vs H Q _ => ∃ p rows m, vs = [.ref p] ∧ Mo K H p rows m ∧ ∀ v, RowsT K H v (Mon.leftTab rows m) → Q (.ref v) H
def spTimes (K : PySem.W.Frag) : Sp := fun vs H Q _ => ∃ p rows m wd i j, vs = [.ref p, .int (i : Nat), .int (j : Nat)] ∧ Mo K H p rows m ∧ Form rows wd ∧ Mon.madeTab 0 rows [] = some m ∧ m.length + 1 = rows.length ∧ i < rows.length ∧ j < rows.length ∧
  ∀ H', Same H H' → Q (.int (Mon.walk rows i ((Mon.wordTab m).getD j []) : Nat)) H'
theorem word_lettersF {wd : Nat} : ∀ (m : List (Nat × Nat)) (L : List (List Nat)), (∀ p ∈ m, p.2 < wd) → (∀ w ∈ L, ∀ c ∈ w, c < wd) → ∀ w ∈ m.foldl Mon.wordStep L, ∀ c ∈ w, c < wd
  | [], L, _, h, w, hw => h w hw
  | p :: r, L, hm, h, w, hw => by
    refine word_lettersF r (Mon.wordStep L p) (fun q hq => hm q (List.mem_cons_of_mem _ hq)) (fun u hu c hc => ?_) w hw
    unfold Mon.wordStep at hu
    rcases List.mem_append.mp hu with g | g
    · exact h u g c hc
    · rw [List.mem_singleton.mp g] at hc
      rcases List.mem_append.mp hc with hc | hc
      · cases e : L[p.1]? with
        | none => rw [List.getD, e] at hc; cases hc
        | some v => rw [List.getD, e] at hc; exact h v (List.mem_of_getElem? e) c hc
      · rw [List.mem_singleton.mp hc]
        exact hm p List.mem_cons_self
/-- the letters of words are letters -/
theorem word_letters {rows : List (List Nat)} {wd : Nat} {m : List (Nat × Nat)} (FO : Form rows wd) (hm : Mon.madeTab 0 rows [] = some m) (j : Nat) : ∀ c ∈ (Mon.wordTab m).getD j [], c < wd := fun c hc => by
  have all : ∀ p ∈ m, p.2 < wd := fun p hp => by
    obtain ⟨k, hk⟩ := List.getElem?_of_mem hp
    obtain ⟨_, row, b, c⟩ := Mon.madeTab_lt hm hk
    have := (FO.2.2.2.2 row (List.mem_of_getElem? b)).1
    have := get_lt c
    omega
  cases e : (Mon.wordTab m)[j]? with
  | none => rw [List.getD, e] at hc; cases hc
  | some w =>
    rw [Mon.getD_of e] at hc
    exact word_lettersF m [[]] all (fun u hu d hd => by rw [List.mem_singleton.mp hu] at hd; cases hd) w (List.mem_of_getElem? e) c hc
section
variable {P : Program} {w : World} {K : PySem.W.Frag} {mg : Str → Option Value} {base : Heap}
theorem scCkN : FnScope ["self", "number"] ["self", "number"] (defScope s_Monoid_check_number) := ⟨rfl, rfl, rfl, by decide +kernel, rfl, by decide +kernel, by decide +kernel⟩
theorem ok_ckn {f : Addr} {fd : FuncData} {q : Str} (F : FunD K "_check_number" q (defArgs s_Monoid_check_number) (defBody s_Monoid_check_number) (defScope s_Monoid_check_number) [] [] f fd) (T : Txt P w K mg base)
    (DB : Def P w K mg base CX0 2 "is_between" ["thing", "least", "most"] spBtw) (DZ : DefM P w K mg base CX0 1 "size" ["self"] (spSize K)) : FnOk P w K mg base CX0 3 f fd ["self", "number"] (spCkN K) := by
  have cl : L2.Cls K (He.ga K "Monoid") := He.cls_ok (T.d.fact 46 (f := .cls "Monoid") rfl)
  obtain ⟨fz, fdz, mz, Fz, bz⟩ := DZ.ex
  refine F.ok scCkN (fun vs H Q E h => ?_) (fun cdv A outer s H vs Q E hr h => ?_)
  · obtain ⟨p, rows, m, n, rfl, _⟩ := h
    rfl
  · obtain ⟨p, rows, m, n, rfl, M, hn, k⟩ := h
    have r1 : Room 1 _ := hr.mono (by decide)
    obtain ⟨dx, _, _, _, hp, _⟩ := id M.ex
    refine ⟨_, PSs.nox (pss_one (ps_if (pt_not (pt_val (pe_def DB hr pass0 rfl (pa_cons (pv 1) (pa_cons pe_int (pa_cons (pe_op op_sub (pe_meth0 (pv 0) cl mz Fz r1 bz .nil pass0) pe_int) pa_nil)))))) (pss_one ps_never) pss_nil)), ?_⟩
    refine ⟨_, rfl, _, rfl, p, dx, _, rfl, hp, rfl, p, rows, m, rfl, M, _, 1, rfl, rfl, .int (n : Nat), 0, (rows.length : Int) - 1, rfl, True.intro, _, rfl, ?_⟩
    rw [show btw 0 ((rows.length : Int) - 1) (.int (n : Nat)) = true from btw_nv hn]
    exact ifF rfl k
theorem scLeftM : FnScope ["self"] ["self"] (defScope s_Monoid_left) := ⟨rfl, rfl, rfl, by decide +kernel, rfl, by decide +kernel, by decide +kernel⟩
theorem ok_leftM {f : Addr} {fd : FuncData} {q : Str} (F : FunD K "left" q (defArgs s_Monoid_left) (defBody s_Monoid_left) (defScope s_Monoid_left) [] [] f fd) (T : Txt P w K mg base) : FnOk P w K mg base CX0 1 f fd ["self"] (spLeftM K) := by
  have cl : L2.Cls K (He.ga K "Monoid") := He.cls_ok (T.d.fact 46 (f := .cls "Monoid") rfl)
  have n3 : NoAttr K (He.ga K "Monoid") "_left" := He.noat_ok (T.d.fact 60 (f := .noat "Monoid" "_left") rfl)
  refine F.ok scLeftM (fun vs H Q E h => ?_) (fun cdv A outer s H vs Q E hr h => ?_)
  · obtain ⟨p, rows, m, rfl, _⟩ := h
    rfl
  · obtain ⟨p, rows, m, rfl, M, k⟩ := h
    obtain ⟨dx, t, u, v, hp, R, MM, LL⟩ := id M.ex
    refine ⟨_, PSs.nox (pss_one (ps_ret (pe_fld (pv 0) rfl))), ?_⟩
    exact ⟨_, rfl, p, _, dx, _, _, rfl, hp, cl, n3, rfl, k v LL⟩
theorem scTimes : FnScope ["self", "one", "other"] ["self", "one", "other"] (defScope s_Monoid_times) := ⟨rfl, rfl, rfl, by decide +kernel, rfl, by decide +kernel, by decide +kernel⟩
theorem ok_times {f : Addr} {fd : FuncData} {q : Str} (F : FunD K "times" q (defArgs s_Monoid_times) (defBody s_Monoid_times) (defScope s_Monoid_times) [] [] f fd) (T : Txt P w K mg base)
    (DN : DefM P w K mg base CX0 3 "_check_number" ["self", "number"] (spCkN K)) (DE : Def P w K mg base CX0 1 "_end" ["right", "start", "letters"] (spEnd K)) (DL : Def P w K mg base CX0 1 "_letters_of" ["made", "number"] (spLettersOf K)) :
    FnOk P w K mg base CX0 4 f fd ["self", "one", "other"] (spTimes K) := by
  have cl : L2.Cls K (He.ga K "Monoid") := He.cls_ok (T.d.fact 46 (f := .cls "Monoid") rfl)
  have n1 : NoAttr K (He.ga K "Monoid") "right" := He.noat_ok (T.d.fact 58 (f := .noat "Monoid" "right") rfl)
  have n2 : NoAttr K (He.ga K "Monoid") "_made" := He.noat_ok (T.d.fact 59 (f := .noat "Monoid" "_made") rfl)
  obtain ⟨fn', fdn, mn, Fn, bn⟩ := DN.ex
  refine F.ok scTimes (fun vs H Q E h => ?_) (fun cdv A outer s H vs Q E hr h => ?_)
  · obtain ⟨p, rows, m, wd, i, j, rfl, _⟩ := h
    rfl
  · obtain ⟨p, rows, m, wd, i, j, rfl, M, FO, hm, lm, hi, hj, k⟩ := h
    have r1 : Room 1 _ := hr.mono (by decide)
    obtain ⟨dx, t, u, v, hp, R, MM, _⟩ := id M.ex
    have n2000 := FO.2.1
    refine ⟨_, PSs.nox (pss_cons (ps_expr (pe_meth (pv 0) cl mn Fn hr bn .nil pass0 (pa_cons (pv 1) pa_nil)))
      (pss_cons (ps_expr (pe_meth (pv 0) cl mn Fn hr bn .nil pass0 (pa_cons (pv 2) pa_nil)))
      (pss_one (ps_ret (pe_def DE r1 pass0 rfl (pa_cons (pe_fld (pv 0) rfl) (pa_cons (pv 1) (pa_cons (pe_def DL r1 pass0 rfl (pa_cons (pe_fld (pv 0) rfl) (pa_cons (pv 2) pa_nil))) pa_nil)))))))), ?_⟩
    refine ⟨_, rfl, p, dx, _, rfl, hp, rfl, _, rfl, p, rows, m, i, rfl, M, hi, ?_⟩
    refine ⟨_, rfl, p, dx, _, rfl, hp, rfl, _, rfl, p, rows, m, j, rfl, M, hj, ?_⟩
    refine ⟨_, rfl, p, _, dx, _, _, rfl, hp, cl, n1, rfl, _, rfl, _, rfl, p, _, dx, _, _, rfl, hp, cl, n2, rfl, _, rfl, u, m, j, rfl, MM, fun k' p' h' => (Mon.madeTab_lt hm h').1, by omega, by omega, fun l H1 s1 _ hl => ?_⟩
    exact ⟨t, l, rows, wd, i, _, rfl, R.same s1, FO, hi, SqL.of hl, word_letters FO hm j, k H1 s1⟩
end
end K15

set_option Elab.async false
set_option linter.all false
set_option maxRecDepth 100000
set_option maxHeartbeats 8000000
namespace K15
open PySem PySem.Spec PyProof.Rows L2 Lf
def spWords (K : PySem.W.Frag) : Sp := fun vs H Q _ => ∃ p rows m wd, vs = [.ref p] ∧ Mo K H p rows m ∧ Form rows wd ∧ Mon.madeTab 0 rows [] = some m ∧ m.length ≤ 2000 ∧ ∀ l H', Same H H' → H l = none → H' l = some (.lst ((Mon.wordTab m).map wv)) → Q (.ref l) H'
theorem letter_of {c : Nat} (h : c < 6) : atI ("abcdef" : Str).cps.toList ((c : Nat) : Int) = some (97 + c) := by
  have : c = 0 ∨ c = 1 ∨ c = 2 ∨ c = 3 ∨ c = 4 ∨ c = 5 := by omega
  rcases this with rfl | rfl | rfl | rfl | rfl | rfl <;> decide +kernel
section
variable {P : Program} {w : World} {K : PySem.W.Frag} {mg : Str → Option Value} {base : Heap}
theorem scWords : FnScope ["self", "found", "before", "letter"] ["self"] (defScope s_Monoid_words) := ⟨rfl, rfl, rfl, by decide +kernel, rfl, by decide +kernel, by decide +kernel⟩
theorem ok_words {f : Addr} {fd : FuncData} {q : Str} (F : FunD K "words" q (defArgs s_Monoid_words) (defBody s_Monoid_words) (defScope s_Monoid_words) [] [] f fd) (T : Txt P w K mg base) :
    FnOk P w K mg base CX0 1 f fd ["self"] (spWords K) := by
  have cl : L2.Cls K (He.ga K "Monoid") := He.cls_ok (T.d.fact 46 (f := .cls "Monoid") rfl)
  have n2 : NoAttr K (He.ga K "Monoid") "_made" := He.noat_ok (T.d.fact 59 (f := .noat "Monoid" "_made") rfl)
  obtain ⟨tL, gL⟩ := T.st 29 "LETTERS" "abcdef" rfl
  refine F.ok scWords (fun vs H Q E h => ?_) (fun cdv A outer s H vs Q E hr h => ?_)
  · obtain ⟨p, rows, m, wd, rfl, _⟩ := h
    rfl
  · obtain ⟨p, rows, m, wd, rfl, M, FO, hm, m2, k⟩ := h
    refine ⟨_, PSs.nox (pss_cons (ps_set (i := 1) scWords.nd rfl (.inl rfl) (pe_lst (pa_cons pe_str pa_nil)))
      (pss_cons (ps_for PassesOwn.never rfl (pi_tup (pe_slice sl_tup (pe_fld (pv 0) rfl) (po_some pe_int) po_none)) (pg_tup rfl (pgs_cons (pg_name (i := 2) scWords.nd rfl (.inl rfl)) (pgs_cons (pg_name (i := 3) scWords.nd rfl (.inl rfl)) pgs_nil)))
        (pss_one (ps_expr (pe_bm PySem.F.plainAttrs_list PySem.F.slot_list_append PySem.F.type_list_append mt_append (pv 1) (pa_cons (pe_op op_add_str (pe_ix ix_list (pv 1) (pv 2) (fun _ _ => rfl)) (pe_ix ix_str (pe_gstr rfl gL) (pv 3) (fun _ _ => rfl))) pa_nil)))))
      (pss_one (ps_ret (pv 1))))), ?_⟩
    obtain ⟨dx, tr, u, v, hp, R, MM, _⟩ := id M.ex
    obtain ⟨ps, sm, lp, sp⟩ := MM.ex
    obtain ⟨f1, f2, f3, f4, f5⟩ := FO
    have hlt : ∀ (k : Nat) p, m[k]? = some p → p.1 < k + 1 ∧ p.2 < 6 := fun k p h => by
      obtain ⟨a, row, b, c⟩ := Mon.madeTab_lt hm h
      have := (f5 row (List.mem_of_getElem? b)).1
      have := get_lt c
      exact ⟨a, by omega⟩
    refine ⟨(by show 1 ≤ sizeLine; decide), fun B nB => ?_⟩
    have nB0 := nB
    have s1 := same_upd (o := .lst [V.str ("" : Str)]) nB
    have hB1 : L2.upd H B (.lst [V.str ("" : Str)]) B = some (.lst ((Mon.wordTab []).map wv)) := upd_same
    generalize L2.upd H B (.lst [V.str ("" : Str)]) = H1 at s1 hB1 ⊢
    refine ⟨_, rfl, p, _, dx, _, _, rfl, s1 _ _ hp, cl, n2, rfl, 1, rfl, u, _, rfl, Lf.SqT.same s1 sm, ?_, fun S nS => ⟨S, rfl, ⟨_, SqT.of upd_same⟩, ?_⟩⟩
    · rw [List.length_cons, sIx1]
      rintro ⟨z, _⟩
      exact absurd z (by decide)
    rw [cut1]
    have u2 := same_upd (o := .tup (ps.map V.ref)) nS
    have hS : L2.upd H1 S (.tup (ps.map V.ref)) S = some (.tup (ps.map V.ref)) := upd_same
    have s2 := s1.trans u2
    have hB2 := u2 _ _ hB1
    have nSB : S ≠ B := fun z => by rw [z, hB1] at nS; cases nS
    generalize L2.upd H1 S (.tup (ps.map V.ref)) = H2 at s2 hS hB2 ⊢
    clear u2 s1 hB1 nS
    refine for_tup (K := K) (a := S) (xs := ps.map V.ref) (fun i σ Hn => ∃ v2 v3 : Option V, σ = [some (.ref p), some (.ref B), v2, v3] ∧ Same H Hn ∧ Hn S = some (.tup (ps.map V.ref)) ∧ Hn B = some (.lst ((Mon.wordTab (m.take i)).map wv)))
      ⟨none, none, rfl, s2, hS, hB2⟩ (fun i σ Hn _ ⟨_, _, _, _, h, _⟩ => SqT.of h) (fun i x σ Hn hx ⟨v2, v3, eσ, sn, hSn, hBn⟩ => ?_) (fun σ Hn ⟨v2, v3, eσ, sn, hSn, hBn⟩ => ?_)
    · subst eσ
      obtain ⟨pa, hpa, rfl⟩ := map_get hx
      obtain ⟨pr, hpr⟩ := lt_get (show i < m.length by have := get_lt hpa; omega)
      have il := get_lt hpr
      have lk : (m.take i).length = i := by rw [List.length_take]; omega
      obtain ⟨b1, b2⟩ := hlt i pr hpr
      have lL : (Mon.wordTab (m.take i)).length = i + 1 := by rw [Mon.word_len, lk]
      obtain ⟨wp, hwp⟩ := lt_get (show pr.1 < (Mon.wordTab (m.take i)).length by omega)
      have lwp := word_short (List.mem_of_getElem? hwp)
      have eL : Mon.wordTab (m.take (i + 1)) = Mon.wordTab (m.take i) ++ [wp ++ [pr.2]] := by
        rw [take_snoc hpr, Mon.word_snoc, Mon.wordStep, Mon.getD_of hwp]
      rw [eL]
      generalize Mon.wordTab (m.take i) = L0 at hBn lL hwp lwp ⊢
      refine ⟨pa, _, rfl, Lf.SqT.same sn (sp i pa pr hpa hpr), rfl, _, _, rfl, _, _, rfl, rfl, ?_⟩
      refine ⟨_, rfl, .inl ⟨rfl, _, SqL.of hBn⟩, _, rfl, _, rfl, B, _, _, wv wp, rfl, rfl, SqL.of hBn, atI_nat (get_map hwp), _, rfl, ("abcdef" : Str), _, 97 + pr.2, rfl, rfl, by decide, letter_of b2, ws wp, ⟨#[97 + pr.2]⟩, rfl, rfl, (by rw [ws_len]; show wp.length + 1 ≤ 16777216; omega), B, _, _, rfl, rfl, hBn, by rw [List.length_map, lL]; show i + 1 < 16777216; omega, _, _, rfl, fun b o e => ?_, ?_, ?_⟩
      · rw [upd_ne (ne_of_none e nB0)]
        exact sn b o e
      · rw [upd_ne nSB]
        exact hSn
      · rw [upd_same, List.map_append, ws_app]
        rfl
    · subst eσ
      rw [List.length_map, lp, List.take_length] at hBn
      exact ⟨_, rfl, k B Hn sn nB0 hBn⟩
end
end K15

set_option Elab.async false
set_option linter.all false
set_option maxRecDepth 100000
set_option maxHeartbeats 8000000
namespace K15
open PySem PySem.Spec PyProof.Rows L2 Lf
def spWord : Sp := fun vs H Q _ => ∃ (x : List Nat) (wd n : Nat), vs = [.str (ws x), .int (wd : Nat), .int (n : Nat)] ∧ (∀ c ∈ x, c < wd) ∧ wd ≤ 6 ∧ x.length ≤ n ∧ n ≤ 1000 ∧ ∀ H', Same H H' → Q (.bl true) H'
abbrev teIn : TE := tOp (fun x y H Q => ∃ (c : Nat) (z : Str), x = .str ⟨#[c]⟩ ∧ y = .str z ∧ Q (.bl (decide (c ∈ z.cps.toList))) H) (tVar 4) (tVar 3)
theorem known_in {c wd : Nat} (h : c < wd) (w6 : wd ≤ 6) : 97 + c ∈ (cutS ("abcdef" : Str) none (some ((wd : Nat) : Int))).cps.toList := by
  have : wd = 1 ∨ wd = 2 ∨ wd = 3 ∨ wd = 4 ∨ wd = 5 ∨ wd = 6 := by omega
  have g : ∀ wd : Nat, wd ≤ 6 → ∀ c, c < wd → 97 + c ∈ (cutS ("abcdef" : Str) none (some ((wd : Nat) : Int))).cps.toList := by decide +kernel
  exact g wd w6 c h
section
variable {P : Program} {w : World} {K : PySem.W.Frag} {mg : Str → Option Value} {base : Heap}
theorem scWord : FnScope ["thing", "letters", "most", "known", "letter"] ["thing", "letters", "most"] (defScope s_is_word) := ⟨rfl, rfl, rfl, by decide +kernel, rfl, by decide +kernel, by decide +kernel⟩
theorem ok_word {f : Addr} {fd : FuncData} {q : Str} {dv : List V} (F : FunD K "is_word" q (defArgs s_is_word) (defBody s_is_word) (defScope s_is_word) dv [] f fd) {t : Tok} (gL : mg "LETTERS" = some (.str ("abcdef" : Str) t)) (zI : mg "isinstance" = none) (zs : mg "str" = none) (zn : mg "len" = none) (za : mg "all" = none) :
    FnOk P w K mg base CX0 1 f fd ["thing", "letters", "most"] spWord := by
  refine F.ok scWord (fun vs H Q E h => ?_) (fun cdv A outer s H vs Q E hr h => ?_)
  · obtain ⟨x, wd, n, rfl, _⟩ := h
    rfl
  · obtain ⟨x, wd, n, rfl, hx, w6, ln, n1000, k⟩ := h
    refine ⟨_, PSs.nox (pss_cons (ps_if (PW.pt (pw_or (pt_not (pt_val (pe_callB call_isi rfl zI PyProof.Rows.boot_isinstance (pa_cons (pv 0) (pa_cons (pe_bltn (v := .ty "str") rfl zs PyProof.Rows.boot_str rfl) pa_nil))))) (pw_or1 (PW.pt (pw_and (pt_cmpR op_notN (pv 2) pe_non (nomark _)) (pw_and1 (pt_cmpR op_gt (pe_callB call_len_str rfl zn boot_len (pa_cons (pv 0) pa_nil)) (pv 2) (nomark _)))))))) (pss_one (ps_ret pe_bl)) pss_nil)
      (pss_cons (ps_set (i := 3) scWord.nd rfl (.inr rfl) (pe_slice sl_str (pe_gstr rfl gL) po_none (po_some (pv 1))))
      (pss_one (ps_ret (pe_callB (cr_all rfl) rfl za (by decide +kernel) (pa_cons (pe_lc (own := [("letter", 4)]) (g := gName 4) (te := teIn) (by rfl) scWord.nd (pi_str (pv 0)) (blkOk_by (own := [("letter", 4)]) (N := ["thing", "letters", "most", "known", "letter"]) (sc := defScope s_is_word) (by decide +kernel)) (fun _ _ _ _ _ => pg_name (i := 4) scWord.nd rfl (Or.inl rfl)) (fun _ _ _ _ _ => pts_nil)
        (fun _ _ _ _ _ => by exact pe_cmpR op_in_sign (pv 4) (pv 3) (by rfl))) pa_nil)))))), ?_⟩
    refine ⟨_, rfl, .str (ws x), .ty "str", _, _, true, rfl, .ty _, .base (.str _), kit_ty (show kitB "str" "str" = some true by decide +kernel), _, rfl, ?_⟩
    refine ifF rfl ?_
    refine ⟨_, rfl, rfl, _, rfl, ?_⟩
    refine ifT rfl ⟨_, rfl, ws x, rfl, by rw [ws_len]; show x.length ≤ 16777216; omega, _, rfl, _, _, rfl, rfl, _, rfl, ?_⟩
    rw [ws_len, show decide (((n : Nat) : Int) < ((x.length : Nat) : Int)) = false from decide_eq_false (by omega)]
    refine ifF rfl ?_
    refine ⟨_, rfl, ((wd : Nat) : Int), rfl, ("abcdef" : Str), rfl, by decide, ?_⟩
    refine ⟨_, rfl, ws x, rfl, fun D nD => ?_⟩
    refine lc_it (walk_str (z := ws x)) (fun i Hd => But D H Hd ∧ Hd D = some (.lst ((List.replicate i true).map V.bl))) ⟨But.upd, upd_same⟩ (fun _ _ _ _ => True.intro) (fun i y Hd H' hi ⟨bd, hD⟩ ⟨e', c, hc, ey⟩ => ?_) (fun Hd ⟨bd, hD⟩ => ?_)
    · subst e' ey
      refine ⟨rfl, yesT ?_⟩
      obtain ⟨d, hd, rfl⟩ : ∃ d, x[i]? = some d ∧ c = 97 + d := by
        unfold ws at hc
        rw [List.getElem?_toArray] at hc
        obtain ⟨d, h1, h2⟩ := map_get hc
        exact ⟨d, h1, h2⟩
      refine ⟨_, rfl, _, rfl, 97 + d, _, rfl, rfl, ?_⟩
      rw [decide_eq_true (known_in (hx d (List.mem_of_getElem? hd)) w6)]
      refine ⟨_, hD, ?_, But.trans bd But.upd, ?_⟩
      · rw [List.length_map, List.length_replicate]
        have := get_lt hd
        show i < 16777216
        omega
      · rw [upd_same, List.replicate_succ', List.map_append]
        rfl
    · refine ⟨D, _, rfl, SqL.of hD, ?_⟩
      rw [all_true]
      exact k _ (Same.but (L2.Same.refl _) nD bd)
end
end K15

set_option Elab.async false
set_option linter.all false
set_option maxRecDepth 100000
set_option maxHeartbeats 8000000
namespace K15
open PySem PySem.Spec PyProof.Rows L2 Lf
def spCkW (K : PySem.W.Frag) : Sp := fun vs H Q _ => ∃ p rows m wd x n, vs = [.ref p, .str (ws x), .int (n : Nat)] ∧ Mo K H p rows m ∧ Form rows wd ∧ (∀ c ∈ x, c < wd) ∧ x.length ≤ n ∧ n ≤ 1000 ∧ ∀ H', Same H H' → Q .non H'
def spOfW (K : PySem.W.Frag) : Sp := fun vs H Q _ => ∃ p rows m wd x, vs = [.ref p, .str (ws x)] ∧ Mo K H p rows m ∧ Form rows wd ∧ (∀ c ∈ x, c < wd) ∧ x.length ≤ 100 ∧ ∀ H', Same H H' → Q (.int (Mon.walk rows 0 x : Nat)) H'
theorem letter_ix {c : Nat} (h : c < 6) : Builtin.Str.occurrences ("abcdef" : Str) ⟨#[97 + c]⟩ 0 ("abcdef" : Str).length 1 = [c] := by
  have : c = 0 ∨ c = 1 ∨ c = 2 ∨ c = 3 ∨ c = 4 ∨ c = 5 := by omega
  rcases this with rfl | rfl | rfl | rfl | rfl | rfl <;> decide +kernel
def rIdx : V → List V → Hp → VK → Prop := fun x xs H Q => ∃ a b i rest, x = .str a ∧ xs = [.str b] ∧ Builtin.Str.occurrences a b 0 a.length 1 = i :: rest ∧ Q (.int (i : Nat)) H
abbrev teIx (K : PySem.W.Frag) : TE := tBM K "str" rIdx (tC (.str ("abcdef" : Str))) (tCons (tVar 2) tNil)
section
variable {P : Program} {w : World} {K : PySem.W.Frag} {mg : Str → Option Value} {base : Heap}
theorem scCkW : FnScope ["self", "word", "most"] ["self", "word", "most"] (defScope s_Monoid_check_word) := ⟨rfl, rfl, rfl, by decide +kernel, rfl, by decide +kernel, by decide +kernel⟩
theorem ok_ckw {f : Addr} {fd : FuncData} {q : Str} (F : FunD K "_check_word" q (defArgs s_Monoid_check_word) (defBody s_Monoid_check_word) (defScope s_Monoid_check_word) [] [] f fd) (T : Txt P w K mg base)
    (DW : Def P w K mg base CX0 1 "is_word" ["thing", "letters", "most"] spWord) : FnOk P w K mg base CX0 2 f fd ["self", "word", "most"] (spCkW K) := by
  have cl : L2.Cls K (He.ga K "Monoid") := He.cls_ok (T.d.fact 46 (f := .cls "Monoid") rfl)
  have n1 : NoAttr K (He.ga K "Monoid") "right" := He.noat_ok (T.d.fact 58 (f := .noat "Monoid" "right") rfl)
  have zn : mg "len" = none := T.fr 39 "len" rfl
  refine F.ok scCkW (fun vs H Q E h => ?_) (fun cdv A outer s H vs Q E hr h => ?_)
  · obtain ⟨p, rows, m, wd, x, n, rfl, _⟩ := h
    rfl
  · obtain ⟨p, rows, m, wd, x, n, rfl, M, FO, hx, ln, n1000, k⟩ := h
    obtain ⟨dx, t, u, v, hp, R, _, _⟩ := id M.ex
    obtain ⟨as, sr, la, srow⟩ := R.ex
    obtain ⟨f1, f2, f3, f4, f5⟩ := FO
    obtain ⟨a0, ha0⟩ := lt_get (show 0 < as.length by omega)
    obtain ⟨row0, hrow0⟩ := lt_get (show 0 < rows.length by omega)
    have l0 := (f5 row0 (List.mem_of_getElem? hrow0)).1
    refine ⟨_, PSs.nox (pss_one (ps_if (pt_not (pt_val (pe_def DW hr pass0 rfl (pa_cons (pv 1) (pa_cons (pe_callB call_len_seq rfl zn boot_len (pa_cons (pe_ix ix_tup (pe_fld (pv 0) rfl) pe_int (fun _ _ => rfl)) pa_nil)) (pa_cons (pv 2) pa_nil)))))) (pss_one ps_never) pss_nil)), ?_⟩
    refine ⟨_, rfl, _, rfl, p, _, dx, _, _, rfl, hp, cl, n1, rfl, t, as.map V.ref, 0, .ref a0, rfl, rfl, sr, atI_nat (j := 0) (get_map ha0), a0, row0.map nv, rfl, .inr (srow 0 a0 row0 ha0 hrow0), _, rfl, x, wd, n, by rw [List.length_map, l0], hx, f4, ln, n1000, fun H1 s1 => ⟨_, rfl, ifF rfl (k H1 s1)⟩⟩
theorem scOfW : FnScope ["self", "word", "letter"] ["self", "word"] (defScope s_Monoid_of_word) := ⟨rfl, rfl, rfl, by decide +kernel, rfl, by decide +kernel, by decide +kernel⟩
theorem ok_ofw {f : Addr} {fd : FuncData} {q : Str} (F : FunD K "of_word" q (defArgs s_Monoid_of_word) (defBody s_Monoid_of_word) (defScope s_Monoid_of_word) [] [] f fd) (T : Txt P w K mg base)
    (DK : DefM P w K mg base CX0 2 "_check_word" ["self", "word", "most"] (spCkW K)) (DE : Def P w K mg base CX0 1 "_end" ["right", "start", "letters"] (spEnd K)) : FnOk P w K mg base CX0 3 f fd ["self", "word"] (spOfW K) := by
  have cl : L2.Cls K (He.ga K "Monoid") := He.cls_ok (T.d.fact 46 (f := .cls "Monoid") rfl)
  have n1 : NoAttr K (He.ga K "Monoid") "right" := He.noat_ok (T.d.fact 58 (f := .noat "Monoid" "right") rfl)
  obtain ⟨tL, gL⟩ := T.st 29 "LETTERS" "abcdef" rfl
  obtain ⟨tM, gM⟩ := T.it 28 "MOST_WORD" 100 rfl
  obtain ⟨fk, fdk, mk, Fk, bk⟩ := DK.ex
  refine F.ok scOfW (fun vs H Q E h => ?_) (fun cdv A outer s H vs Q E hr h => ?_)
  · obtain ⟨p, rows, m, wd, x, rfl, _⟩ := h
    rfl
  · obtain ⟨p, rows, m, wd, x, rfl, M, FO, hx, ln, k⟩ := h
    have r1 : Room 1 _ := hr.mono (by decide)
    have f4 := FO.2.2.2.1
    refine ⟨_, PSs.nox (pss_cons (ps_expr (pe_meth (pv 0) cl mk Fk hr bk .nil pass0 (pa_cons (pv 1) (pa_cons (pe_gint rfl gM) pa_nil))))
      (pss_one (ps_ret (pe_def DE r1 pass0 rfl (pa_cons (pe_fld (pv 0) rfl) (pa_cons pe_int (pa_cons (pe_lc (own := [("letter", 2)]) (g := gName 2) (te := teIx K) (by rfl) scOfW.nd (pi_str (pv 1)) (blkOk_by (own := [("letter", 2)]) (N := ["self", "word", "letter"]) (sc := defScope s_Monoid_of_word) (by decide +kernel)) (fun _ _ _ _ _ => pg_name (i := 2) scOfW.nd rfl (Or.inl rfl)) (fun _ _ _ _ _ => pts_nil)
        (fun _ _ _ _ _ => by exact pe_bm PySem.F.plainAttrs_str PySem.F.slot_str_index PySem.F.type_str_index mt_sindex (pe_gstr rfl gL) (pa_cons (pv 2) pa_nil))) pa_nil))))))), ?_⟩
    obtain ⟨dx, t, u, v, hp, R, _, _⟩ := id M.ex
    refine ⟨_, rfl, p, dx, _, rfl, hp, rfl, _, rfl, p, rows, m, wd, x, 100, rfl, M, FO, hx, ln, by decide, fun H1 s1 => ?_⟩
    refine ⟨_, rfl, p, _, dx, _, _, rfl, s1 _ _ hp, cl, n1, rfl, _, rfl, ws x, rfl, fun D nD => ?_⟩
    refine lc_it (walk_str (z := ws x)) (fun i Hd => But D H1 Hd ∧ Hd D = some (.lst ((x.take i).map nv))) ⟨But.upd, upd_same⟩ (fun _ _ _ _ => True.intro) (fun i y Hd H' hi ⟨bd, hD⟩ ⟨e', c, hc, ey⟩ => ?_) (fun Hd ⟨bd, hD⟩ => ?_)
    · subst e' ey
      refine ⟨rfl, yesT ?_⟩
      obtain ⟨d, hd, rfl⟩ : ∃ d, x[i]? = some d ∧ c = 97 + d := by
        unfold ws at hc
        rw [List.getElem?_toArray] at hc
        obtain ⟨d, h1, h2⟩ := map_get hc
        exact ⟨d, h1, h2⟩
      have dl := hx d (List.mem_of_getElem? hd)
      refine ⟨rfl, _, rfl, ("abcdef" : Str), ⟨#[97 + d]⟩, d, [], rfl, rfl, letter_ix (by omega), ?_⟩
      refine ⟨_, hD, ?_, But.trans bd But.upd, ?_⟩
      · rw [List.length_map, List.length_take]
        show min i x.length < 16777216
        omega
      · rw [upd_same, take_snoc hd, List.map_append]
        rfl
    · have sd := Same.but (L2.Same.refl _) nD bd
      have e : (ws x).cps.size = x.length := by simp [ws]
      rw [e, List.take_length] at hD
      exact ⟨t, D, rows, wd, 0, x, rfl, (R.same s1).same sd, FO, by have := FO.1; omega, SqL.of hD, hx, k _ (s1.trans sd)⟩
end
end K15

set_option Elab.async false
set_option linter.all false
set_option maxRecDepth 100000
set_option maxHeartbeats 8000000
namespace K15
open PySem PySem.Spec PyProof.Rows L2 Lf
def spTable (K : PySem.W.Frag) : Sp := fun vs H Q _ => ∃ r n gens, vs = [.ref r] ∧ Maps H r gens ∧ gens ≠ [] ∧ gens.length ≤ 6 ∧ 1 ≤ n ∧ n ≤ 4 ∧ (∀ g ∈ gens, Mon.Valid n g) ∧
  ∀ T pf pw pt pn as bs found rows m H', Same H H' → H T = none → H' T = some (.tup [.ref pf, .ref pw, .ref pt]) → Lay H' pf pw pt pn as bs found (Mon.wordTab m) rows → Mon.Tab n gens found rows → Mon.madeTab 0 rows [] = some m → m.length + 1 = rows.length → (H pf = none ∧ H pw = none ∧ H pt = none ∧ ∀ b ∈ bs, H b = none) → Q (.ref T) H'
abbrev teIm (K : PySem.W.Frag) : TE := tOp (rIxT K) (tVar 8) (tVar 10)
theorem rgV_nv {n : Nat} : rgV 0 (n : Nat) = (Mon.idm n).map nv := by
  unfold rgV Mon.idm
  simp
theorem letter_at {c cc : Nat} (h : c < 6) (e : ("abcdef" : Str).cps[c]? = some cc) : cc = 97 + c := by
  have : c = 0 ∨ c = 1 ∨ c = 2 ∨ c = 3 ∨ c = 4 ∨ c = 5 := by omega
  rcases this with rfl | rfl | rfl | rfl | rfl | rfl <;> exact (Option.some.inj ((show _ = some _ by decide +kernel).symm.trans e)).symm
section
variable {P : Program} {w : World} {K : PySem.W.Frag} {mg : Str → Option Value} {base : Heap}
theorem scTable : FnScope ["_law_rows", "_law_found", "_law_words", "_law_table_here", "_law_numbers", "_law_at", "_law_row", "_law_letter", "_law_other", "_law_product", "_law_image"] ["_law_rows"] (defScope s_L_table) := ⟨rfl, rfl, rfl, by decide +kernel, rfl, by decide +kernel, by decide +kernel⟩
theorem ok_table {f : Addr} {fd : FuncData} {q : Str} (F : FunD K "_law_table" q (defArgs s_L_table) (defBody s_L_table) (defScope s_L_table) [] [] f fd) (zr : mg "range" = none) (zt : mg "tuple" = none) (zn : mg "len" = none) (zz : mg "zip" = none) :
    FnOk P w K mg base CX0 1 f fd ["_law_rows"] (spTable K) := by
  refine F.ok scTable (fun vs H Q E h => ?_) (fun cdv A outer s H vs Q E hr h => ?_)
  · obtain ⟨r, n, gens, rfl, _⟩ := h
    rfl
  · obtain ⟨r, n, gens, rfl, M, ne, g6, n1, n4, gv, k⟩ := h
    have hu : (A.deeper (envOfC q (defScope s_L_table) s.heap.objs.size f cdv)).units + 1 < cLine := by have := hr.units; omega
    refine ⟨_, PSs.nox (pss_cons (ps_par3 (i := 1) (j := 2) (l := 3) rfl scTable.nd rfl rfl rfl (by decide) (by decide) (by decide) rfl rfl rfl
        (pa_cons (pe_lst (pa_cons (pe_tupRg rfl rfl zt (prg_1 rfl zr (pe_callB call_len_seq rfl zn boot_len (pa_cons (pe_ix ix_list (pv 0) pe_int (fun _ _ => rfl)) pa_nil)))) pa_nil)) (pa_cons (pe_lst (pa_cons pe_str pa_nil)) (pa_cons (pe_lst pa_nil) pa_nil))) (by rfl))
      (pss_cons (ps_set (i := 4) scTable.nd rfl (.inl rfl) (pe_dispT1 hu (pe_ix ix_list (pv 1) pe_int (fun _ _ => rfl)) pe_int))
      (pss_cons (ps_for PassesOwn.never rfl (pi_range1 rfl zr (pa_cons pe_int pa_nil)) (pg_name (i := 5) scTable.nd rfl (.inl rfl))
        (pss_cons (ps_if (pt_cmpR op_ge (pv 5) (pe_callB call_len_seq rfl zn boot_len (pa_cons (pv 1) pa_nil)) (nomark _)) (pss_one (ps_ret (pe_tup (pa_cons (pv 1) (pa_cons (pv 2) (pa_cons (pv 3) pa_nil)))))) pss_nil)
        (pss_cons (ps_set (i := 6) scTable.nd rfl (.inl rfl) (pe_lst pa_nil))
        (pss_cons (ps_for PassesOwn.never rfl (pi_zips rfl zz (pa_cons pe_str (pa_cons (pv 0) pa_nil))) (pg_tup rfl (pgs_cons (pg_name (i := 7) scTable.nd rfl (.inl rfl)) (pgs_cons (pg_name (i := 8) scTable.nd rfl (.inr rfl)) pgs_nil)))
          (pss_cons (ps_set (i := 9) scTable.nd rfl (.inl rfl) (pe_callTy call_tuple_of rfl zt PyProof.Rows.boot_tuple (pa_cons (pe_lc (own := [("_law_image", 10)]) (g := gName 10) (te := teIm K) (by rfl) scTable.nd (pi_tup (pe_ix ix_list (pv 1) (pv 5) (fun _ _ => rfl))) (blkOk_by (own := [("_law_image", 10)]) (N := ["_law_rows", "_law_found", "_law_words", "_law_table_here", "_law_numbers", "_law_at", "_law_row", "_law_letter", "_law_other", "_law_product", "_law_image"]) (sc := defScope s_L_table) (by decide +kernel)) (fun _ _ _ _ _ => pg_name (i := 10) scTable.nd rfl (Or.inl rfl)) (fun _ _ _ _ _ => pts_nil)
              (fun _ _ _ _ _ => by exact pe_ix ix_tup (pv 8) (pv 10) (fun _ _ => rfl))) pa_nil)))
          (pss_cons (ps_if (pt_cmp (pc_dnotin hu (pv 9) (pv 4)) (by rfl))
            (pss_cons (ps_dput hu (pv 4) (pv 9) (pe_callB call_len_seq rfl zn boot_len (pa_cons (pv 1) pa_nil)) rfl)
            (pss_cons (ps_expr (pe_bm PySem.F.plainAttrs_list PySem.F.slot_list_append PySem.F.type_list_append mt_append (pv 1) (pa_cons (pv 9) pa_nil)))
            (pss_one (ps_expr (pe_bm PySem.F.plainAttrs_list PySem.F.slot_list_append PySem.F.type_list_append mt_append (pv 2) (pa_cons (pe_op op_add_str (pe_ix ix_list (pv 2) (pv 5) (fun _ _ => rfl)) (pv 7)) pa_nil)))))) pss_nil)
          (pss_one (ps_expr (pe_bm PySem.F.plainAttrs_list PySem.F.slot_list_append PySem.F.type_list_append mt_append (pv 6) (pa_cons (pe_dget hu (pv 4) (pv 9) (fun _ _ => rfl)) pa_nil)))))))
        (pss_one (ps_expr (pe_bm PySem.F.plainAttrs_list PySem.F.slot_list_append PySem.F.type_list_append mt_append (pv 3) (pa_cons (pv 6) pa_nil))))))))
      (pss_one (ps_ret (pe_tup (pa_cons (pv 1) (pa_cons (pv 2) (pa_cons (pv 3) pa_nil))))))))), ?_⟩
    obtain ⟨gs, hr0, lg, eg⟩ := M.ex
    have n0 : 0 < gens.length := List.length_pos_iff.mpr ne
    obtain ⟨a0, ha0⟩ := lt_get (show 0 < gs.length by omega)
    obtain ⟨g0, hg0⟩ := lt_get n0
    have v0 := gv g0 (List.mem_of_getElem? hg0)
    refine ⟨_, rfl, r, gs.map V.ref, 0, .ref a0, rfl, rfl, SqL.of hr0, atI_nat (j := 0) (get_map ha0), a0, g0.map nv, rfl, .inr (SqT.of (eg 0 a0 g0 ha0 hg0)), (n : Nat), by rw [List.length_map, v0.1], ?_⟩
    refine ⟨⟨by decide, by decide, by omega, by omega, by omega⟩, fun i0 ni0 => ?_⟩
    rw [rgV_nv]
    have s1 := same_upd (o := .tup ((Mon.idm n).map nv)) ni0
    have h1 : upd H i0 (.tup ((Mon.idm n).map nv)) i0 = some (.tup ((Mon.idm n).map nv)) := upd_same
    generalize upd H i0 (.tup ((Mon.idm n).map nv)) = H1 at s1 h1 ⊢
    refine ⟨(by show 1 ≤ sizeLine; decide), fun pf nf => ⟨(by show 1 ≤ sizeLine; decide), fun pw nw => ⟨(by show 0 ≤ sizeLine; decide), fun pt nt => ⟨_, _, _, rfl, ?_⟩⟩⟩⟩
    have hpf0 : H pf = none := by
      cases e : H pf with
      | none => rfl
      | some o => rw [s1 _ _ e] at nf; cases nf
    have hf2 : upd H1 pf (.lst [.ref i0]) pf = some (.lst ([i0].map V.ref)) := upd_same
    have s2 := s1.trans (same_upd (o := .lst [.ref i0]) nf)
    have h2 := same_upd (o := .lst [.ref i0]) nf _ _ h1
    generalize upd H1 pf (.lst [.ref i0]) = H2 at s2 h2 hf2 nw nt ⊢
    have hpw0 : H pw = none := by
      cases e : H pw with
      | none => rfl
      | some o => rw [s2 _ _ e] at nw; cases nw
    have hw3 : upd H2 pw (.lst [.str ("" : Str)]) pw = some (.lst ([[]].map wv)) := upd_same
    have u3 := same_upd (o := .lst [.str ("" : Str)]) nw
    have s3 := s2.trans u3
    have h3 := u3 _ _ h2
    have hf3 := u3 _ _ hf2
    have d1 := ne_of_none hf2 nw
    generalize upd H2 pw (.lst [.str ("" : Str)]) = H3 at s3 h3 hf3 hw3 nt ⊢
    have hpt0 : H pt = none := by
      cases e : H pt with
      | none => rfl
      | some o => rw [s3 _ _ e] at nt; cases nt
    have ht4 : upd H3 pt (.lst []) pt = some (.lst (([] : List Addr).map V.ref)) := upd_same
    have u4 := same_upd (o := .lst []) nt
    have s4 := s3.trans u4
    have h4 := u4 _ _ h3
    have hf4 := u4 _ _ hf3
    have hw4 := u4 _ _ hw3
    have d2 := ne_of_none hf3 nt
    have d3 := ne_of_none hw3 nt
    generalize upd H3 pt (.lst []) = H4 at s4 h4 hf4 hw4 ht4 ⊢
    clear u3 u4 s1 s2 s3 h1 h2 h3 hf2 hf3 hw3 nf nw nt
    intro pn nn
    have u5 := same_upd (o := .dT []) nn
    have s5 := s4.trans u5
    have h5 := u5 _ _ h4
    have hf5 := u5 _ _ hf4
    have hw5 := u5 _ _ hw4
    have ht5 := u5 _ _ ht4
    have hn5 : upd H4 pn (.dT []) pn = some (.dT []) := upd_same
    have hn0 : H pn = none := by
      cases e : H pn with
      | none => rfl
      | some o => rw [s4 _ _ e] at nn; cases nn
    generalize upd H4 pn (.dT []) = H5 at s5 h5 hf5 hw5 ht5 hn5 ⊢
    refine ⟨_, rfl, pf, _, 0, .ref i0, rfl, rfl, SqL.of hf5, rfl, kt (Mon.idm n), i0, _, hn5, rfl, by rw [kt_map]; exact h5, rfl, ?_⟩
    have s6 : Same H (upd H5 pn (.dT [(kt (Mon.idm n), .int 0)])) := fun b o e => by
      rw [upd_ne (ne_of_none e hn0)]
      exact s5 b o e
    have L0 : Lay (upd H5 pn (.dT [(kt (Mon.idm n), .int 0)])) pf pw pt pn [i0] [] [Mon.idm n] (Mon.wordTab []) [] := by
      have e1 : pn ≠ pf := fun z => by rw [z, hf5] at hn5; cases hn5
      have e2 : pn ≠ pw := fun z => by rw [z, hw5] at hn5; cases hn5
      have e3 : pn ≠ pt := fun z => by rw [z, ht5] at hn5; cases hn5
      refine ⟨by rw [upd_ne e1.symm]; exact hf5, rfl, fun j a x g1 g2 => ?_, by rw [upd_ne e2.symm]; exact hw5, by rw [upd_ne e3.symm]; exact ht5, rfl, fun j b r g1 g2 => (by simp at g1), fun b hb => (by cases hb), upd_same, d1, d2, d3⟩
      cases j with
      | zero =>
        cases g1
        cases g2
        rw [upd_ne (fun z => by rw [z, hn5] at h5; cases h5)]
        exact h5
      | succ j => simp at g1
    generalize upd H5 pn (.dT [(kt (Mon.idm n), .int 0)]) = H6 at s6 L0 ⊢
    clear s5 h5 hf5 hw5 ht5 hn5 hf4 hw4 ht4 h4 u5 s4 nn
    have hp0 : ∀ {b : Addr} {o : HO}, H b = some o → b ≠ pn := fun e => ne_of_none e hn0
    refine ⟨3000, rfl, by decide, by decide, for_range (lo := 0) (n := 3000) (fun i σ Hn => ∃ v5 v6 v7 v8 v9 : Option V, σ = [some (.ref r), some (.ref pf), some (.ref pw), some (.ref pt), some (.ref pn), v5, v6, v7, v8, v9, none] ∧ Same H Hn ∧ ∃ as bs found rows m, Lay Hn pf pw pt pn as bs found (Mon.wordTab m) rows ∧ Mon.Bfs n gens i 0 found rows [] m ∧ ∀ b ∈ bs, H b = none)
      ⟨none, none, none, none, none, rfl, s6, [i0], [], [Mon.idm n], [], [], L0, Mon.Bfs.start gv, fun b hb => (by cases hb)⟩ (fun i σ Hn hi ⟨v5, v6, v7, v8, v9, eσ, sn, as, bs, found, rows, m, L, B, fr⟩ => ?_) (fun σ Hn ⟨v5, v6, v7, v8, v9, eσ, sn, as, bs, found, rows, m, L, B, fr⟩ => ?_)⟩
    · subst eσ
      have ei : (0 : Int) + (i : Nat) = (i : Nat) := by omega
      rw [ei]
      have f1 := B.few
      have f2 : n ^ n ≤ 256 := by
        have : n = 1 ∨ n = 2 ∨ n = 3 ∨ n = 4 := by omega
        rcases this with rfl | rfl | rfl | rfl <;> decide
      refine ⟨_, rfl, _, rfl, pf, as.map V.ref, rfl, .inl (SqL.of L.f), _, _, rfl, rfl, _, rfl, ?_⟩
      rw [List.length_map, L.fl]
      refine ite2 (fun h0 => ?_) (fun h0 => ?_)
      · have le := of_decide_eq_true h0
        refine ⟨_, rfl, _, rfl, _, rfl, (by show 3 ≤ sizeLine; decide), fun T nT => ?_⟩
        obtain ⟨Tb, hm, lm⟩ := B.tab (by omega)
        have u := same_upd (o := .tup [.ref pf, .ref pw, .ref pt]) nT
        have nT0 : H T = none := by
          cases e : H T with
          | none => rfl
          | some o => rw [sn _ _ e] at nT; cases nT
        exact k T pf pw pt pn as bs found rows m _ (sn.trans u) nT0 upd_same (L.same u) Tb hm lm ⟨hpf0, hpw0, hpt0, fr⟩
      · have il : i < found.length := by
          by_cases z : i < found.length
          · exact z
          · exact (h0 (decide_eq_true (by omega))).elim
        refine ⟨(by show 0 ≤ sizeLine; decide), fun pr nr => ?_⟩
        have np : pr ≠ pf ∧ pr ≠ pw ∧ pr ≠ pt := ⟨(ne_of_none L.f nr).symm, (ne_of_none L.w nr).symm, (ne_of_none L.t nr).symm⟩
        have nb : pr ∉ bs := fun hb => by
          obtain ⟨j, hj⟩ := List.getElem?_of_mem hb
          obtain ⟨r', hr'⟩ := lt_get (show j < rows.length by rw [← L.tl]; exact get_lt hj)
          have := L.te j pr r' hj hr'
          rw [nr] at this
          cases this
        have u := same_upd (o := .lst []) nr
        have L1 := L.same u
        have s7 := sn.trans u
        have hr7 : upd Hn pr (.lst []) pr = some (.lst (([] : List Nat).map nv)) := upd_same
        have nr0 : H pr = none := by
          cases e : H pr with
          | none => rfl
          | some o => rw [sn _ _ e] at nr; cases nr
        have nf0 : H pf = none ∧ H pw = none ∧ H pt = none := ⟨hpf0, hpw0, hpt0⟩
        generalize upd Hn pr (.lst []) = H7 at L1 s7 hr7 ⊢
        clear L nr u sn
        have wk : Walk (Itzs K ("abcdef" : Str) r) (gs.map V.ref).length (fun H2 => Same H H2) (fun i H v H' => ∃ (T : Addr) (c : Nat) (y : V), v = .ref T ∧ H T = none ∧ H' = L2.upd H T (.tup [.str ⟨#[c]⟩, y]) ∧ ("abcdef" : Str).cps[i]? = some c ∧ (gs.map V.ref)[i]? = some y) :=
          (walk_zips (x := ("abcdef" : Str)) (ys := gs.map V.ref) (by rw [List.length_map, lg]; exact g6)).mono (fun H s => L2.Same.seq s (SqL.of hr0)) (fun i H x H' _ _ y => y)
        refine ⟨_, rfl, _, r, gs.map V.ref, rfl, SqL.of (s7 _ _ hr0), for_it wk (fun c σ Hc => ∃ v7 v8 v9 : Option V, σ = [some (.ref r), some (.ref pf), some (.ref pw), some (.ref pt), some (.ref pn), some (.int (i : Nat)), some (.ref pr), v7, v8, v9, none] ∧ Same H Hc ∧ ∃ as found m row, Lay Hc pf pw pt pn as bs found (Mon.wordTab m) rows ∧ Mon.Bfs n gens i c found rows row m ∧ Hc pr = some (.lst (row.map nv)) ∧ i < found.length)
          ⟨_, _, _, rfl, s7, as, found, m, [], L1, B, hr7, il⟩ (fun c σ Hc _ ⟨_, _, _, _, z, _⟩ => z) (fun c y σ Hc H8 hc ⟨v7, v8, v9, eσ, sc, as, found, m, row, L, B, hR, il⟩ ⟨T, cc, z, ey, nT, e8, hcc, hz⟩ => ?_) (fun σ Hc ⟨v7, v8, v9, eσ, sc, as, found, m, row, L, B, hR, il⟩ => ?_)⟩
        · subst eσ ey e8
          obtain ⟨bg, hbg, rfl⟩ := map_get hz
          obtain ⟨g, hg⟩ := lt_get (show c < gens.length by rw [← lg]; exact get_lt hbg)
          obtain ⟨x, hx⟩ := lt_get il
          obtain ⟨a, ha⟩ := lt_get (show i < as.length by rw [L.fl]; exact il)
          have vx := B.val x (List.mem_of_getElem? hx)
          have vg := gv g (List.mem_of_getElem? hg)
          have cc6 : cc = 97 + c := letter_at (Nat.lt_of_lt_of_le (get_lt hg) g6) hcc
          refine ⟨T, _, rfl, SqT.of upd_same, rfl, _, _, rfl, _, _, rfl, rfl, ?_⟩
          have u8 := same_upd (o := .tup [.str ⟨#[cc]⟩, .ref bg]) nT
          have s8 := sc.trans u8
          have L8 := L.same u8
          have hR8 := u8 _ _ hR
          generalize L2.upd Hc T (.tup [.str ⟨#[cc]⟩, .ref bg]) = H8 at s8 L8 hR8 ⊢
          clear u8 nT L hR sc
          have hg8 : H8 bg = some (.tup (g.map nv)) := s8 _ _ (eg c bg g hbg hg)
          have ha8 := L8.fe i a x ha hx
          refine ⟨_, rfl, _, rfl, pf, as.map V.ref, _, .ref a, rfl, rfl, SqL.of L8.f, atI_nat (get_map ha), a, rfl, ⟨_, SqT.of ha8⟩, fun D nD => ?_⟩
          refine lc_tup (K := K) (a := a) (xs := x.map nv) (fun j Hd => But D H8 Hd ∧ Hd D = some (.lst (((x.take j).map fun i => g.getD i 0).map nv))) ⟨But.upd, upd_same⟩ (fun j Hd _ ⟨bd, _⟩ => Lf.SqT.same (Same.but (L2.Same.refl _) nD bd) (SqT.of ha8)) (fun j z Hd hz ⟨bd, hD⟩ => ?_) (fun Hd ⟨bd, hD⟩ => ?_)
          · obtain ⟨xi, hxi, rfl⟩ := map_get hz
            refine ⟨rfl, yesT ?_⟩
            have sd := Same.but (L2.Same.refl _) nD bd
            obtain ⟨e, he⟩ := lt_get (show xi < g.length by rw [vg.1]; exact vx.2 xi (List.mem_of_getElem? hxi))
            refine ⟨_, rfl, _, rfl, bg, g.map nv, _, nv e, rfl, rfl, SqT.of (sd _ _ hg8), atI_nat (get_map he), ?_⟩
            refine ⟨_, hD, ?_, But.trans bd But.upd, ?_⟩
            · rw [List.length_map, List.length_map, List.length_take]
              have := vx.1
              show min j x.length < 16777216
              omega
            · rw [upd_same, take_snoc hxi, List.map_append, List.map_append, List.map_cons, List.map_nil, List.map_cons, List.map_nil, Mon.getD_of he]
          · rw [List.length_map, List.take_length] at hD
            have sd := Same.but (L2.Same.refl _) nD bd
            refine ⟨D, _, rfl, .inl ⟨SqL.of hD, fun N nN => ?_⟩⟩
            have u9 := sd.trans (same_upd (o := .tup ((x.map fun i => g.getD i 0).map nv)) nN)
            have hN : L2.upd Hd N (.tup ((x.map fun i => g.getD i 0).map nv)) N = some (.tup ((kt (Mon.comp x g)).map kV)) := by rw [kt_map]; exact upd_same
            generalize L2.upd Hd N (.tup ((x.map fun i => g.getD i 0).map nv)) = H9 at u9 hN ⊢
            have s9 := s8.trans u9
            have L9 := L8.same u9
            have hR9 := u9 _ _ hR8
            have hNn : H9 N = some (.tup ((Mon.comp x g).map nv)) := by rw [hN, kt_map]
            clear hD bd sd nN u9 s8 L8 hR8 hg8 ha8
            have f1 := B.few
            have f2 : n ^ n ≤ 256 := by
              have : n = 1 ∨ n = 2 ∨ n = 3 ∨ n = 4 := by omega
              rcases this with rfl | rfl | rfl | rfl <;> decide
            have rl : (row.map nv).length < 16777216 := by rw [List.length_map, B.rlen]; have := get_lt hg; omega
            refine ⟨_, rfl, _, rfl, pn, _, rfl, DGet.t L9.d hN, _, rfl, ?_⟩
            by_cases hm : Mon.comp x g ∈ found
            · obtain ⟨t, ht⟩ := List.getElem?_of_mem hm
              have hv : valV (dtab found) (kt (Mon.comp x g)) = some (nv t) := by
                have := dtabF_some (k := 0) B.nd ht
                rwa [Nat.zero_add] at this
              rw [hv]
              refine ifF rfl ?_
              refine ⟨_, rfl, .inl ⟨rfl, _, SqL.of hR9⟩, _, rfl, _, rfl, pn, nv t, rfl, hv ▸ DGet.t L9.d hN, pr, row.map nv, _, rfl, rfl, hR9, rl, _, _, _, rfl, fun b o e => ?_, as, found, m, row ++ [t], L9.off hR9 np nb, B.old hx hg ht, ?_, il⟩
              · rw [upd_ne (ne_of_none e nr0)]
                exact s9 b o e
              · rw [upd_same, List.map_append]
                rfl
            · have hv : valV (dtab found) (kt (Mon.comp x g)) = none := dtabF_none hm
              rw [hv]
              refine ifT rfl ?_
              obtain ⟨wd, hwd⟩ := lt_get (show i < (Mon.wordTab m).length by rw [Mon.word_len, B.mlen]; exact il)
              have lwd := word_short (List.mem_of_getElem? hwd)
              have ml := B.mlen
              obtain ⟨e1, e2, e3⟩ := L9.gn
              have epr : pr ≠ pn := fun z => by
                have := L9.d
                rw [← z, hR9] at this
                cases this
              refine ⟨_, rfl, pf, as.map V.ref, rfl, .inl (SqL.of L9.f), _, rfl, _, rfl, pn, _, rfl, DPut.t L9.d hN (by rw [dtabF_len]; show found.length < 16777216; omega), ?_⟩
              rw [List.length_map, L9.fl, dtab_put hm]
              have hf10 : L2.upd H9 pn (.dT (dtab (found ++ [Mon.comp x g]))) pf = some (.lst (as.map V.ref)) := by rw [upd_ne e1.symm]; exact L9.f
              have hw11 : L2.upd (L2.upd H9 pn (.dT (dtab (found ++ [Mon.comp x g])))) pf (.lst (as.map V.ref ++ [.ref N])) pw = some (.lst ((Mon.wordTab m).map wv)) := by rw [upd_ne L9.n1.symm, upd_ne e2.symm]; exact L9.w
              refine ⟨_, rfl, .inl ⟨rfl, _, SqL.of hf10⟩, _, rfl, pf, as.map V.ref, _, rfl, rfl, hf10, (by rw [List.length_map, L9.fl]; show found.length < 16777216; omega), ?_⟩
              refine ⟨_, rfl, .inl ⟨rfl, _, SqL.of hw11⟩, _, rfl, _, rfl, pw, _, _, wv wd, rfl, rfl, SqL.of hw11, atI_nat (get_map hwd), _, rfl, ws wd, ⟨#[cc]⟩, rfl, rfl, (by rw [ws_len]; show wd.length + 1 ≤ 16777216; omega), pw, (Mon.wordTab m).map wv, _, rfl, rfl, hw11, (by rw [List.length_map, Mon.word_len]; show m.length + 1 < 16777216; omega), ?_⟩
              have B2 := B.new hx hg hm
              have L12 : Lay (L2.upd (L2.upd (L2.upd H9 pn (.dT (dtab (found ++ [Mon.comp x g])))) pf (.lst (as.map V.ref ++ [.ref N]))) pw (.lst ((Mon.wordTab m).map wv ++ [.str (ws wd ++ (⟨#[cc]⟩ : Str))]))) pf pw pt pn (as ++ [N]) bs (found ++ [Mon.comp x g]) (Mon.wordTab (m ++ [(i, c)])) rows := by
                have q := L9.add (wd := wd ++ [c]) hNn
                rw [Mon.word_snoc, Mon.wordStep, Mon.getD_of hwd, cc6, ws_app]
                simp only [List.map_append, List.map_cons, List.map_nil] at q
                exact q
              have hR12 : L2.upd (L2.upd (L2.upd H9 pn (.dT (dtab (found ++ [Mon.comp x g])))) pf (.lst (as.map V.ref ++ [.ref N]))) pw (.lst ((Mon.wordTab m).map wv ++ [.str (ws wd ++ (⟨#[cc]⟩ : Str))])) pr = some (.lst (row.map nv)) := by
                rw [upd_ne np.2.1, upd_ne np.1, upd_ne epr]
                exact hR9
              have hN12 : L2.upd (L2.upd (L2.upd H9 pn (.dT (dtab (found ++ [Mon.comp x g])))) pf (.lst (as.map V.ref ++ [.ref N]))) pw (.lst ((Mon.wordTab m).map wv ++ [.str (ws wd ++ (⟨#[cc]⟩ : Str))])) N = some (.tup ((kt (Mon.comp x g)).map kV)) := by
                rw [upd_ne (fun z => by rw [z, L9.w] at hN; cases hN), upd_ne (fun z => by rw [z, L9.f] at hN; cases hN), upd_ne (fun z => by rw [z, L9.d] at hN; cases hN)]
                exact hN
              have s12 : Same H (L2.upd (L2.upd (L2.upd H9 pn (.dT (dtab (found ++ [Mon.comp x g])))) pf (.lst (as.map V.ref ++ [.ref N]))) pw (.lst ((Mon.wordTab m).map wv ++ [.str (ws wd ++ (⟨#[cc]⟩ : Str))]))) := fun b o e => by
                rw [upd_ne (ne_of_none e hpw0), upd_ne (ne_of_none e hpf0), upd_ne (ne_of_none e hn0)]
                exact s9 b o e
              generalize L2.upd (L2.upd (L2.upd H9 pn (.dT (dtab (found ++ [Mon.comp x g])))) pf (.lst (as.map V.ref ++ [.ref N]))) pw (.lst ((Mon.wordTab m).map wv ++ [.str (ws wd ++ (⟨#[cc]⟩ : Str))])) = H12 at L12 hR12 hN12 s12 ⊢
              have hv2 : valV (dtab (found ++ [Mon.comp x g])) (kt (Mon.comp x g)) = some (nv found.length) := by
                have := dtabF_some (k := 0) (i := found.length) B2.nd (by rw [List.getElem?_append_right (Nat.le_refl _), Nat.sub_self]; rfl)
                rwa [Nat.zero_add] at this
              refine ⟨_, rfl, .inl ⟨rfl, _, SqL.of hR12⟩, _, rfl, _, rfl, pn, nv found.length, rfl, hv2 ▸ DGet.t L12.d hN12, pr, row.map nv, _, rfl, rfl, hR12, rl, _, _, _, rfl, fun b o e => ?_, as ++ [N], _, _, row ++ [found.length], L12.off hR12 np nb, B2, ?_, by rw [List.length_append]; omega⟩
              · rw [upd_ne (ne_of_none e nr0)]
                exact s12 b o e
              · rw [upd_same, List.map_append]
                rfl
        · subst eσ
          have gl : (gs.map V.ref).length = gens.length := by rw [List.length_map, lg]
          rw [gl] at B
          obtain ⟨x, hx⟩ := lt_get il
          refine ⟨_, rfl, .inl ⟨rfl, _, SqL.of L.t⟩, _, rfl, pt, bs.map V.ref, _, rfl, rfl, L.t, by rw [List.length_map, L.tl, B.len]; show i < 16777216; omega, _, _, _, _, _, rfl, fun b o e => ?_, as, bs ++ [pr], found, rows ++ [row], m, ?_, B.next rfl (by omega) hx, fun b hb => ?_⟩
          · rw [upd_ne (ne_of_none e nf0.2.2)]
            exact sc b o e
          · have := L.row hR np
            rw [List.map_append] at this
            exact this
          · rcases List.mem_append.mp hb with z | z
            · exact fr b z
            · rw [List.mem_singleton.mp z]
              exact nr0
    · exfalso
      have f1 := B.few
      have f2 : n ^ n ≤ 256 := by
        have : n = 1 ∨ n = 2 ∨ n = 3 ∨ n = 4 := by omega
        rcases this with rfl | rfl | rfl | rfl <;> decide
      have := B.le
      omega
end
end K15

set_option Elab.async false
set_option linter.all false
set_option maxRecDepth 100000
set_option maxHeartbeats 2000000
/-! Powers of a map, products of elements by their words: pure. -/
namespace Mon
theorem lt_get' {α : Type} {l : List α} {i : Nat} (h : i < l.length) : ∃ a, l[i]? = some a := ⟨_, List.getElem?_eq_getElem h⟩
theorem get_lt' {α : Type} {l : List α} {i : Nat} {a : α} (h : l[i]? = some a) : i < l.length := (List.getElem?_eq_some_iff.mp h).1
def pw (n : Nat) (f : List Nat) : Nat → List Nat
  | 0 => idm n
  | k + 1 => comp (pw n f k) f
theorem pw_valid {n : Nat} {f : List Nat} (hf : Valid n f) : ∀ k, Valid n (pw n f k)
  | 0 => idm_valid
  | k + 1 => comp_valid (pw_valid hf k) hf
theorem pw_comm {n : Nat} {f : List Nat} (hf : Valid n f) : ∀ k, comp f (pw n f k) = pw n f (k + 1)
  | 0 => by
    show comp f (idm n) = comp (idm n) f
    rw [comp_id hf, id_comp hf]
  | k + 1 => by
    show comp f (comp (pw n f k) f) = comp (pw n f (k + 1)) f
    rw [← comp_assoc hf (pw_valid hf k), pw_comm hf k]
/-- the powers 0 to L - 1 are unlike, power L is power i -/
structure Cyc (n : Nat) (f : List Nat) (L i : Nat) : Prop where
  inj : ∀ a b, a < b → b < L → pw n f a ≠ pw n f b
  lt : i < L
  again : pw n f L = pw n f i
theorem Cyc.uniq {n : Nat} {f : List Nat} {L i L' i' : Nat} (A : Cyc n f L i) (B : Cyc n f L' i') : L = L' ∧ i = i' := by
  have e : L = L' := by
    rcases Nat.lt_trichotomy L L' with h | h | h
    · exact absurd A.again.symm (B.inj i L A.lt h)
    · exact h
    · exact absurd B.again.symm (A.inj i' L' B.lt h)
  subst e
  refine ⟨rfl, ?_⟩
  rcases Nat.lt_trichotomy i i' with h | h | h
  · exact absurd (A.again.symm.trans B.again) (A.inj i i' h B.lt)
  · exact h
  · exact absurd (B.again.symm.trans A.again) (A.inj i' i h A.lt)
theorem p1 : ∀ a < 1, pw 1 [a] 15 = pw 1 [a] 3 := by decide +kernel
theorem p2 : ∀ a < 2, ∀ b < 2, pw 2 [a, b] 15 = pw 2 [a, b] 3 := by decide +kernel
theorem p3 : ∀ a < 3, ∀ b < 3, ∀ c < 3, pw 3 [a, b, c] 15 = pw 3 [a, b, c] 3 := by decide +kernel
theorem p4 : ∀ a < 4, ∀ b < 4, ∀ c < 4, ∀ d < 4, pw 4 [a, b, c, d] 15 = pw 4 [a, b, c, d] 3 := by decide +kernel
theorem pw_small {n : Nat} {f : List Nat} (hf : Valid n f) (n1 : 1 ≤ n) (n4 : n ≤ 4) : pw n f 15 = pw n f 3 := by
  obtain ⟨l, h⟩ := hf
  have : n = 1 ∨ n = 2 ∨ n = 3 ∨ n = 4 := by omega
  rcases this with rfl | rfl | rfl | rfl
  · match f, l with
    | [a], _ => exact p1 a (h a (by simp))
  · match f, l with
    | [a, b], _ => exact p2 a (h a (by simp)) b (h b (by simp))
  · match f, l with
    | [a, b, c], _ => exact p3 a (h a (by simp)) b (h b (by simp)) c (h c (by simp))
  · match f, l with
    | [a, b, c, d], _ => exact p4 a (h a (by simp)) b (h b (by simp)) c (h c (by simp)) d (h d (by simp))
theorem inj_le {n : Nat} {f : List Nat} (hf : Valid n f) (n1 : 1 ≤ n) (n4 : n ≤ 4) {L : Nat} (inj : ∀ a b, a < b → b < L → pw n f a ≠ pw n f b) : L ≤ 15 := by
  by_cases h : L ≤ 15
  · exact h
  · exact absurd (pw_small hf n1 n4).symm (inj 3 15 (by decide) (by omega))
theorem walk_word {rows : List (List Nat)} {m : List (Nat × Nat)} (hm : madeTab 0 rows [] = some m) : ∀ (k j : Nat), j ≤ k → j < m.length + 1 → walk rows 0 ((wordTab m).getD j []) = j
  | k, 0, _, _ => by rw [word_0]; rfl
  | 0, j + 1, h, _ => by omega
  | k + 1, j + 1, h, hj => by
    obtain ⟨p, hp⟩ := lt_get' (show j < m.length by omega)
    have hlt : ∀ (k : Nat) p, m[k]? = some p → p.1 < k + 1 := fun k p h => (madeTab_lt hm h).1
    obtain ⟨a, row, b, c⟩ := madeTab_lt hm hp
    rw [word_at hlt hp, walk_app, walk_word hm k p.1 (by omega) (by omega)]
    show (rows.getD p.1 []).getD p.2 0 = j + 1
    rw [getD_of b, getD_of c]
theorem compW_comp {n : Nat} {gens : List (List Nat)} (gv : ∀ g ∈ gens, Valid n g) {x : List Nat} (hx : Valid n x) : ∀ {w : List Nat} {y : List Nat}, Valid n y → (∀ c ∈ w, c < gens.length) → compW gens (comp x y) w = comp x (compW gens y w)
  | [], y, _, _ => rfl
  | c :: w, y, hy, hw => by
    obtain ⟨g, hg⟩ := lt_get' (hw c List.mem_cons_self)
    show compW gens (comp (comp x y) (gens.getD c [])) w = comp x (compW gens (comp y (gens.getD c [])) w)
    rw [getD_of hg, comp_assoc hx hy]
    exact compW_comp gv hx (comp_valid hy (gv g (List.mem_of_getElem? hg))) fun d hd => hw d (List.mem_cons_of_mem _ hd)
section
variable {n : Nat} {gens found rows : List (List Nat)} {m : List (Nat × Nat)}
theorem Tab.vg (T : Tab n gens found rows) : ∀ g ∈ gens, Valid n g := T.gval
theorem Tab.vf (T : Tab n gens found rows) {i : Nat} {x : List Nat} (h : found[i]? = some x) : Valid n x := T.val x (List.mem_of_getElem? h)
/-- products by words are products of maps -/
theorem Tab.prodW (T : Tab n gens found rows) (hm : madeTab 0 rows [] = some m) (lm : m.length + 1 = rows.length) {i j : Nat} {x y : List Nat} (hx : found[i]? = some x) (hy : found[j]? = some y) (wl : ∀ c ∈ (wordTab m).getD j [], c < gens.length) :
    found[Mon.walk rows i ((wordTab m).getD j [])]? = some (comp x y) := by
  have hj : j < m.length + 1 := by rw [lm, T.len]; exact get_lt' hy
  have e0 := T.walk (s := 0) T.head wl
  rw [walk_word hm j j (Nat.le_refl _) hj, hy] at e0
  have e1 := T.walk hx wl
  have e2 := compW_comp T.vg (T.vf hx) (w := (wordTab m).getD j []) (y := idm n) idm_valid wl
  rw [comp_id (T.vf hx)] at e2
  rw [e1, e2, ← Option.some.inj e0]
end
/-- numbers of powers -/
structure Pows (n : Nat) (found : List (List Nat)) (f : List Nat) (pl : List Nat) (i : Nat) : Prop where
  cyc : Cyc n f pl.length i
  at' : ∀ k r, pl[k]? = some r → found[r]? = some (pw n f k)
end Mon
namespace Mon
section
variable {n : Nat} {gens found rows : List (List Nat)} {f : List Nat}
/-- what the search for powers has found: numbers of the powers, all unlike -/
structure PI (n : Nat) (found : List (List Nat)) (f : List Nat) (pl : List Nat) : Prop where
  at' : ∀ (k r : Nat), pl[k]? = some r → found[r]? = some (pw n f k)
  inj : ∀ a b, a < b → b < pl.length → pw n f a ≠ pw n f b
theorem PI.nd (h : PI n found f pl) : pl.Nodup := by
  rw [List.Nodup, List.pairwise_iff_getElem]
  intro i j hi hj ij e
  have a := h.at' i pl[i] (List.getElem?_eq_getElem hi)
  have b := h.at' j pl[j] (List.getElem?_eq_getElem hj)
  rw [e] at a
  exact h.inj i j ij hj (Option.some.inj (a.symm.trans b))
theorem PI.more (h : PI n found f pl) (nd : found.Nodup) {r : Nat} (hr : found[r]? = some (pw n f pl.length)) (nr : r ∉ pl) : PI n found f (pl ++ [r]) where
  at' := fun k t ht => by
    by_cases hk : k < pl.length
    · rw [List.getElem?_append_left hk] at ht
      exact h.at' k t ht
    · have l := get_lt' ht
      rw [List.length_append, List.length_singleton] at l
      have e : k = pl.length := by omega
      subst e
      rw [List.getElem?_append_right (Nat.le_refl _), Nat.sub_self] at ht
      cases ht
      exact hr
  inj := fun a b ab hb e => by
    rw [List.length_append, List.length_singleton] at hb
    by_cases hk : b < pl.length
    · exact h.inj a b ab hk e
    · have eb : b = pl.length := by omega
      subst eb
      obtain ⟨t, ht⟩ := lt_get' (l := pl) (i := a) ab
      have := h.at' a t ht
      rw [e] at this
      have : t = r := nodup_at nd this hr
      exact nr (this ▸ List.mem_of_getElem? ht)
theorem PI.done (h : PI n found f pl) {r i : Nat} (hr : found[r]? = some (pw n f pl.length)) (hi : pl[i]? = some r) : Pows n found f pl i :=
  ⟨⟨h.inj, get_lt' hi, Option.some.inj (hr.symm.trans (h.at' i r hi))⟩, h.at'⟩
theorem PI.zero (T : Tab n gens found rows) : PI n found f [0] where
  at' := fun k r h => by
    have l := get_lt' h
    have e : k = 0 := by simpa using l
    subst e
    cases h
    exact T.head
  inj := fun a b ab hb => by
    have : b < 1 := hb
    omega
end
end Mon

set_option Elab.async false
set_option linter.all false
set_option maxRecDepth 100000
set_option maxHeartbeats 2000000
/-! Least words that lead somewhere, found level by level: pure, for letters put behind or in front. -/
namespace Mon
/-- texts of one length, in their order -/
def llt : List Nat → List Nat → Prop
  | a :: x, b :: y => a < b ∨ a = b ∧ llt x y
  | _, _ => False
theorem llt_irr : ∀ {x : List Nat}, ¬ llt x x
  | [], h => h
  | a :: x, h => by
    rcases h with h | ⟨_, h⟩
    · omega
    · exact llt_irr h
theorem llt_trans : ∀ {x y z : List Nat}, llt x y → llt y z → llt x z
  | [], _, _, h, _ => h.elim
  | _ :: _, [], _, h, _ => h.elim
  | _ :: _, _ :: _, [], _, h => h.elim
  | a :: x, b :: y, c :: z, h, k => by
    rcases h with h | ⟨rfl, h⟩
    · rcases k with k | ⟨rfl, k⟩
      · exact .inl (by omega)
      · exact .inl h
    · rcases k with k | ⟨rfl, k⟩
      · exact .inl k
      · exact .inr ⟨rfl, llt_trans h k⟩
theorem llt_tot : ∀ {x y : List Nat}, x.length = y.length → llt x y ∨ x = y ∨ llt y x
  | [], [], _ => .inr (.inl rfl)
  | [], _ :: _, h => by simp at h
  | _ :: _, [], h => by simp at h
  | a :: x, b :: y, h => by
    rcases Nat.lt_trichotomy a b with q | rfl | q
    · exact .inl (.inl q)
    · rcases llt_tot (x := x) (y := y) (by simpa using h) with r | rfl | r
      · exact .inl (.inr ⟨rfl, r⟩)
      · exact .inr (.inl rfl)
      · exact .inr (.inr (.inr ⟨rfl, r⟩))
    · exact .inr (.inr (.inl q))
theorem llt_app : ∀ {x y : List Nat} {u v : List Nat}, llt x y → llt (x ++ u) (y ++ v)
  | [], _, _, _, h => h.elim
  | _ :: _, [], _, _, h => h.elim
  | a :: x, b :: y, u, v, h => by
    rcases h with h | ⟨rfl, h⟩
    · exact .inl h
    · exact .inr ⟨rfl, llt_app h⟩
theorem llt_snoc : ∀ {x : List Nat} {c d : Nat}, c < d → llt (x ++ [c]) (x ++ [d])
  | [], c, d, h => .inl h
  | a :: x, c, d, h => .inr ⟨rfl, llt_snoc h⟩
/-- how words grow by a letter -/
structure Wy (wd : Nat) (ext : Nat → List Nat → List Nat) : Prop where
  len : ∀ c u, (ext c u).length = u.length + 1
  let' : ∀ c u, c < wd → (∀ d ∈ u, d < wd) → ∀ d ∈ ext c u, d < wd
  split : ∀ w : List Nat, w ≠ [] → (∀ d ∈ w, d < wd) → ∃ c u, w = ext c u ∧ c < wd ∧ ∀ d ∈ u, d < wd
  mono : ∀ c u v, llt u v → llt (ext c u) (ext c v)
theorem wy_back {wd : Nat} : Wy wd (fun c u => u ++ [c]) where
  len := fun c u => by simp
  let' := fun c u hc hu d hd => by
    rcases List.mem_append.mp hd with h | h
    · exact hu d h
    · rw [List.mem_singleton.mp h]; exact hc
  split := fun w hw hl => by
    have e := List.dropLast_concat_getLast hw
    refine ⟨w.getLast hw, w.dropLast, e.symm, hl _ (List.getLast_mem hw), fun d hd => hl d ((List.dropLast_sublist w).subset hd)⟩
  mono := fun c u v h => llt_app h
theorem wy_front {wd : Nat} : Wy wd (fun c u => c :: u) where
  len := fun c u => rfl
  let' := fun c u hc hu d hd => by
    rcases List.mem_cons.mp hd with rfl | h
    · exact hc
    · exact hu d h
  split := fun w hw hl => by
    match w, hw with
    | c :: u, _ => exact ⟨c, u, rfl, hl c List.mem_cons_self, fun d hd => hl d (List.mem_cons_of_mem _ hd)⟩
  mono := fun c u v h => .inr ⟨rfl, h⟩
section
variable {wd : Nat} {ext : Nat → List Nat → List Nat} {act : List Nat → Nat} {f : Nat → Nat → Nat}
/-- w is the first word that leads to t -/
structure First (wd : Nat) (act : List Nat → Nat) (t : Nat) (w : List Nat) : Prop where
  ok : ∀ d ∈ w, d < wd
  at' : act w = t
  least : ∀ v : List Nat, (∀ d ∈ v, d < wd) → act v = t → w.length < v.length ∨ w.length = v.length ∧ (w = v ∨ llt w v)
theorem First.uniq {t : Nat} {w v : List Nat} (a : First wd act t w) (b : First wd act t v) : w = v := by
  rcases a.least v b.ok b.at' with h | ⟨h, rfl | h⟩
  · rcases b.least w a.ok a.at' with k | ⟨k, _⟩ <;> omega
  · rfl
  · rcases b.least w a.ok a.at' with k | ⟨k, rfl | k⟩
    · omega
    · rfl
    · exact (llt_irr (llt_trans h k)).elim
abbrev nums (K : List (Nat × List Nat)) : List Nat := K.map (·.1)
/-- what is known when k levels are done -/
structure Lev (wd : Nat) (act : List Nat → Nat) (k : Nat) (K L : List (Nat × List Nat)) : Prop where
  fst : ∀ p ∈ K, First wd act p.1 p.2 ∧ p.2.length ≤ k
  clo : ∀ v : List Nat, (∀ d ∈ v, d < wd) → v.length ≤ k → act v ∈ nums K
  lev : ∀ p, p ∈ L ↔ p ∈ K ∧ p.2.length = k
  srt : L.Pairwise fun p q => llt p.2 q.2
theorem Lev.zero {s : Nat} (h0 : act [] = s) : Lev wd act 0 [(s, [])] [(s, [])] where
  fst := fun p hp => by
    rw [List.mem_singleton.mp hp]
    exact ⟨⟨(fun d hd => nomatch hd), h0, (fun v hv _ => by
      cases v with
      | nil => exact .inr ⟨rfl, .inl rfl⟩
      | cons a r => exact .inl (by simp))⟩, Nat.le_refl _⟩
  clo := fun v hv hl => by
    cases v with
    | nil => simp [h0]
    | cons a r => simp at hl
  lev := fun p => ⟨fun h => ⟨h, by rw [List.mem_singleton.mp h]; rfl⟩, fun h => h.1⟩
  srt := by simp
/-- while the level's words are grown: cs what comes, pre of it seen, N what is new -/
structure Mid (wd : Nat) (ext : Nat → List Nat → List Nat) (act : List Nat → Nat) (f : Nat → Nat → Nat) (k : Nat) (K L cs : List (Nat × List Nat)) : Prop where
  wy : Wy wd ext
  step : ∀ c u, act (ext c u) = f (act u) c
  lv : Lev wd act k K L
  mem : ∀ q, q ∈ cs ↔ ∃ p c, p ∈ L ∧ c < wd ∧ q = (f p.1 c, ext c p.2)
  srt : cs.Pairwise fun p q => llt p.2 q.2
/-- what is new when the first i of cs are seen -/
structure New (wd : Nat) (act : List Nat → Nat) (k : Nat) (K cs : List (Nat × List Nat)) (i : Nat) (N : List (Nat × List Nat)) : Prop where
  fst : ∀ p ∈ N, First wd act p.1 p.2 ∧ p.2.length = k + 1
  seen : ∀ q ∈ cs.take i, q.1 ∈ nums (K ++ N)
  sub : N.Sublist (cs.take i)
theorem New.zero {k : Nat} {K cs : List (Nat × List Nat)} : New wd act k K cs 0 [] :=
  ⟨fun p hp => (by cases hp), fun q hq => (by simp at hq), by simp⟩
theorem take_succ' {α : Type} {l : List α} {i : Nat} {x : α} (h : l[i]? = some x) : l.take (i + 1) = l.take i ++ [x] := by
  rw [List.take_add_one, h]
  rfl
theorem New.old {k i : Nat} {K cs N : List (Nat × List Nat)} (h : New wd act k K cs i N) {q : Nat × List Nat} (hq : cs[i]? = some q) (hn : q.1 ∈ nums (K ++ N)) : New wd act k K cs (i + 1) N where
  fst := h.fst
  seen := fun r hr => by
    rw [take_succ' hq] at hr
    rcases List.mem_append.mp hr with hr | hr
    · exact h.seen r hr
    · rw [List.mem_singleton.mp hr]; exact hn
  sub := h.sub.trans (by rw [take_succ' hq]; exact List.sublist_append_left _ _)
theorem Mid.new {k i : Nat} {K L cs N : List (Nat × List Nat)} (M : Mid wd ext act f k K L cs) (h : New wd act k K cs i N) {q : Nat × List Nat} (hq : cs[i]? = some q) (hn : q.1 ∉ nums (K ++ N)) : New wd act k K cs (i + 1) (N ++ [q]) := by
  obtain ⟨p, c, hp, hc, eq⟩ := (M.mem q).mp (List.mem_of_getElem? hq)
  obtain ⟨pK, pl⟩ := (M.lv.lev p).mp hp
  obtain ⟨Fp, _⟩ := M.lv.fst p pK
  have ln : q.2.length = k + 1 := by rw [eq, M.wy.len, pl]
  have F : First wd act q.1 q.2 := by
    refine ⟨by rw [eq]; exact M.wy.let' c p.2 hc Fp.ok, by rw [eq, M.step, Fp.at'], fun v hv hvt => ?_⟩
    have far : k < v.length := by
      by_cases hl : v.length ≤ k
      · have := M.lv.clo v hv hl
        rw [hvt] at this
        exact absurd (by rw [nums, List.map_append]; exact List.mem_append_left _ this) hn
      · omega
    by_cases h1 : v.length = k + 1
    · obtain ⟨c', u, ev, hc', hu⟩ := M.wy.split v (fun e => by rw [e] at far; simp at far) hv
      have lu : u.length = k := by rw [ev, M.wy.len] at h1; omega
      obtain ⟨r, hr, er⟩ := List.mem_map.mp (M.lv.clo u hu (by omega))
      obtain ⟨Fr, lr⟩ := M.lv.fst r hr
      have tr : act (ext c' r.2) = q.1 := by rw [M.step, Fr.at', er, ← M.step, ← ev, hvt]
      by_cases h2 : r.2.length = k
      · have rL := (M.lv.lev r).mpr ⟨hr, h2⟩
        have rc : (q.1, ext c' r.2) ∈ cs := (M.mem _).mpr ⟨r, c', rL, hc', by rw [← tr, M.step, Fr.at']⟩
        have le1 : ext c' r.2 = v ∨ llt (ext c' r.2) v := by
          rcases Fr.least u hu er.symm with z | ⟨_, z | z⟩
          · omega
          · exact .inl (by rw [z, ← ev])
          · exact .inr (by rw [ev]; exact M.wy.mono _ _ _ z)
        have le2 : q.2 = ext c' r.2 ∨ llt q.2 (ext c' r.2) := by
          obtain ⟨j, hj⟩ := List.getElem?_of_mem rc
          have nj : ¬ j < i := fun z => hn (h.seen (q.1, ext c' r.2) (List.mem_of_getElem? (i := j) (by rw [List.getElem?_take_of_lt z]; exact hj)))
          by_cases e : j = i
          · subst e
            rw [hq] at hj
            exact .inl (by rw [Option.some.inj hj])
          · have li := get_lt' hq
            have lj := get_lt' hj
            have z := List.pairwise_iff_getElem.mp M.srt i j li lj (by omega)
            rw [List.getElem?_eq_getElem li] at hq
            rw [List.getElem?_eq_getElem lj] at hj
            rw [Option.some.inj hq, Option.some.inj hj] at z
            exact .inr z
        refine .inr ⟨by omega, ?_⟩
        rcases le2 with a | a <;> rcases le1 with b | b
        · exact .inl (a.trans b)
        · exact .inr (a ▸ b)
        · exact .inr (b ▸ a)
        · exact .inr (llt_trans a b)
      · have := M.lv.clo (ext c' r.2) (M.wy.let' _ _ hc' Fr.ok) (by rw [M.wy.len]; omega)
        rw [tr] at this
        exact absurd (by rw [nums, List.map_append]; exact List.mem_append_left _ this) hn
    · exact .inl (by omega)
  refine ⟨fun r hr => ?_, fun r hr => ?_, ?_⟩
  · rcases List.mem_append.mp hr with hr | hr
    · exact h.fst r hr
    · rw [List.mem_singleton.mp hr]
      exact ⟨F, ln⟩
  · rw [take_succ' hq] at hr
    rw [nums, ← List.append_assoc, List.map_append]
    rcases List.mem_append.mp hr with hr | hr
    · exact List.mem_append_left _ (h.seen r hr)
    · rw [List.mem_singleton.mp hr]
      exact List.mem_append_right _ (by simp)
  · rw [take_succ' hq]
    exact List.Sublist.append h.sub (List.Sublist.refl _)
/-- the level is done -/
theorem Mid.done {k : Nat} {K L cs N : List (Nat × List Nat)} (M : Mid wd ext act f k K L cs) (h : New wd act k K cs cs.length N) : Lev wd act (k + 1) (K ++ N) N where
  fst := fun p hp => by
    rcases List.mem_append.mp hp with hp | hp
    · obtain ⟨a, b⟩ := M.lv.fst p hp
      exact ⟨a, by omega⟩
    · obtain ⟨a, b⟩ := h.fst p hp
      exact ⟨a, by omega⟩
  clo := fun v hv hl => by
    by_cases h1 : v.length ≤ k
    · rw [nums, List.map_append]
      exact List.mem_append_left _ (M.lv.clo v hv h1)
    · obtain ⟨c', u, ev, hc', hu⟩ := M.wy.split v (fun e => by rw [e] at h1; simp at h1) hv
      have lu : u.length = k := by
        have := M.wy.len c' u
        rw [← ev] at this
        omega
      obtain ⟨r, hr, er⟩ := List.mem_map.mp (M.lv.clo u hu (by omega))
      obtain ⟨Fr, lr⟩ := M.lv.fst r hr
      have tr : act (ext c' r.2) = act v := by rw [M.step, Fr.at', er, ← M.step, ← ev]
      by_cases h2 : r.2.length = k
      · have rL := (M.lv.lev r).mpr ⟨hr, h2⟩
        have rc : (act v, ext c' r.2) ∈ cs := (M.mem _).mpr ⟨r, c', rL, hc', by rw [← tr, M.step, Fr.at']⟩
        exact h.seen _ (by rw [List.take_length]; exact rc)
      · have := M.lv.clo (ext c' r.2) (M.wy.let' _ _ hc' Fr.ok) (by rw [M.wy.len]; omega)
        rw [tr] at this
        rw [nums, List.map_append]
        exact List.mem_append_left _ this
  lev := fun p => ⟨fun hp => ⟨List.mem_append_right _ hp, (h.fst p hp).2⟩, fun ⟨hp, hl⟩ => by
    rcases List.mem_append.mp hp with hp | hp
    · have := (M.lv.fst p hp).2
      omega
    · exact hp⟩
  srt := M.srt.sublist (by have := h.sub; rwa [List.take_length] at this)
/-- nothing on the level: all that is led to is known -/
theorem Lev.all {k : Nat} {K : List (Nat × List Nat)} (wy : Wy wd ext) (step : ∀ c u, act (ext c u) = f (act u) c) (h : Lev wd act k K []) : ∀ (n : Nat) (v : List Nat), v.length ≤ n → (∀ d ∈ v, d < wd) → act v ∈ nums K
  | 0, v, hl, hv => h.clo v hv (by omega)
  | n + 1, v, hl, hv => by
    by_cases h0 : v = []
    · rw [h0]
      exact h.clo [] (fun d hd => nomatch hd) (Nat.zero_le _)
    · obtain ⟨c', u, ev, hc', hu⟩ := wy.split v h0 hv
      have lu : u.length ≤ n := by
        have := wy.len c' u
        rw [← ev] at this
        omega
      obtain ⟨r, hr, er⟩ := List.mem_map.mp (Lev.all wy step h n u lu hu)
      obtain ⟨Fr, lr⟩ := h.fst r hr
      have tr : act (ext c' r.2) = act v := by rw [step, Fr.at', er, ← step, ← ev]
      have nl : r.2.length ≠ k := fun e => by
        have := (h.lev r).mpr ⟨hr, e⟩
        cases this
      rw [← tr]
      exact h.clo _ (wy.let' _ _ hc' Fr.ok) (by rw [wy.len]; omega)
end
end Mon
namespace Mon
def stp (rows : List (List Nat)) (r c : Nat) : Nat := (rows.getD r []).getD c 0
def extB (b : Bool) (c : Nat) (u : List Nat) : List Nat := if b = true then c :: u else u ++ [c]
def actB (b : Bool) (rows : List (List Nat)) (s : Nat) (w : List Nat) : Nat := if b = true then w.foldr (fun c r => stp rows r c) s else walk rows s w
theorem actB_nil {b : Bool} {rows : List (List Nat)} {s : Nat} : actB b rows s [] = s := by cases b <;> rfl
theorem actB_ext {b : Bool} {rows : List (List Nat)} {s : Nat} (c : Nat) (u : List Nat) : actB b rows s (extB b c u) = stp rows (actB b rows s u) c := by
  cases b
  · show walk rows s (u ++ [c]) = _
    rw [walk_app]
    rfl
  · rfl
theorem wyB {b : Bool} {wd : Nat} : Wy wd (extB b) := by
  cases b
  · exact wy_back
  · exact wy_front
/-- the steps from a level, in the order in which they are tried -/
def stepsB (b : Bool) (wd : Nat) (L : List (Nat × List Nat)) : List ((Nat × List Nat) × Nat) := if b = true then (List.range wd).flatMap fun c => L.map fun p => (p, c) else L.flatMap fun p => (List.range wd).map fun c => (p, c)
def candB (b : Bool) (rows : List (List Nat)) (q : (Nat × List Nat) × Nat) : Nat × List Nat := (stp rows q.1.1 q.2, extB b q.2 q.1.2)
theorem mem_steps {b : Bool} {wd : Nat} {L : List (Nat × List Nat)} {q : (Nat × List Nat) × Nat} : q ∈ stepsB b wd L ↔ q.1 ∈ L ∧ q.2 < wd := by
  cases b
  · simp only [stepsB, Bool.false_eq_true, if_false, List.mem_flatMap, List.mem_map, List.mem_range]
    exact ⟨fun ⟨p, hp, c, hc, e⟩ => by subst e; exact ⟨hp, hc⟩, fun ⟨hp, hc⟩ => ⟨q.1, hp, q.2, hc, rfl⟩⟩
  · simp only [stepsB, if_true, List.mem_flatMap, List.mem_map, List.mem_range]
    exact ⟨fun ⟨c, hc, p, hp, e⟩ => by subst e; exact ⟨hp, hc⟩, fun ⟨hp, hc⟩ => ⟨q.2, hc, q.1, hp, rfl⟩⟩
theorem pw_flat {α β : Type} {R : β → β → Prop} {f : α → List β} : ∀ {l : List α}, (∀ a ∈ l, (f a).Pairwise R) → l.Pairwise (fun a a' => ∀ x ∈ f a, ∀ y ∈ f a', R x y) → (l.flatMap f).Pairwise R
  | [], _, _ => by simp
  | a :: l, h, k => by
    obtain ⟨k1, k2⟩ := List.pairwise_cons.mp k
    rw [List.flatMap_cons, List.pairwise_append]
    refine ⟨h a List.mem_cons_self, pw_flat (fun b hb => h b (List.mem_cons_of_mem _ hb)) k2, fun x hx y hy => ?_⟩
    obtain ⟨b, hb, hy⟩ := List.mem_flatMap.mp hy
    exact k1 b hb x hx y hy
theorem srt_steps {b : Bool} {rows : List (List Nat)} {wd : Nat} {L : List (Nat × List Nat)} (h : L.Pairwise fun p q => llt p.2 q.2) (len : ∀ p ∈ L, ∀ q ∈ L, p.2.length = q.2.length) : ((stepsB b wd L).map (candB b rows)).Pairwise fun p q => llt p.2 q.2 := by
  rw [List.pairwise_map]
  have rg : (List.range wd).Pairwise (· < ·) := List.pairwise_lt_range
  cases b
  · simp only [stepsB, Bool.false_eq_true, if_false]
    refine pw_flat (fun p hp => ?_) (h.imp fun {p q} hpq x hx y hy => ?_)
    · rw [List.pairwise_map]
      exact rg.imp fun {c d} hcd => llt_snoc hcd
    · obtain ⟨c, hc, rfl⟩ := List.mem_map.mp hx
      obtain ⟨d, hd, rfl⟩ := List.mem_map.mp hy
      exact llt_app hpq
  · simp only [stepsB, if_true]
    refine pw_flat (fun c hc => ?_) (rg.imp fun {c d} hcd x hx y hy => ?_)
    · rw [List.pairwise_map]
      exact h.imp fun {p q} hpq => .inr ⟨rfl, hpq⟩
    · obtain ⟨p, hp, rfl⟩ := List.mem_map.mp hx
      obtain ⟨q, hq, rfl⟩ := List.mem_map.mp hy
      exact .inl hcd
theorem midB {b : Bool} {rows : List (List Nat)} {wd s k : Nat} {K L : List (Nat × List Nat)} (h : Lev wd (actB b rows s) k K L) : Mid wd (extB b) (actB b rows s) (stp rows) k K L ((stepsB b wd L).map (candB b rows)) where
  wy := wyB
  step := actB_ext
  lv := h
  mem := fun q => by
    rw [List.mem_map]
    exact ⟨fun ⟨r, hr, e⟩ => ⟨r.1, r.2, (mem_steps.mp hr).1, (mem_steps.mp hr).2, e.symm⟩, fun ⟨p, c, hp, hc, e⟩ => ⟨(p, c), mem_steps.mpr ⟨hp, hc⟩, e.symm⟩⟩
  srt := srt_steps h.srt fun p hp q hq => by rw [((h.lev p).mp hp).2, ((h.lev q).mp hq).2]
/-- what the least ways are -/
structure Ways (b : Bool) (rows : List (List Nat)) (wd s t : Nat) (K : List (Nat × List Nat)) : Prop where
  fst : ∀ p ∈ K, First wd (actB b rows s) p.1 p.2
  nd : (nums K).Nodup
  short : ∀ p ∈ K, p.2.length ≤ 2000 ∧ p.2.length < rows.length
  all : t ∈ nums K ∨ ∀ v : List Nat, (∀ d ∈ v, d < wd) → actB b rows s v ≠ t
end Mon

set_option Elab.async false
set_option linter.all false
set_option maxRecDepth 100000
set_option maxHeartbeats 4000000
/-! Least words of products of maps of up to four points are short: what goes ahead of an element on its way are unlike maps whose kernels grow. -/
namespace Mon
def prs : List (Nat × Nat) := [(0, 1), (0, 2), (0, 3), (1, 2), (1, 3), (2, 3)]
/-- which points go together -/
def kp (x : List Nat) : List Bool := prs.map fun p => decide (x[p.1]? = x[p.2]?)
def wt (l : List Bool) : Nat := l.countP id
def kle (x y : List Nat) : Prop := ∀ a b : Nat, x[a]? = x[b]? → y[a]? = y[b]?
theorem kle_refl (x : List Nat) : kle x x := fun _ _ h => h
theorem kle_trans {x y z : List Nat} (h : kle x y) (k : kle y z) : kle x z := fun a b e => k a b (h a b e)
theorem kle_comp (x y : List Nat) : kle x (comp x y) := fun a b e => by
  unfold comp
  rw [List.getElem?_map, List.getElem?_map, e]
/-- all maps of four points -/
def all4 : List (List Nat) := (List.range 4).flatMap fun a => (List.range 4).flatMap fun b => (List.range 4).flatMap fun c => (List.range 4).map fun d => [a, b, c, d]
theorem in_all4 {x : List Nat} (h : Valid 4 x) : x ∈ all4 := by
  obtain ⟨l, o⟩ := h
  match x, l with
  | [a, b, c, d], _ =>
    simp only [all4, List.mem_flatMap, List.mem_map, List.mem_range]
    exact ⟨a, o a (by simp), b, o b (by simp), c, o c (by simp), d, o d (by simp), rfl⟩
def c4 (v : Nat) : Nat := [24, 24, 12, 12, 0, 0, 4].getD v 0
def parts : List (List Bool) := [[false, false, false, false, false, false], [false, false, false, false, false, true], [false, false, false, false, true, false], [false, false, false, true, false, false], [false, false, false, true, true, true], [false, false, true, false, false, false], [false, false, true, true, false, false], [false, true, false, false, false, false], [false, true, false, false, true, false], [false, true, true, false, false, true], [true, false, false, false, false, false], [true, false, false, false, false, true], [true, false, true, false, true, false], [true, true, false, true, false, false], [true, true, true, true, true, true]]
theorem in_parts : ∀ x ∈ all4, kp x ∈ parts := by decide +kernel
theorem fewK : ∀ k ∈ parts, (all4.filter fun y => kp y = k).length ≤ c4 (wt k) ∧ wt k < 7 := by decide +kernel
theorem few4 (x : List Nat) (h : x ∈ all4) : (all4.filter fun y => kp y = kp x).length ≤ c4 (wt (kp x)) ∧ wt (kp x) < 7 := fewK _ (in_parts x h)
theorem sub_len {α : Type} [DecidableEq α] : ∀ {l m : List α}, l.Nodup → (∀ x ∈ l, x ∈ m) → l.length ≤ m.length
  | [], m, _, _ => Nat.zero_le _
  | x :: l, m, nd, h => by
    obtain ⟨h1, h2⟩ := List.nodup_cons.mp nd
    have q := sub_len (l := l) (m := m.erase x) h2 fun y hy => (List.mem_erase_of_ne (fun e : y = x => h1 (e ▸ hy))).mpr (h y (List.mem_cons_of_mem _ hy))
    rw [List.length_erase_of_mem (h x List.mem_cons_self)] at q
    have := List.length_pos_of_mem (h x List.mem_cons_self)
    rw [List.length_cons]
    omega
/-- pointwise, a list of truths below another of the same weight is that -/
theorem wt_eq : ∀ {l m : List Bool}, l.length = m.length → (∀ (i : Nat), l[i]? = some true → m[i]? = some true) → wt m ≤ wt l → l = m
  | [], [], _, _, _ => rfl
  | a :: l, b :: m, e, h, w => by
    have h0 := h 0
    have hr : ∀ (i : Nat), l[i]? = some true → m[i]? = some true := fun i hi => h (i + 1) hi
    have mono : ∀ {l m : List Bool}, l.length = m.length → (∀ (i : Nat), l[i]? = some true → m[i]? = some true) → wt l ≤ wt m := by
      intro l
      induction l with
      | nil => intro m _ _; exact Nat.zero_le _
      | cons a l ih =>
        intro m e h
        match m, e with
        | b :: m, e =>
          have q := ih (m := m) (by simpa using e) fun i hi => h (i + 1) hi
          have h0 := h 0
          cases a <;> cases b <;> simp [wt] at * <;> omega
    have q := mono (by simpa using e) hr
    have lm : l.length = m.length := by simpa using e
    cases a <;> cases b <;> simp [wt] at * <;> first | exact wt_eq lm hr (by simpa [wt] using w) | (exfalso; omega)
theorem kp_same {x y : List Nat} (h : kle x y) (w : wt (kp y) ≤ wt (kp x)) : kp x = kp y := by
  refine wt_eq (by simp [kp]) (fun i hi => ?_) w
  unfold kp at hi ⊢
  rw [List.getElem?_map] at hi ⊢
  obtain ⟨p, hp, e⟩ := Option.map_eq_some_iff.mp hi
  rw [hp]
  exact congrArg some (decide_eq_true (h _ _ (of_decide_eq_true e)))
/-- unlike maps of four points whose kernels grow are few -/
theorem chain_few {l : List (List Nat)} (nd : l.Nodup) (val : ∀ x ∈ l, Valid 4 x) (ch : l.Pairwise kle) : l.length ≤ 76 := by
  have tot : (l.map fun x => wt (kp x)).length = (cvec 7 (l.map fun x => wt (kp x))).sum := (cvec_sum (N := 7) fun v hv => by
    obtain ⟨x, hx, rfl⟩ := List.mem_map.mp hv
    exact (few4 x (in_all4 (val x hx))).2).symm
  have each : ∀ v, (l.map fun x => wt (kp x)).count v ≤ c4 v := fun v => by
    have e : (l.map fun x => wt (kp x)).count v = (l.filter fun x => wt (kp x) = v).length := by
      rw [List.count, List.countP_map, List.countP_eq_length_filter]
      congr 2
    rw [e]
    cases hf : l.filter fun x => wt (kp x) = v with
    | nil => exact Nat.zero_le _
    | cons x r =>
      rw [← hf]
      have hx : x ∈ l.filter fun x => wt (kp x) = v := by rw [hf]; exact List.mem_cons_self
      obtain ⟨xl, xv⟩ := List.mem_filter.mp hx
      have xv : wt (kp x) = v := of_decide_eq_true xv
      have ch' : (l.filter fun x => wt (kp x) = v).Pairwise kle := ch.sublist List.filter_sublist
      rw [hf] at ch'
      have h1 := (List.pairwise_cons.mp ch').1
      have q := few4 x (in_all4 (val x xl))
      rw [xv] at q
      refine Nat.le_trans (sub_len (nd.sublist List.filter_sublist) fun y hy => ?_) q.1
      obtain ⟨yl, yv⟩ := List.mem_filter.mp hy
      have yv : wt (kp y) = v := of_decide_eq_true yv
      refine List.mem_filter.mpr ⟨in_all4 (val y yl), decide_eq_true ?_⟩
      rw [hf] at hy
      rcases List.mem_cons.mp hy with rfl | hy
      · rfl
      · exact (kp_same (h1 y hy) (by omega)).symm
  rw [List.length_map] at tot
  rw [tot]
  show ((List.range 7).map fun k => (l.map fun x => wt (kp x)).count k).sum ≤ 76
  have e0 := each 0
  have e1 := each 1
  have e2 := each 2
  have e3 := each 3
  have e4 := each 4
  have e5 := each 5
  have e6 := each 6
  rw [show c4 0 = 24 from rfl] at e0
  rw [show c4 1 = 24 from rfl] at e1
  rw [show c4 2 = 12 from rfl] at e2
  rw [show c4 3 = 12 from rfl] at e3
  rw [show c4 4 = 0 from rfl] at e4
  rw [show c4 5 = 0 from rfl] at e5
  rw [show c4 6 = 4 from rfl] at e6
  simp only [show List.range 7 = [0, 1, 2, 3, 4, 5, 6] from rfl, List.map_cons, List.map_nil, List.sum_cons, List.sum_nil]
  omega
section
variable {n : Nat} {gens found rows : List (List Nat)} {m : List (Nat × Nat)}
/-- the way to element j -/
theorem way (T : Tab n gens found rows) (hm : madeTab 0 rows [] = some m) (lm : m.length + 1 = rows.length) : ∀ (k j : Nat), j ≤ k → j < m.length + 1 → ∃ (ps : List (List Nat)) (z : List Nat), found[j]? = some z ∧ ps.length = ((wordTab m).getD j []).length + 1 ∧ ps.Nodup ∧ ps.Pairwise kle ∧ (∀ x ∈ ps, kle x z) ∧ ∀ x ∈ ps, ∃ i, i ≤ j ∧ found[i]? = some x
  | k, 0, _, _ => ⟨[idm n], idm n, T.head, by rw [word_0]; rfl, by simp, by simp, fun x hx => by rw [List.mem_singleton.mp hx]; exact kle_refl _, fun x hx => ⟨0, Nat.le_refl _, by rw [List.mem_singleton.mp hx]; exact T.head⟩⟩
  | 0, j + 1, h, _ => by omega
  | k + 1, j + 1, h, hj => by
    obtain ⟨p, hp⟩ := lt_get' (show j < m.length by omega)
    have hlt : ∀ (k : Nat) p, m[k]? = some p → p.1 < k + 1 := fun k p h => (madeTab_lt hm h).1
    obtain ⟨a, row, b, c⟩ := madeTab_lt hm hp
    obtain ⟨ps, z, hz, lps, nd, pw, le, mem⟩ := way T hm lm k p.1 (by omega) (by omega)
    obtain ⟨x, g, hx, hg, ht⟩ := T.ent p.1 row b p.2 (j + 1) c
    rw [hz] at hx
    cases hx
    refine ⟨ps ++ [comp z g], comp z g, ht, ?_, ?_, ?_, ?_, ?_⟩
    · rw [List.length_append, lps, word_at hlt hp, List.length_append]
      rfl
    · rw [List.nodup_append]
      refine ⟨nd, by simp, fun x hx y hy e => ?_⟩
      rw [List.mem_singleton.mp hy] at e
      obtain ⟨i, il, hi⟩ := mem x hx
      rw [e] at hi
      have := nodup_at T.nd hi ht
      omega
    · rw [List.pairwise_append]
      refine ⟨pw, by simp, fun x hx y hy => ?_⟩
      rw [List.mem_singleton.mp hy]
      exact kle_trans (le x hx) (kle_comp z g)
    · intro x hx
      rcases List.mem_append.mp hx with hx | hx
      · exact kle_trans (le x hx) (kle_comp z g)
      · rw [List.mem_singleton.mp hx]
        exact kle_refl _
    · intro x hx
      rcases List.mem_append.mp hx with hx | hx
      · obtain ⟨i, il, hi⟩ := mem x hx
        exact ⟨i, by omega, hi⟩
      · rw [List.mem_singleton.mp hx]
        exact ⟨j + 1, Nat.le_refl _, ht⟩
theorem word_100 (T : Tab n gens found rows) (n1 : 1 ≤ n) (n4 : n ≤ 4) (hm : madeTab 0 rows [] = some m) (lm : m.length + 1 = rows.length) (j : Nat) : ((wordTab m).getD j []).length ≤ 100 := by
  by_cases hj : j < m.length + 1
  · obtain ⟨ps, z, hz, lps, nd, pw, le, mem⟩ := way T hm lm j j (Nat.le_refl _) hj
    have val : ∀ x ∈ ps, Valid n x := fun x hx => by
      obtain ⟨i, _, hi⟩ := mem x hx
      exact T.vf hi
    by_cases h4 : n = 4
    · subst h4
      have := chain_few nd val pw
      omega
    · have f1 := maps_few nd val
      have : n = 1 ∨ n = 2 ∨ n = 3 := by omega
      have f2 : n ^ n ≤ 27 := by rcases this with rfl | rfl | rfl <;> decide
      omega
  · rw [List.getD, List.getElem?_eq_none (by rw [word_len]; omega)]
    exact Nat.zero_le _
end
end Mon

set_option Elab.async false
set_option linter.all false
set_option maxRecDepth 100000
set_option maxHeartbeats 2000000
/-! A dict that tells the place of a number. -/
namespace Lf
open PySem PySem.Spec PyProof.Rows L2
def ik (x : Nat) : Key := Sum.inl ((x : Nat) : Int)
theorem ik_inj {x y : Nat} (h : ik x = ik y) : x = y := by
  have : ((x : Nat) : Int) = (y : Nat) := Sum.inl.inj h
  omega
def idF : Nat → List Nat → List (Key × V)
  | _, [] => []
  | k, x :: r => (ik x, .int (k : Nat)) :: idF (k + 1) r
abbrev idT (f : List Nat) : List (Key × V) := idF 0 f
theorem idF_len : ∀ {f : List Nat} {k : Nat}, (idF k f).length = f.length
  | [], _ => rfl
  | x :: r, k => by rw [idF, List.length_cons, idF_len, List.length_cons]
theorem idF_snoc {x : Nat} : ∀ {f : List Nat} {k : Nat}, idF k (f ++ [x]) = idF k f ++ [(ik x, .int (k + f.length : Nat))]
  | [], k => rfl
  | y :: r, k => by
    rw [List.cons_append, idF, idF, idF_snoc, List.cons_append, List.length_cons, show k + 1 + r.length = k + (r.length + 1) by omega]
theorem idF_none {x : Nat} : ∀ {f : List Nat} {k : Nat}, x ∉ f → valV (idF k f) (ik x) = none
  | [], _, _ => rfl
  | y :: r, k, h => by
    have hy : ¬ ik y = ik x := fun z => h (by rw [ik_inj z]; exact List.mem_cons_self)
    rw [idF, valV_neg (p := (ik y, V.int (k : Nat))) hy]
    exact idF_none fun z => h (List.mem_cons_of_mem _ z)
theorem idF_some {x : Nat} : ∀ {f : List Nat} {k i : Nat}, f.Nodup → f[i]? = some x → valV (idF k f) (ik x) = some (.int (k + i : Nat))
  | [], _, _, _, h => by simp at h
  | y :: r, k, 0, _, h => by
    cases h
    rw [idF, valV_pos (p := (ik x, V.int (k : Nat))) rfl]
    rfl
  | y :: r, k, i + 1, nd, h => by
    have hm : r[i]? = some x := h
    obtain ⟨h1, h2⟩ := List.nodup_cons.mp nd
    have hy : ¬ ik y = ik x := fun z => h1 (by rw [ik_inj z]; exact List.mem_of_getElem? hm)
    rw [idF, valV_neg (p := (ik y, V.int (k : Nat))) hy, idF_some h2 hm, show k + 1 + i = k + (i + 1) by omega]
theorem idT_put {x : Nat} {f : List Nat} (h : x ∉ f) : putK (idT f) (ik x) (.int (f.length : Nat)) = idT (f ++ [x]) := by
  rw [putK_new _ (idF_none h), idT, idF_snoc, Nat.zero_add]
end Lf

set_option Elab.async false
set_option linter.all false
set_option maxRecDepth 100000
set_option maxHeartbeats 8000000
namespace K15
open PySem PySem.Spec PyProof.Rows L2 Lf
/-- over two lists: every item of one with every item of the other -/
theorem lc2_lists {K : PySem.W.Frag} {a b : Addr} {xs ys : List V} {gi gj tk : Nat} {te : TE} {vs vs1 : List Nat} {σ : L2.St} {H1 : Hp} {D : Addr} {Qd : Hp → Prop} (Pv : Nat → Nat → Hp → Prop) (h0 : Pv 0 0 (L2.upd H1 D (.lst [])))
    (hl : ∀ i j H, Pv i j H → SqL K H a xs ∧ SqL K H b ys) (hn : ∀ i H, i < xs.length → Pv i ys.length H → Pv (i + 1) 0 H)
    (hw : ∀ x, wipe ((wipe σ vs).set gi (some x)) vs = wipe σ vs) (hb : ∀ x, ((wipe σ vs).set gi (some x))[tk]? = some (some (.ref b)))
    (hw1 : ∀ x y, wipe ((wipe ((wipe σ vs).set gi (some x)) vs1).set gj (some y)) vs1 = wipe ((wipe σ vs).set gi (some x)) vs1)
    (ho : ∀ i j x y H, xs[i]? = some x → ys[j]? = some y → Pv i j H → te ((wipe ((wipe σ vs).set gi (some x)) vs1).set gj (some y)) H fun z H7 => ∃ acc, H7 D = some (.lst acc) ∧ acc.length < sizeLine ∧ Pv i (j + 1) (L2.upd H7 D (.lst (acc ++ [z])))) (hd : ∀ H, Pv xs.length 0 H → Qd H) :
    ∃ W : Nat → Nat → Hp → Prop, (∃ m, W 0 m (L2.upd H1 D (.lst []))) ∧ ∀ i m H, W i m H →
      ((Itl K a).stop i H ∧ Qd H) ∨ ((Itl K a).go i H ∧ ∃ Nx : Hp → Prop, (∀ H', Nx H' → ∃ m', m' < m ∧ W (i + 1) m' H') ∧ ∀ x H', (Itl K a).yld i H x H' → gName gi x (wipe σ vs) H' fun σ2 H2 => wipe σ2 vs = wipe σ vs ∧ tYes σ2 H2 fun c H3 =>
        if c = true then iList K (tVar tk) σ2 H3 fun J1 H4 => ∃ W1 : Nat → Nat → Hp → Prop, (∃ m, W1 0 m H4) ∧ ∀ j k H, W1 j k H →
          (J1.stop j H ∧ Nx H) ∨ (J1.go j H ∧ ∃ Nx1 : Hp → Prop, (∀ H', Nx1 H' → ∃ k', k' < k ∧ W1 (j + 1) k' H') ∧ ∀ x H', J1.yld j H x H' → gName gj x (wipe σ2 vs1) H' fun σ3 H5 => wipe σ3 vs1 = wipe σ2 vs1 ∧ tYes σ3 H5 fun c H6 =>
            if c = true then te σ3 H6 fun y H7 => ∃ acc, H7 D = some (.lst acc) ∧ acc.length < sizeLine ∧ Nx1 (L2.upd H7 D (.lst (acc ++ [y]))) else Nx1 H6)
        else Nx H3) := by
  refine ⟨fun i m H => m = xs.length - i ∧ i ≤ xs.length ∧ Pv i 0 H, ⟨xs.length, by simp, Nat.zero_le _, h0⟩, ?_⟩
  rintro i m H ⟨rfl, hi, p⟩
  obtain ⟨qa, qb⟩ := hl i 0 H p
  by_cases hlt : i < xs.length
  · refine .inr ⟨⟨xs, xs[i], qa, by simp [hlt]⟩, Pv (i + 1) 0, fun H' p' => ⟨xs.length - (i + 1), by omega, rfl, hlt, p'⟩, fun x H' y => ?_⟩
    obtain ⟨e, y⟩ := y
    subst e
    have hx := y xs qa
    refine ⟨hw x, yesT ?_⟩
    refine ⟨_, hb x, b, rfl, ⟨_, qb⟩, ?_⟩
    refine ⟨fun j k H => k = ys.length - j ∧ j ≤ ys.length ∧ Pv i j H, ⟨ys.length, by simp, Nat.zero_le _, p⟩, ?_⟩
    rintro j k Hj ⟨rfl, hj, pj⟩
    obtain ⟨ra, rb⟩ := hl i j Hj pj
    by_cases jlt : j < ys.length
    · refine .inr ⟨⟨ys, ys[j], rb, by simp [jlt]⟩, Pv i (j + 1), fun H' p' => ⟨ys.length - (j + 1), by omega, rfl, jlt, p'⟩, fun y' H' z => ?_⟩
      obtain ⟨e, z⟩ := z
      subst e
      exact ⟨hw1 x y', yesT (ho i j x y' _ hx (z ys rb) pj)⟩
    · have e : j = ys.length := by omega
      subst e
      exact .inl ⟨⟨ys, rb, Nat.le_refl _⟩, hn i Hj hlt pj⟩
  · have e : i = xs.length := by omega
    subst e
    exact .inl ⟨⟨xs, qa, Nat.le_refl _⟩, hd H p⟩
abbrev NY : List Str := ["table", "one", "is_front", "last", "words", "level", "letters", "letter", "number", "steps", "reached", "sign"]
/-- pairs of number and letter, tuples -/
abbrev tePr : TE := tTup (tCons (tVar 8) (tCons (tVar 7) tNil))
/-- words by their numbers -/
def wT (l : List (Nat × List Nat)) : List (Key × V) := l.map fun p => (ik p.1, wv p.2)
theorem gName_k {i : Nat} {v : V} {σ : L2.St} {H : Hp} {Q : L2.St → Hp → Prop} (h : Q (σ.set i (some v)) H) : gName i v σ H Q := h
theorem tSeq_k {t u : TS} {D : Ends} {σ : L2.St} {H : Hp} (h : t { D with nx := u D } σ H) : tSeq t u D σ H := h
theorem tIfS_k {t : TT} {A B : TS} {D : Ends} {σ : L2.St} {H : Hp} (R : L2.St → Hp → Prop) (h : (∀ σ' H', R σ' H' → D.nx σ' H') → tIfS t A B D σ H) (hR : ∀ σ' H', R σ' H' → D.nx σ' H') : tIfS t A B D σ H := h hR
/-- steps, as they lie -/
structure Acc (H : Hp) (D : Addr) (qs : List ((Nat × List Nat) × Nat)) : Prop where
  ex : ∃ prs : List Addr, H D = some (.lst (prs.map V.ref)) ∧ prs.length = qs.length ∧ ∀ (j : Nat) a q, prs[j]? = some a → qs[j]? = some q → H a = some (.tup [nv q.1.1, nv q.2])
theorem Acc.same {H H' : Hp} {D : Addr} {qs : List ((Nat × List Nat) × Nat)} (h : Acc H D qs) (e : Same H H') : Acc H' D qs := by
  obtain ⟨prs, a, b, c⟩ := h.ex
  exact ⟨prs, e _ _ a, b, fun j x q h1 h2 => e _ _ (c j x q h1 h2)⟩
theorem Acc.add {H : Hp} {D t : Addr} {qs : List ((Nat × List Nat) × Nat)} {q : (Nat × List Nat) × Nat} {acc : List V} (h : Acc H D qs) (ha : H D = some (.lst acc)) (ht : H t = some (.tup [nv q.1.1, nv q.2])) : Acc (L2.upd H D (.lst (acc ++ [.ref t]))) D (qs ++ [q]) := by
  obtain ⟨prs, a, b, c⟩ := h.ex
  have e : acc = prs.map V.ref := by
    rw [a] at ha
    injection ha with ha
    injection ha with ha
    exact ha.symm
  subst e
  refine ⟨prs ++ [t], by rw [upd_same]; simp, by simp [b], fun j x r h1 h2 => ?_⟩
  have f : H x = some (.tup [nv r.1.1, nv r.2]) := by
    rcases Mon.snoc_cases h1 with h1 | ⟨e1, rfl⟩
    · rcases Mon.snoc_cases h2 with h2 | ⟨e2, rfl⟩
      · exact c j x r h1 h2
      · have := get_lt h1
        omega
    · rcases Mon.snoc_cases h2 with h2 | ⟨_, rfl⟩
      · have := get_lt h2
        omega
      · exact ht
  rw [upd_ne (fun z => by rw [z, a] at f; cases f)]
  exact f
/-- all pairs until the j-th of the i-th row -/
def seen {α β γ : Type} (XS : List α) (YS : List β) (mk : α → β → γ) (i j : Nat) : List γ := (XS.take i).flatMap (fun a => YS.map (mk a)) ++ (match XS[i]? with | some a => (YS.take j).map (mk a) | none => [])
theorem seen_0 {α β γ : Type} {XS : List α} {YS : List β} {mk : α → β → γ} : seen XS YS mk 0 0 = [] := by
  unfold seen
  cases XS[0]? <;> rfl
theorem seen_row {α β γ : Type} {XS : List α} {YS : List β} {mk : α → β → γ} {i : Nat} (h : i < XS.length) : seen XS YS mk i YS.length = seen XS YS mk (i + 1) 0 := by
  obtain ⟨x, hx⟩ := lt_get h
  unfold seen
  rw [take_snoc hx, hx, List.flatMap_append]
  cases XS[i + 1]? <;> simp
theorem seen_step {α β γ : Type} {XS : List α} {YS : List β} {mk : α → β → γ} {i j : Nat} {a : α} {b : β} (ha : XS[i]? = some a) (hb : YS[j]? = some b) : seen XS YS mk i (j + 1) = seen XS YS mk i j ++ [mk a b] := by
  unfold seen
  rw [ha, take_snoc hb]
  simp
theorem seen_all {α β γ : Type} {XS : List α} {YS : List β} {mk : α → β → γ} : seen XS YS mk XS.length 0 = XS.flatMap fun a => YS.map (mk a) := by
  unfold seen
  rw [List.getElem?_eq_none (Nat.le_refl _)]
  simp
theorem flat_len {α β γ : Type} {YS : List β} {mk : α → β → γ} : ∀ {l : List α}, (l.flatMap fun a => YS.map (mk a)).length = l.length * YS.length
  | [] => by simp
  | a :: l => by rw [List.flatMap_cons, List.length_append, flat_len, List.length_map, List.length_cons, Nat.succ_mul, Nat.add_comm]
theorem seen_len {α β γ : Type} {XS : List α} {YS : List β} {mk : α → β → γ} {i j : Nat} : (seen XS YS mk i j).length ≤ (XS.length + 1) * YS.length := by
  unfold seen
  rw [List.length_append, flat_len, List.length_take, Nat.succ_mul]
  have h1 : min i XS.length * YS.length ≤ XS.length * YS.length := Nat.mul_le_mul_right _ (Nat.min_le_right _ _)
  have h2 : (match XS[i]? with | some a => (YS.take j).map (mk a) | none => []).length ≤ YS.length := by
    cases XS[i]? with
    | none => exact Nat.zero_le _
    | some a =>
      show ((YS.take j).map (mk a)).length ≤ _
      rw [List.length_map, List.length_take]
      exact Nat.min_le_right _ _
  omega
theorem lev_few {wd k n : Nat} {act : List Nat → Nat} {Kn L : List (Nat × List Nat)} (h : Mon.Lev wd act k Kn L) (nd : (Mon.nums Kn).Nodup) (lt : ∀ p ∈ Kn, p.1 < n) : Kn.length ≤ n ∧ L.length ≤ Kn.length := by
  constructor
  · have := Mon.nodup_lt n (Mon.nums Kn) nd fun x hx => by
      obtain ⟨p, hp, rfl⟩ := List.mem_map.mp hx
      exact lt p hp
    rwa [Mon.nums, List.length_map] at this
  · refine Mon.sub_len (h.srt.imp fun {p q} hpq e => ?_) fun p hp => ((h.lev p).mp hp).1
    rw [e] at hpq
    exact Mon.llt_irr hpq
theorem lev_short {wd k : Nat} {act : List Nat → Nat} {Kn L : List (Nat × List Nat)} (h : Mon.Lev wd act k Kn L) (kl : k ≤ Kn.length) (kl2 : L ≠ [] → k + 1 ≤ Kn.length) {p : Nat × List Nat} (hp : p ∈ Kn) : p.2.length < Kn.length := by
  have l := (h.fst p hp).2
  by_cases e : p.2.length = k
  · have hL := (h.lev p).mpr ⟨hp, e⟩
    have := kl2 (List.ne_nil_of_mem hL)
    omega
  · omega
theorem steps_len {b : Bool} {wd : Nat} {L : List (Nat × List Nat)} : (Mon.stepsB b wd L).length = L.length * wd := by
  cases b
  · show (L.flatMap fun p => (List.range wd).map fun c => (p, c)).length = _
    rw [flat_len (mk := fun p c => (p, c)), List.length_range]
  · show ((List.range wd).flatMap fun c => L.map fun p => (p, c)).length = _
    rw [flat_len (mk := fun c p => (p, c)), List.length_range, Nat.mul_comm]
theorem sign_of {c : Nat} (h : c < 6) : atI ("abcdefghijklmnopqrst" : Str).cps.toList ((c : Nat) : Int) = some (97 + c) := by
  have : c = 0 ∨ c = 1 ∨ c = 2 ∨ c = 3 ∨ c = 4 ∨ c = 5 := by omega
  rcases this with rfl | rfl | rfl | rfl | rfl | rfl <;> decide +kernel
theorem ws_cons {x : List Nat} {c : Nat} : ((⟨#[97 + c]⟩ : Str) ++ ws x) = ws (c :: x) := by
  show Str.mk (#[97 + c] ++ (x.map fun c => 97 + c).toArray) = ws (c :: x)
  unfold ws
  simp
section
variable {P : Program} {w : World} {K : PySem.W.Frag} {mg : Str → Option Value} {base : Heap}
def spWays (K : PySem.W.Frag) : Sp := fun vs H Q _ => ∃ tb rows wd s b t, vs = [.ref tb, .int (s : Nat), .bl b, .int (t : Nat)] ∧ RowsT K H tb rows ∧ Form rows wd ∧ s < rows.length ∧
  ∀ d l H', Same H H' → H' d = some (.dK (wT l)) → Mon.Ways b rows wd s t l → Q (.ref d) H'
theorem wT_len {l : List (Nat × List Nat)} : (wT l).length = l.length := by rw [wT, List.length_map]
theorem wT_none : ∀ {l : List (Nat × List Nat)} {t : Nat}, t ∉ Mon.nums l → valV (wT l) (ik t) = none
  | [], _, _ => rfl
  | p :: r, t, h => by
    have hy : ¬ ik p.1 = ik t := fun z => h (by rw [← ik_inj z]; exact List.mem_cons_self)
    rw [wT, List.map_cons, valV_neg (p := (ik p.1, wv p.2)) hy]
    exact wT_none fun z => h (List.mem_cons_of_mem _ z)
theorem wT_some : ∀ {l : List (Nat × List Nat)} {p : Nat × List Nat}, (Mon.nums l).Nodup → p ∈ l → valV (wT l) (ik p.1) = some (wv p.2)
  | [], _, _, h => by cases h
  | q :: r, p, nd, h => by
    obtain ⟨h1, h2⟩ := List.nodup_cons.mp nd
    rcases List.mem_cons.mp h with rfl | h
    · rw [wT, List.map_cons, valV_pos (p := (ik p.1, wv p.2)) rfl]
    · have hy : ¬ ik q.1 = ik p.1 := fun z => h1 (show q.1 ∈ Mon.nums r by rw [ik_inj z]; exact List.mem_map_of_mem (f := (·.1)) h)
      rw [wT, List.map_cons, valV_neg (p := (ik q.1, wv q.2)) hy]
      exact wT_some h2 h
theorem wT_put {l : List (Nat × List Nat)} {t : Nat} {x : List Nat} (h : t ∉ Mon.nums l) : putK (wT l) (ik t) (wv x) = wT (l ++ [(t, x)]) := by
  rw [putK_new _ (wT_none h), wT, wT, List.map_append]
  rfl
theorem scWays : FnScope NY ["table", "one", "is_front", "last"] (defScope s_least_ways) := ⟨rfl, rfl, rfl, by decide +kernel, rfl, by decide +kernel, by decide +kernel⟩
theorem ok_ways {f : Addr} {fd : FuncData} {q : Str} {dv : List V} (F : FunD K "least_ways" q (defArgs s_least_ways) (defBody s_least_ways) (defScope s_least_ways) dv [] f fd) {t : Tok} (gS : mg "SIGNS" = some (.str ("abcdefghijklmnopqrst" : Str) t)) (zl : mg "list" = none) (zr : mg "range" = none) (zn : mg "len" = none) :
    FnOk P w K mg base CX0 1 f fd ["table", "one", "is_front", "last"] (spWays K) := by
  refine F.ok scWays (fun vs H Q E h => ?_) (fun cdv A outer s H vs Q E hr h => ?_)
  · obtain ⟨tb, rows, wd, s, b, t, rfl, _⟩ := h
    rfl
  · obtain ⟨tb, rows, wd, s0, b, t0, rfl, R, FO, hs, k⟩ := h
    have hu : (A.deeper (envOfC q (defScope s_least_ways) s.heap.objs.size f cdv)).units + 1 < cLine := by have := hr.units; omega
    refine ⟨_, PSs.nox (pss_cons (ps_set (i := 4) scWays.nd rfl (.inl rfl) (pe_disp (pps_cons (pv 1) pe_str pps_nil) (by rfl) (by rfl) (fun z => by cases z) (by decide)))
      (pss_cons (ps_set (i := 5) scWays.nd rfl (.inr rfl) (pe_lst (pa_cons (pv 1) pa_nil)))
      (pss_cons (ps_set (i := 6) scWays.nd rfl (.inr rfl) (pe_listRg rfl rfl zl (prg_1 rfl zr (pe_callB call_len_seq rfl zn boot_len (pa_cons (pe_ix ix_tup (pv 0) pe_int (fun _ _ => rfl)) pa_nil)))))
      (pss_cons (ps_while PassesOwn.never (PW.pt (pw_and (pt_truth (pv 5) (by intro _; rfl)) (pw_and1 (pt_cmp (pc_dnotin hu (pv 3) (pv 4)) (by rfl)))))
        (pss_cons (ps_if (pt_val (pv 2))
          (pss_one (ps_setLc2 (i := 9) (own := [("letter", 7), ("number", 8)]) (vs1 := [8]) (g := gName 7) (g1 := gName 8) (wi1 := iList K (tVar 5)) (te := tePr) rfl scWays.nd rfl rfl (by rfl) (pi_list (pv 6)) (blkOk_by (own := [("letter", 7), ("number", 8)]) (N := NY) (sc := defScope s_least_ways) (by decide +kernel)) (by decide) (fun _ _ _ _ _ => pg_name (i := 7) scWays.nd rfl (Or.inl rfl)) (fun _ _ _ _ _ => pts_nil)
            (fun _ _ _ _ _ => by exact pi_list (pv 5)) (fun _ _ _ _ _ => pg_name (i := 8) scWays.nd rfl (Or.inl rfl)) (fun _ _ _ _ _ => pts_nil) (fun _ _ _ _ _ => by exact pe_tup (pa_cons (pv 8) (pa_cons (pv 7) pa_nil)))))
          (pss_one (ps_setLc2 (i := 9) (own := [("number", 8), ("letter", 7)]) (vs1 := [7]) (g := gName 8) (g1 := gName 7) (wi1 := iList K (tVar 6)) (te := tePr) rfl scWays.nd rfl rfl (by rfl) (pi_list (pv 5)) (blkOk_by (own := [("number", 8), ("letter", 7)]) (N := NY) (sc := defScope s_least_ways) (by decide +kernel)) (by decide) (fun _ _ _ _ _ => pg_name (i := 8) scWays.nd rfl (Or.inl rfl)) (fun _ _ _ _ _ => pts_nil)
            (fun _ _ _ _ _ => by exact pi_list (pv 6)) (fun _ _ _ _ _ => pg_name (i := 7) scWays.nd rfl (Or.inl rfl)) (fun _ _ _ _ _ => pts_nil) (fun _ _ _ _ _ => by exact pe_tup (pa_cons (pv 8) (pa_cons (pv 7) pa_nil))))))
        (pss_cons (ps_set (i := 5) scWays.nd rfl (.inr rfl) (pe_lst pa_nil))
        (pss_one (ps_for PassesOwn.never rfl (pi_list (pv 9)) (pg_tup rfl (pgs_cons (pg_name (i := 8) scWays.nd rfl (.inl rfl)) (pgs_cons (pg_name (i := 7) scWays.nd rfl (.inl rfl)) pgs_nil)))
          (pss_cons (ps_set (i := 10) scWays.nd rfl (.inl rfl) (pe_ix ix_tup (pe_ix ix_tup (pv 0) (pv 8) (fun _ _ => rfl)) (pv 7) (fun _ _ => rfl)))
          (pss_one (ps_if (pt_cmp (pc_dnotin hu (pv 10) (pv 4)) (by rfl))
            (pss_cons (ps_set (i := 11) scWays.nd rfl (.inl rfl) (pe_ix ix_str (pe_gstr rfl gS) (pv 7) (fun _ _ => rfl)))
            (pss_cons (ps_dput hu (pv 4) (pv 10) (pe_ifExp (pt_val (pv 2)) (pe_op op_add_str (pv 11) (pe_dget hu (pv 4) (pv 8) (fun _ _ => rfl))) (pe_op op_add_str (pe_dget hu (pv 4) (pv 8) (fun _ _ => rfl)) (pv 11))) rfl)
            (pss_one (ps_expr (pe_bm PySem.F.plainAttrs_list PySem.F.slot_list_append PySem.F.type_list_append mt_append (pv 5) (pa_cons (pv 10) pa_nil)))))) pss_nil))))))))
      (pss_one (ps_ret (pv 4))))))), ?_⟩
    obtain ⟨as, sr, la, srow⟩ := R.ex
    have f5 := FO.2.2.2.2
    have n2 := FO.2.1
    obtain ⟨a0, ha0⟩ := lt_get (show 0 < as.length by omega)
    obtain ⟨row0, hrow0⟩ := lt_get (show 0 < rows.length by omega)
    have w0 := (f5 row0 (List.mem_of_getElem? hrow0)).1
    refine fun d nd => ⟨_, rfl, upd_same, [(ik s0, .str ("" : Str))], rfl, (by show 1 ≤ 15; decide), ?_⟩
    rw [L2.upd_upd]
    have s1 := same_upd (o := .dK (mergeK [] [(ik s0, V.str ("" : Str))])) nd
    have hd1 : L2.upd H d (.dK (mergeK [] [(ik s0, V.str ("" : Str))])) d = some (.dK (wT [(s0, [])])) := upd_same
    generalize L2.upd H d (.dK (mergeK [] [(ik s0, V.str ("" : Str))])) = H1 at s1 hd1 ⊢
    refine ⟨_, rfl, (by show 1 ≤ sizeLine; decide), fun lv nlv => ?_⟩
    have u2 := same_upd (o := .lst [V.int (s0 : Nat)]) nlv
    have s2 := s1.trans u2
    have hd2 := u2 _ _ hd1
    have hlv2 : L2.upd H1 lv (.lst [V.int (s0 : Nat)]) lv = some (.lst ((Mon.nums [(s0, ([] : List Nat))]).map nv)) := upd_same
    generalize L2.upd H1 lv (.lst [V.int (s0 : Nat)]) = H2 at s2 hd2 hlv2 ⊢
    refine ⟨_, rfl, tb, as.map V.ref, 0, .ref a0, rfl, rfl, Lf.SqT.same s2 sr, atI_nat (j := 0) (get_map ha0), a0, row0.map nv, rfl, .inr (Lf.SqT.same s2 (srow 0 a0 row0 ha0 hrow0)), ((wd : Nat) : Int), by rw [List.length_map, w0], ?_⟩
    have w6 := FO.2.2.2.1
    refine ⟨⟨by decide, by decide, by omega, by omega, by omega⟩, fun lt nlt => ?_⟩
    rw [rgV_nv]
    have u3 := same_upd (o := .lst ((Mon.idm wd).map nv)) nlt
    have s3 := s2.trans u3
    have hd3 := u3 _ _ hd2
    have hlv3 := u3 _ _ hlv2
    have hlt3 : L2.upd H2 lt (.lst ((Mon.idm wd).map nv)) lt = some (.lst ((List.range wd).map nv)) := upd_same
    generalize L2.upd H2 lt (.lst ((Mon.idm wd).map nv)) = H3 at s3 hd3 hlv3 hlt3 ⊢
    have nd0 := nd
    have nlt0 := nil_of s2 nlt
    have nlv0 := nil_of s1 nlv
    clear u2 u3 s1 s2 hd1 hd2 hlv2 nlt nlv
    have nlvd : lv ≠ d := fun z => by rw [z, hd3] at hlv3; cases hlv3
    have nltd : lt ≠ d := fun z => by rw [z, hd3] at hlt3; cases hlt3
    refine ⟨fun i σ Hn => ∃ (v7 v8 v9 v10 v11 : Option V) (lv : Addr) (kk : Nat) (Kn L : List (Nat × List Nat)), σ = [some (.ref tb), some (.int (s0 : Nat)), some (.bl b), some (.int (t0 : Nat)), some (.ref d), some (.ref lv), some (.ref lt), v7, v8, v9, v10, v11] ∧ Same H Hn ∧ Hn d = some (.dK (wT Kn)) ∧ Hn lv = some (.lst ((Mon.nums L).map nv)) ∧ Hn lt = some (.lst ((List.range wd).map nv)) ∧
        Mon.Lev wd (Mon.actB b rows s0) kk Kn L ∧ (Mon.nums Kn).Nodup ∧ (∀ p ∈ Kn, p.1 < rows.length) ∧ kk ≤ Kn.length ∧ (L ≠ [] → kk + 1 ≤ Kn.length) ∧ i = 2 * (rows.length - Kn.length) + (if L = [] then 0 else 1),
      ⟨_, none, none, none, none, none, lv, 0, _, _, rfl, s3, hd3, hlv3, hlt3, Mon.Lev.zero Mon.actB_nil, (by simp), (fun p hp => by rw [List.mem_singleton.mp hp]; exact hs), (by simp), (fun _ => by simp), rfl⟩, ?_⟩
    rintro i σ Hn ⟨v7, v8, v9, v10, v11, lv, kk, Kn, L, rfl, sn, hdn, hlvn, hltn, LV, ndK, ltK, kl, kl2, im⟩
    refine ⟨_, rfl, !L.isEmpty, ?_, ?_⟩
    · exact .inl ⟨_, SqL.of hlvn, by cases L <;> rfl⟩
    by_cases L0 : L = []
    · subst L0
      refine ifF rfl ?_
      refine ⟨_, rfl, k d Kn Hn sn hdn ⟨fun p hp => (LV.fst p hp).1, ndK, (fun p hp => by have := (LV.fst p hp).2; have := (lev_few LV ndK ltK).1; have := lev_short LV kl kl2 hp; omega), ?_⟩⟩
      by_cases ht : t0 ∈ Mon.nums Kn
      · exact .inl ht
      · exact .inr fun v hv e => ht (e ▸ Mon.Lev.all (wd := wd) Mon.wyB Mon.actB_ext LV v.length v (Nat.le_refl _) hv)
    · have eL : (!L.isEmpty) = true := by cases L <;> simp_all
      refine ifT eL ?_
      refine ⟨_, rfl, _, rfl, d, valV (wT Kn) (ik t0), rfl, DGet.k (k := ik t0) hdn, ?_⟩
      by_cases ht : t0 ∈ Mon.nums Kn
      · obtain ⟨p, hp, ep⟩ := List.mem_map.mp ht
        have e := wT_some ndK hp
        rw [show p.1 = t0 from ep] at e
        rw [e]
        refine ⟨_, rfl, ifF rfl ?_⟩
        exact ⟨_, rfl, k d Kn Hn sn hdn ⟨fun p hp => (LV.fst p hp).1, ndK, (fun p hp => by have := (LV.fst p hp).2; have := (lev_few LV ndK ltK).1; have := lev_short LV kl kl2 hp; omega), .inl ht⟩⟩
      · rw [wT_none ht]
        refine ⟨_, rfl, ifT rfl ?_⟩
        refine ⟨fun σ' H' => ∃ i', i' < i ∧ ∃ (v7 v8 v9 v10 v11 : Option V) (lv : Addr) (kk : Nat) (Kn L : List (Nat × List Nat)), σ' = [some (.ref tb), some (.int (s0 : Nat)), some (.bl b), some (.int (t0 : Nat)), some (.ref d), some (.ref lv), some (.ref lt), v7, v8, v9, v10, v11] ∧ Same H H' ∧ H' d = some (.dK (wT Kn)) ∧ H' lv = some (.lst ((Mon.nums L).map nv)) ∧ H' lt = some (.lst ((List.range wd).map nv)) ∧
          Mon.Lev wd (Mon.actB b rows s0) kk Kn L ∧ (Mon.nums Kn).Nodup ∧ (∀ p ∈ Kn, p.1 < rows.length) ∧ kk ≤ Kn.length ∧ (L ≠ [] → kk + 1 ≤ Kn.length) ∧ i' = 2 * (rows.length - Kn.length) + (if L = [] then 0 else 1), fun σ' H' z => z, ?_⟩
        obtain ⟨Kf, Lf'⟩ := lev_few LV ndK ltK
        have Lsm : L.length ≤ 2000 := by omega
        refine tSeq_k ?_
        refine tIfS_k (R := fun σ' H' => ∃ (st : Addr) (v7 v8 : Option V), σ' = [some (.ref tb), some (.int (s0 : Nat)), some (.bl b), some (.int (t0 : Nat)), some (.ref d), some (.ref lv), some (.ref lt), v7, v8, some (.ref st), v10, v11] ∧ Same Hn H' ∧ Acc H' st (Mon.stepsB b wd L)) (fun key => ?_) (fun σ' H' ⟨st, v7, v8, eσ, sc, AC⟩ => ?_)
        · refine ⟨_, rfl, b, rfl, ?_⟩
          cases b
          · refine ifF rfl ?_
            refine ⟨_, rfl, lv, rfl, ⟨_, SqL.of hlvn⟩, fun D nD => ?_⟩
            refine lc2_lists (K := K) (a := lv) (b := lt) (xs := (Mon.nums L).map nv) (ys := (List.range wd).map nv) (gi := 8) (gj := 7) (tk := 6) (fun i j Hc => But D Hn Hc ∧ Acc Hc D (seen L (List.range wd) (fun p c => (p, c)) i j)) ⟨But.upd, by rw [seen_0]; exact ⟨[], upd_same, rfl, fun j a q h => by simp at h⟩⟩
              (fun i j Hc ⟨bc, _⟩ => ⟨SqL.of ((Same.but (L2.Same.refl _) nD bc) _ _ hlvn), SqL.of ((Same.but (L2.Same.refl _) nD bc) _ _ hltn)⟩) (fun i Hc hi ⟨bc, ac⟩ => ?_) (fun _ => rfl) (fun _ => rfl) (fun _ _ => rfl) (fun i j x y Hc hx hy ⟨bc, ac⟩ => ?_) (fun Hc ⟨bc, ac⟩ => ?_)
            · rw [List.length_map, List.length_range] at ac
              rw [List.length_map, Mon.nums, List.length_map] at hi
              have e := seen_row (XS := L) (YS := List.range wd) (mk := fun p c => (p, c)) hi
              rw [List.length_range] at e
              exact ⟨bc, e ▸ ac⟩
            · obtain ⟨n', hn', rfl⟩ := map_get hx
              obtain ⟨p, hp, rfl⟩ := map_get hn'
              obtain ⟨c, hc, rfl⟩ := map_get hy
              refine ⟨_, rfl, _, rfl, (by show 2 ≤ sizeLine; decide), fun t nt => ?_⟩
              have u := same_upd (o := .tup [nv p.1, nv c]) nt
              obtain ⟨prs, a1, a2, a3⟩ := (ac.same u).ex
              refine ⟨_, a1, ?_, bc.trans ((But.of u).trans But.upd), ?_⟩
              · have := seen_len (XS := L) (YS := List.range wd) (mk := fun p c => (p, c)) (i := i) (j := j)
                rw [List.length_range] at this
                have h2 : (L.length + 1) * wd ≤ 2001 * 6 := Nat.mul_le_mul (by omega) w6
                rw [List.length_map]
                show prs.length < 16777216
                omega
              · rw [seen_step hp hc]
                exact (ac.same u).add a1 upd_same
            · rw [List.length_map, Mon.nums, List.length_map, seen_all] at ac
              exact key _ Hc ⟨D, _, _, rfl, Same.but (L2.Same.refl _) nD bc, by simpa [Mon.stepsB] using ac⟩
          · refine ifT rfl ?_
            refine ⟨_, rfl, lt, rfl, ⟨_, SqL.of hltn⟩, fun D nD => ?_⟩
            refine lc2_lists (K := K) (a := lt) (b := lv) (xs := (List.range wd).map nv) (ys := (Mon.nums L).map nv) (gi := 7) (gj := 8) (tk := 5) (fun i j Hc => But D Hn Hc ∧ Acc Hc D (seen (List.range wd) L (fun c p => (p, c)) i j)) ⟨But.upd, by rw [seen_0]; exact ⟨[], upd_same, rfl, fun j a q h => by simp at h⟩⟩
              (fun i j Hc ⟨bc, _⟩ => ⟨SqL.of ((Same.but (L2.Same.refl _) nD bc) _ _ hltn), SqL.of ((Same.but (L2.Same.refl _) nD bc) _ _ hlvn)⟩) (fun i Hc hi ⟨bc, ac⟩ => ?_) (fun _ => rfl) (fun _ => rfl) (fun _ _ => rfl) (fun i j x y Hc hx hy ⟨bc, ac⟩ => ?_) (fun Hc ⟨bc, ac⟩ => ?_)
            · rw [List.length_map, Mon.nums, List.length_map] at ac
              rw [List.length_map] at hi
              exact ⟨bc, seen_row (XS := List.range wd) (YS := L) (mk := fun c p => (p, c)) hi ▸ ac⟩
            · obtain ⟨c, hc, rfl⟩ := map_get hx
              obtain ⟨n', hn', rfl⟩ := map_get hy
              obtain ⟨p, hp, rfl⟩ := map_get hn'
              refine ⟨_, rfl, _, rfl, (by show 2 ≤ sizeLine; decide), fun t nt => ?_⟩
              have u := same_upd (o := .tup [nv p.1, nv c]) nt
              obtain ⟨prs, a1, a2, a3⟩ := (ac.same u).ex
              refine ⟨_, a1, ?_, bc.trans ((But.of u).trans But.upd), ?_⟩
              · have := seen_len (XS := List.range wd) (YS := L) (mk := fun c p => (p, c)) (i := i) (j := j)
                rw [List.length_range] at this
                have h2 : (wd + 1) * L.length ≤ 7 * 2000 := Nat.mul_le_mul (by omega) Lsm
                rw [List.length_map]
                show prs.length < 16777216
                omega
              · rw [seen_step hc hp]
                exact (ac.same u).add a1 upd_same
            · rw [List.length_map, seen_all] at ac
              exact key _ Hc ⟨D, _, _, rfl, Same.but (L2.Same.refl _) nD bc, by simpa [Mon.stepsB] using ac⟩
        · subst eσ
          have sH := sn.trans sc
          have hdn' := sc _ _ hdn
          have hltn' := sc _ _ hltn
          refine ⟨(by show 0 ≤ sizeLine; decide), fun lw nlw => ?_⟩
          have u1 := same_upd (o := .lst []) nlw
          have nlw0 := nil_of sH nlw
          have nls0 : lw ≠ st := fun z => by
            obtain ⟨_, e, _⟩ := AC.ex
            rw [← z, nlw] at e
            cases e
          have nll0 : lw ≠ lt := fun z => by rw [← z, nlw] at hltn'; cases hltn'
          have hlw1 : L2.upd H' lw (.lst []) lw = some (.lst ((Mon.nums ([] : List (Nat × List Nat))).map nv)) := upd_same
          have sH1 := sH.trans u1
          have hd1 := u1 _ _ hdn'
          have hlt1 := u1 _ _ hltn'
          have AC1 := AC.same u1
          generalize L2.upd H' lw (.lst []) = H1 at sH1 hd1 hlt1 hlw1 AC1 ⊢
          have nlwd : lw ≠ d := fun z => by rw [z, hd1] at hlw1; cases hlw1
          clear u1 nlw hdn' hltn' sH AC sc hlvn hdn hltn sn
          obtain ⟨prs, hst, lprs, eprs⟩ := id AC1.ex
          have nstd : st ≠ d := fun z => by rw [z, hd1] at hst; cases hst
          have MID := Mon.midB (b := b) (rows := rows) LV
          refine ⟨_, rfl, st, rfl, ⟨_, SqL.of hst⟩, for_list (K := K) (a := st) (xs := prs.map V.ref) (fun i σ Hc => ∃ (v7 v8 v10 v11 : Option V) (N : List (Nat × List Nat)), σ = [some (.ref tb), some (.int (s0 : Nat)), some (.bl b), some (.int (t0 : Nat)), some (.ref d), some (.ref lw), some (.ref lt), v7, v8, some (.ref st), v10, v11] ∧ Same H Hc ∧ Hc d = some (.dK (wT (Kn ++ N))) ∧ Hc lw = some (.lst ((Mon.nums N).map nv)) ∧ Hc lt = some (.lst ((List.range wd).map nv)) ∧ Hc st = some (.lst (prs.map V.ref)) ∧ (∀ (j : Nat) a q, prs[j]? = some a → (Mon.stepsB b wd L)[j]? = some q → Hc a = some (.tup [nv q.1.1, nv q.2])) ∧ lw ≠ st ∧ lw ≠ lt ∧
              Mon.New wd (Mon.actB b rows s0) kk Kn ((Mon.stepsB b wd L).map (Mon.candB b rows)) i N ∧ (Mon.nums (Kn ++ N)).Nodup ∧ ∀ p ∈ Kn ++ N, p.1 < rows.length)
            ⟨v7, v8, v10, v11, [], rfl, sH1, by rw [List.append_nil]; exact hd1, hlw1, hlt1, hst, eprs, nls0, nll0, Mon.New.zero, by rw [List.append_nil]; exact ndK, by rw [List.append_nil]; exact ltK⟩ (fun i σ Hc _ ⟨_, _, _, _, _, _, _, _, _, _, h, _⟩ => SqL.of h) (fun i x σ Hc hx ⟨v7, v8, v10, v11, N, eσ, sc, hdc, hlwc, hltc, hstc, ec, nls, nll, NW, ndN, ltN⟩ => ?_) (fun σ Hc ⟨v7, v8, v10, v11, N, eσ, sc, hdc, hlwc, hltc, hstc, ec, nls, nll, NW, ndN, ltN⟩ => ?_)⟩
          · subst eσ
            obtain ⟨a, ha, rfl⟩ := map_get hx
            obtain ⟨q, hq⟩ := lt_get (show i < (Mon.stepsB b wd L).length by have := get_lt ha; omega)
            obtain ⟨qL, qw⟩ := Mon.mem_steps.mp (List.mem_of_getElem? hq)
            have qK := ((LV.lev q.1).mp qL)
            have q1 := ltK q.1 qK.1
            obtain ⟨ar, har⟩ := lt_get (show q.1.1 < as.length by omega)
            obtain ⟨row, hrow⟩ := lt_get q1
            obtain ⟨l1, l2⟩ := f5 row (List.mem_of_getElem? hrow)
            obtain ⟨tt, htt⟩ := lt_get (show q.2 < row.length by omega)
            have est : Mon.stp rows q.1.1 q.2 = tt := by
              unfold Mon.stp
              rw [Mon.getD_of hrow, Mon.getD_of htt]
            have hcq : ((Mon.stepsB b wd L).map (Mon.candB b rows))[i]? = some (tt, Mon.extB b q.2 q.1.2) := by
              rw [List.getElem?_map, hq, ← est]
              rfl
            refine ⟨a, _, rfl, SqT.of (ec i a q ha hq), rfl, _, _, rfl, _, _, rfl, rfl, ?_⟩
            refine ⟨_, rfl, _, rfl, tb, as.map V.ref, _, .ref ar, rfl, rfl, Lf.SqT.same sc sr, atI_nat (get_map har), _, rfl, ar, row.map nv, _, nv tt, rfl, rfl, Lf.SqT.same sc (srow _ ar row har hrow), atI_nat (get_map htt), ?_⟩
            refine ⟨_, rfl, _, rfl, d, valV (wT (Kn ++ N)) (ik tt), rfl, DGet.k (k := ik tt) hdc, ?_⟩
            by_cases hin : tt ∈ Mon.nums (Kn ++ N)
            · obtain ⟨p, hp, ep⟩ := List.mem_map.mp hin
              have e := wT_some ndN hp
              rw [show p.1 = tt from ep] at e
              rw [e]
              refine ⟨_, rfl, ifF rfl ?_⟩
              exact ⟨_, _, _, _, N, rfl, sc, hdc, hlwc, hltc, hstc, ec, nls, nll, NW.old hcq hin, ndN, ltN⟩
            · rw [wT_none hin]
              refine ⟨_, rfl, ifT rfl ?_⟩
              have NW' := Mon.Mid.new MID NW hcq hin
              have c6 : q.2 < 6 := by omega
              have xl : q.1.2.length ≤ 2000 := by have := qK.2; omega
              have hget := wT_some ndN (List.mem_append_left N qK.1)
              have Nl : N.length ≤ 12000 := by
                have := NW.sub.length_le
                rw [List.length_take, List.length_map] at this
                rw [steps_len] at this
                have h2 : L.length * wd ≤ 2000 * 6 := Nat.mul_le_mul Lsm w6
                omega
              have Kl : (Kn ++ N).length ≤ 14000 := by rw [List.length_append]; omega
              refine ⟨_, rfl, ("abcdefghijklmnopqrst" : Str), _, 97 + q.2, rfl, rfl, by decide, sign_of c6, ?_⟩
              have hd2 : ∀ x', L2.upd Hc d (.dK (wT ((Kn ++ N) ++ [(tt, x')]))) d = some (.dK (wT ((Kn ++ N) ++ [(tt, x')]))) := fun _ => upd_same
              have tail : ∀ x', x' = Mon.extB b q.2 q.1.2 → ∃ N', Hc lw = some (.lst ((Mon.nums N).map nv)) ∧ ((Mon.nums N).map nv).length < 16777216 ∧ (Kn ++ N) ++ [(tt, x')] = Kn ++ N' ∧ (Mon.nums N).map nv ++ [nv tt] = (Mon.nums N').map nv ∧
                  Mon.New wd (Mon.actB b rows s0) kk Kn ((Mon.stepsB b wd L).map (Mon.candB b rows)) (i + 1) N' ∧ (Mon.nums (Kn ++ N')).Nodup ∧ ∀ p ∈ Kn ++ N', p.1 < rows.length := fun x' ex => by
                subst ex
                refine ⟨N ++ [(tt, Mon.extB b q.2 q.1.2)], hlwc, ?_, by rw [List.append_assoc], by simp, NW', ?_, fun p hp => ?_⟩
                · rw [List.length_map, Mon.nums, List.length_map]
                  show N.length < 16777216
                  omega
                · rw [← List.append_assoc, Mon.nums, List.map_append, List.nodup_append]
                  exact ⟨ndN, by simp, fun x hx y hy e => hin (by rw [List.mem_singleton.mp hy] at e; rw [show x = tt from e] at hx; exact hx)⟩
                · rw [← List.append_assoc] at hp
                  rcases List.mem_append.mp hp with hp | hp
                  · exact ltN p hp
                  · rw [List.mem_singleton.mp hp]
                    exact l2 tt (List.mem_of_getElem? htt)
              have zl : (wT (Kn ++ N)).length < sizeLine := by rw [wT_len]; show _ < 16777216; omega
              refine ⟨_, rfl, b, rfl, ?_⟩
              cases b
              case' false =>
                refine ifF rfl ?_
                refine ⟨_, rfl, _, rfl, d, wv q.1.2, rfl, (by have z := DGet.k (k := ik q.1.1) hdc; rw [hget] at z; exact z), _, rfl, ws q.1.2, ⟨#[97 + q.2]⟩, rfl, rfl, (by rw [ws_len]; show q.1.2.length + 1 ≤ 16777216; omega), ?_⟩
                rw [ws_app]
                obtain ⟨N', t1, t2, t3, t4, t5, t6, t7⟩ := tail (q.1.2 ++ [q.2]) rfl
                generalize q.1.2 ++ [q.2] = x' at t3 ⊢
              case' true =>
                refine ifT rfl ?_
                refine ⟨_, rfl, _, rfl, _, rfl, d, wv q.1.2, rfl, (by have z := DGet.k (k := ik q.1.1) hdc; rw [hget] at z; exact z), ⟨#[97 + q.2]⟩, ws q.1.2, rfl, rfl, (by rw [ws_len]; show 1 + q.1.2.length ≤ 16777216; omega), ?_⟩
                rw [ws_cons]
                obtain ⟨N', t1, t2, t3, t4, t5, t6, t7⟩ := tail (q.2 :: q.1.2) rfl
                generalize q.2 :: q.1.2 = x' at t3 ⊢
              all_goals
                refine ⟨_, rfl, _, rfl, d, _, rfl, DPut.k (k := ik tt) hdc zl, ?_⟩
                rw [wT_put hin, t3]
                have sc2 : Same H (L2.upd Hc d (.dK (wT (Kn ++ N')))) := fun b o e => by
                  rw [upd_ne (ne_of_none e nd0)]
                  exact sc b o e
                have hlw2 : L2.upd Hc d (.dK (wT (Kn ++ N'))) lw = some (.lst ((Mon.nums N).map nv)) := by rw [upd_ne nlwd]; exact t1
                refine ⟨_, rfl, .inl ⟨rfl, _, SqL.of hlw2⟩, _, rfl, lw, _, _, rfl, rfl, hlw2, t2, ?_⟩
                rw [t4]
                refine ⟨_, _, _, _, N', rfl, fun b o e => ?_, ?_, upd_same, ?_, ?_, fun j a' r h1 h2 => ?_, nls, nll, t5, t6, t7⟩
                · rw [upd_ne (ne_of_none e nlw0)]
                  exact sc2 b o e
                · rw [upd_ne nlwd.symm]
                  exact upd_same
                · rw [upd_ne nll.symm, upd_ne nltd]
                  exact hltc
                · rw [upd_ne nls.symm, upd_ne nstd]
                  exact hstc
                · have e0 := ec j a' r h1 h2
                  rw [upd_ne (fun z => by rw [z, hlwc] at e0; cases e0), upd_ne (fun z => by rw [z, hdc] at e0; cases e0)]
                  exact e0
          · subst eσ
            have e1 : prs.length = ((Mon.stepsB b wd L).map (Mon.candB b rows)).length := by rw [List.length_map]; exact lprs
            rw [List.length_map, e1] at NW
            have LV' := Mon.Mid.done MID NW
            obtain ⟨Kf', Lf''⟩ := lev_few LV' ndN ltN
            have kl3 := kl2 L0
            rw [List.length_append] at Kf'
            refine ⟨2 * (rows.length - (Kn ++ N).length) + (if N = [] then 0 else 1), ?_, v7, v8, some (.ref st), v10, v11, lw, kk + 1, Kn ++ N, N, rfl, sc, hdc, hlwc, hltc, LV', ndN, ltN, by rw [List.length_append]; omega, fun hN => ?_, rfl⟩
            · rw [im, if_neg L0, List.length_append]
              by_cases hN : N = []
              · rw [if_pos hN]
                subst hN
                rw [List.length_nil]
                omega
              · rw [if_neg hN]
                have := List.length_pos_iff.mpr hN
                omega
            · have := List.length_pos_iff.mpr hN
              rw [List.length_append]
              omega
end
end K15

set_option Elab.async false
set_option linter.all false
set_option maxRecDepth 100000
set_option maxHeartbeats 8000000
namespace K15
open PySem PySem.Spec PyProof.Rows L2 Lf
/-- the first word, or None -/
def LW (b : Bool) (rows : List (List Nat)) (wd s t : Nat) (v : V) : Prop := (v = .non ∧ ∀ x : List Nat, (∀ d ∈ x, d < wd) → Mon.actB b rows s x ≠ t) ∨ ∃ x, v = wv x ∧ (x.length ≤ 2000 ∧ x.length < rows.length) ∧ Mon.First wd (Mon.actB b rows s) t x
theorem lw_of {b : Bool} {rows : List (List Nat)} {wd s t : Nat} {l : List (Nat × List Nat)} (h : Mon.Ways b rows wd s t l) : LW b rows wd s t ((valV (wT l) (ik t)).getD .non) := by
  by_cases hi : t ∈ Mon.nums l
  · obtain ⟨p, hp, ep⟩ := List.mem_map.mp hi
    have e := wT_some h.nd hp
    have F := h.fst p hp
    rw [show p.1 = t from ep] at e F
    rw [e]
    exact .inr ⟨p.2, rfl, h.short p hp, F⟩
  · rw [wT_none hi]
    exact .inl ⟨rfl, h.all.resolve_left hi⟩
def spLR (b : Bool) (K : PySem.W.Frag) : Sp := fun vs H Q _ => ∃ p rows m wd s t, vs = [.ref p, .int (s : Nat), .int (t : Nat)] ∧ Mo K H p rows m ∧ Accept rows wd m ∧ s < rows.length ∧ t < rows.length ∧ ∀ v H', Same H H' → LW b (if b = true then Mon.leftTab rows m else rows) wd s t v → Q v H'
theorem form_left {rows : List (List Nat)} {wd : Nat} {m : List (Nat × Nat)} (A : Accept rows wd m) : Form (Mon.leftTab rows m) wd := by
  have l : (Mon.leftTab rows m).length = rows.length := by rw [Mon.left_len, A.len]
  obtain ⟨f1, f2, f3, f4, f5⟩ := A.form
  refine ⟨by omega, by omega, f3, f4, fun row hr => ?_⟩
  obtain ⟨i, hi⟩ := List.getElem?_of_mem hr
  rw [l]
  exact A.left m.length i row (by rw [List.take_length]; exact hi)
section
variable {P : Program} {w : World} {K : PySem.W.Frag} {mg : Str → Option Value} {base : Heap}
theorem scLR : FnScope ["self", "one", "other"] ["self", "one", "other"] (defScope s_Monoid_least_right) := ⟨rfl, rfl, rfl, by decide +kernel, rfl, by decide +kernel, by decide +kernel⟩
theorem scLL : FnScope ["self", "one", "other"] ["self", "one", "other"] (defScope s_Monoid_least_left) := ⟨rfl, rfl, rfl, by decide +kernel, rfl, by decide +kernel, by decide +kernel⟩
theorem ok_lr {f : Addr} {fd : FuncData} {q : Str} (F : FunD K "least_right" q (defArgs s_Monoid_least_right) (defBody s_Monoid_least_right) (defScope s_Monoid_least_right) [] [] f fd) (T : Txt P w K mg base)
    (DN : DefM P w K mg base CX0 3 "_check_number" ["self", "number"] (spCkN K)) (DW : Def P w K mg base CX0 1 "least_ways" ["table", "one", "is_front", "last"] (spWays K)) :
    FnOk P w K mg base CX0 4 f fd ["self", "one", "other"] (spLR false K) := by
  have cl : L2.Cls K (He.ga K "Monoid") := He.cls_ok (T.d.fact 46 (f := .cls "Monoid") rfl)
  have n1 : NoAttr K (He.ga K "Monoid") "right" := He.noat_ok (T.d.fact 58 (f := .noat "Monoid" "right") rfl)
  obtain ⟨fn', fdn, mn, Fn, bn⟩ := DN.ex
  refine F.ok scLR (fun vs H Q E h => ?_) (fun cdv A outer s H vs Q E hr h => ?_)
  · obtain ⟨p, rows, m, wd, i, j, rfl, _⟩ := h
    rfl
  · obtain ⟨p, rows, m, wd, i, j, rfl, M, AC, hi, hj, k⟩ := h
    have r1 : Room 1 _ := hr.mono (by decide)
    have hu : (A.deeper (envOfC q (defScope s_Monoid_least_right) s.heap.objs.size f cdv)).units + 1 < cLine := by have := hr.units; omega
    obtain ⟨dx, t, u, v, hp, R, MA, LA⟩ := id M.ex
    refine ⟨_, PSs.nox (pss_cons (ps_expr (pe_meth (pv 0) cl mn Fn hr bn .nil pass0 (pa_cons (pv 1) pa_nil)))
      (pss_cons (ps_expr (pe_meth (pv 0) cl mn Fn hr bn .nil pass0 (pa_cons (pv 2) pa_nil)))
      (pss_one (ps_ret (pe_dget1 hu (pe_def DW r1 pass0 rfl (pa_cons (pe_fld (pv 0) rfl) (pa_cons (pv 1) (pa_cons pe_bl (pa_cons (pv 2) pa_nil))))) (pv 2) ⟨by rfl, by rfl, by rfl, by rfl⟩))))), ?_⟩
    refine ⟨_, rfl, p, dx, _, rfl, hp, rfl, _, rfl, p, rows, m, i, rfl, M, hi, ?_⟩
    refine ⟨_, rfl, p, dx, _, rfl, hp, rfl, _, rfl, p, rows, m, j, rfl, M, hj, ?_⟩
    refine ⟨_, rfl, p, _, dx, _, _, rfl, hp, cl, n1, rfl, _, rfl, _, rfl, t, rows, wd, i, false, j, rfl, R, AC.form, hi, fun d l H1 s1 hd W => ?_⟩
    exact ⟨d, rfl, .inl ⟨_, .inl hd⟩, _, rfl, _, DGet.k (k := ik j) hd, k _ H1 s1 (lw_of W)⟩
theorem ok_ll {f : Addr} {fd : FuncData} {q : Str} (F : FunD K "least_left" q (defArgs s_Monoid_least_left) (defBody s_Monoid_least_left) (defScope s_Monoid_least_left) [] [] f fd) (T : Txt P w K mg base)
    (DN : DefM P w K mg base CX0 3 "_check_number" ["self", "number"] (spCkN K)) (DW : Def P w K mg base CX0 1 "least_ways" ["table", "one", "is_front", "last"] (spWays K)) :
    FnOk P w K mg base CX0 4 f fd ["self", "one", "other"] (spLR true K) := by
  have cl : L2.Cls K (He.ga K "Monoid") := He.cls_ok (T.d.fact 46 (f := .cls "Monoid") rfl)
  have n3 : NoAttr K (He.ga K "Monoid") "_left" := He.noat_ok (T.d.fact 60 (f := .noat "Monoid" "_left") rfl)
  obtain ⟨fn', fdn, mn, Fn, bn⟩ := DN.ex
  refine F.ok scLL (fun vs H Q E h => ?_) (fun cdv A outer s H vs Q E hr h => ?_)
  · obtain ⟨p, rows, m, wd, i, j, rfl, _⟩ := h
    rfl
  · obtain ⟨p, rows, m, wd, i, j, rfl, M, AC, hi, hj, k⟩ := h
    have r1 : Room 1 _ := hr.mono (by decide)
    have hu : (A.deeper (envOfC q (defScope s_Monoid_least_left) s.heap.objs.size f cdv)).units + 1 < cLine := by have := hr.units; omega
    obtain ⟨dx, t, u, v, hp, R, MA, LA⟩ := id M.ex
    have ll : (Mon.leftTab rows m).length = rows.length := by rw [Mon.left_len, AC.len]
    refine ⟨_, PSs.nox (pss_cons (ps_expr (pe_meth (pv 0) cl mn Fn hr bn .nil pass0 (pa_cons (pv 1) pa_nil)))
      (pss_cons (ps_expr (pe_meth (pv 0) cl mn Fn hr bn .nil pass0 (pa_cons (pv 2) pa_nil)))
      (pss_one (ps_ret (pe_dget1 hu (pe_def DW r1 pass0 rfl (pa_cons (pe_fld (pv 0) rfl) (pa_cons (pv 1) (pa_cons pe_bl (pa_cons (pv 2) pa_nil))))) (pv 2) ⟨by rfl, by rfl, by rfl, by rfl⟩))))), ?_⟩
    refine ⟨_, rfl, p, dx, _, rfl, hp, rfl, _, rfl, p, rows, m, i, rfl, M, hi, ?_⟩
    refine ⟨_, rfl, p, dx, _, rfl, hp, rfl, _, rfl, p, rows, m, j, rfl, M, hj, ?_⟩
    refine ⟨_, rfl, p, _, dx, _, _, rfl, hp, cl, n3, rfl, _, rfl, _, rfl, v, Mon.leftTab rows m, wd, i, true, j, rfl, LA, form_left AC, by omega, fun d l H1 s1 hd W => ?_⟩
    exact ⟨d, rfl, .inl ⟨_, .inl hd⟩, _, rfl, _, DGet.k (k := ik j) hd, k _ H1 s1 (lw_of W)⟩
end
end K15

set_option Elab.async false
set_option linter.all false
set_option maxRecDepth 100000
set_option maxHeartbeats 4000000
/-! All words in their order, and the first of them that lead somewhere. -/
namespace K15
open PySem PySem.Spec PyProof.Rows L2 Lf
def wlt (a b : List Nat) : Prop := a.length < b.length ∨ a.length = b.length ∧ Mon.llt a b
theorem lvl_srt {wd : Nat} : ∀ k, (lvl wd k).Pairwise Mon.llt
  | 0 => by simp [lvl]
  | k + 1 => by
    refine Mon.pw_flat (fun u _ => ?_) ((lvl_srt k).imp fun {u v} h x hx y hy => ?_)
    · rw [List.pairwise_map]
      exact List.pairwise_lt_range.imp fun {c d} h => Mon.llt_snoc h
    · obtain ⟨c, _, rfl⟩ := List.mem_map.mp hx
      obtain ⟨d, _, rfl⟩ := List.mem_map.mp hy
      exact Mon.llt_app h
theorem upW_word {wd : Nat} : ∀ {k : Nat} {w : List Nat}, w ∈ upW wd k → w.length ≤ k ∧ ∀ c ∈ w, c < wd
  | 0, w, h => by
    obtain ⟨a, b⟩ := lvl_word h
    exact ⟨by omega, b⟩
  | k + 1, w, h => by
    rcases List.mem_append.mp h with h | h
    · obtain ⟨a, b⟩ := upW_word h
      exact ⟨by omega, b⟩
    · obtain ⟨a, b⟩ := lvl_word h
      exact ⟨by omega, b⟩
theorem upW_srt {wd : Nat} : ∀ k, (upW wd k).Pairwise wlt
  | 0 => by simp [upW, lvl]
  | k + 1 => by
    rw [upW, List.pairwise_append]
    refine ⟨upW_srt k, (lvl_srt (k + 1)).imp_of_mem fun {a b} ha hb h => .inr ⟨by rw [(lvl_word ha).1, (lvl_word hb).1], h⟩, fun a ha b hb => .inl ?_⟩
    have := (upW_word ha).1
    have := (lvl_word hb).1
    omega
theorem lvl_all {wd : Nat} : ∀ (k : Nat) (w : List Nat), w.length = k → (∀ c ∈ w, c < wd) → w ∈ lvl wd k
  | 0, w, h, _ => by
    rw [List.length_eq_zero_iff.mp h]
    simp [lvl]
  | k + 1, w, h, hw => by
    obtain ⟨c, u, rfl, hc, hu⟩ := (Mon.wy_back (wd := wd)).split w (fun e => by rw [e] at h; simp at h) hw
    exact List.mem_flatMap.mpr ⟨u, lvl_all k u (by simpa using h) hu, List.mem_map.mpr ⟨c, List.mem_range.mpr hc, rfl⟩⟩
theorem upW_all {wd : Nat} : ∀ (k : Nat) (w : List Nat), w.length ≤ k → (∀ c ∈ w, c < wd) → w ∈ upW wd k
  | 0, w, h, hw => lvl_all 0 w (by omega) hw
  | k + 1, w, h, hw => by
    rw [upW]
    by_cases e : w.length = k + 1
    · exact List.mem_append_right _ (lvl_all _ w e hw)
    · exact List.mem_append_left _ (upW_all k w (by omega) hw)
theorem find_srt {α : Type} {R : α → α → Prop} {p : α → Bool} {w : α} : ∀ {l : List α}, l.Pairwise R → l.find? p = some w → ∀ v ∈ l, p v = true → w = v ∨ R w v
  | [], _, h, _, _, _ => by simp at h
  | a :: l, s, h, v, hv, pv => by
    obtain ⟨s1, s2⟩ := List.pairwise_cons.mp s
    by_cases pa : p a = true
    · rw [List.find?_cons_of_pos pa] at h
      cases h
      rcases List.mem_cons.mp hv with rfl | hv
      · exact .inl rfl
      · exact .inr (s1 v hv)
    · rw [List.find?_cons_of_neg pa] at h
      rcases List.mem_cons.mp hv with rfl | hv
      · exact absurd pv pa
      · exact find_srt s2 h v hv pv
/-- the first of all words up to a length -/
def fst? (act : List Nat → Nat) (wd most t : Nat) : Option (List Nat) := (upW wd most).find? fun w => decide (act w = t)
theorem fst_some {act : List Nat → Nat} {wd most t : Nat} {w : List Nat} (h : fst? act wd most t = some w) : Mon.First wd act t w := by
  have hm := List.mem_of_find?_eq_some h
  have hp := List.find?_some h
  obtain ⟨wl, ww⟩ := upW_word hm
  refine ⟨ww, of_decide_eq_true hp, fun v hv e => ?_⟩
  by_cases hl : v.length ≤ most
  · rcases find_srt (upW_srt most) h v (upW_all most v hl hv) (decide_eq_true e) with rfl | z | ⟨z1, z2⟩
    · exact .inr ⟨rfl, .inl rfl⟩
    · exact .inl z
    · exact .inr ⟨z1, .inr z2⟩
  · exact .inl (by omega)
theorem fst_none {act : List Nat → Nat} {wd most t : Nat} (h : fst? act wd most t = none) {w : List Nat} (hw : ∀ c ∈ w, c < wd) (e : act w = t) : most < w.length := by
  by_cases hl : w.length ≤ most
  · have := List.find?_eq_none.mp h w (upW_all most w hl hw)
    exact absurd (decide_eq_true e) this
  · omega
/-- letters put in front, over the left table, are products from the left -/
theorem left_act {n : Nat} {gens found rows : List (List Nat)} {m : List (Nat × Nat)} (T : Mon.Tab n gens found rows) (g1 : gens ≠ []) (hm : Mon.madeTab 0 rows [] = some m) (lm : m.length + 1 = rows.length) {x : Nat} {fx : List Nat} (hx : found[x]? = some fx) : ∀ {w : List Nat}, (∀ c ∈ w, c < gens.length) →
    found[Mon.actB true (Mon.leftTab rows m) x w]? = some (Mon.comp (Mon.compW gens (Mon.idm n) w) fx)
  | [], _ => by
    show found[x]? = some (Mon.comp (Mon.idm n) fx)
    rw [Mon.id_comp (T.vf hx)]
    exact hx
  | c :: w, hw => by
    have ih := left_act T g1 hm lm hx (w := w) fun d hd => hw d (List.mem_cons_of_mem _ hd)
    show found[Mon.stp (Mon.leftTab rows m) (Mon.actB true (Mon.leftTab rows m) x w) c]? = _
    generalize Mon.actB true (Mon.leftTab rows m) x w = y at ih ⊢
    have cw := hw c List.mem_cons_self
    obtain ⟨g, hg⟩ := lt_get cw
    have vg := T.vg g (List.mem_of_getElem? hg)
    have yl := get_lt ih
    obtain ⟨l, hl⟩ := lt_get (show y < (Mon.leftTab rows m).length by rw [Mon.left_len, lm, T.len]; exact yl)
    obtain ⟨ll, le⟩ := Mon.left_ok T g1 m (fun k p hp => Mon.madeTab_lt hm hp) y l hl
    obtain ⟨e, he⟩ := lt_get (show c < l.length by omega)
    obtain ⟨g', f', h1, h2, h3⟩ := le c e he
    rw [hg] at h1
    rw [ih] at h2
    cases h1
    cases h2
    unfold Mon.stp
    rw [Mon.getD_of hl, Mon.getD_of he, h3]
    have vw : ∀ {w : List Nat} {z : List Nat}, Mon.Valid n z → (∀ c ∈ w, c < gens.length) → Mon.Valid n (Mon.compW gens z w) := by
      intro w
      induction w with
      | nil => exact fun hz _ => hz
      | cons d w ih =>
        intro z hz hw
        obtain ⟨g2, hg2⟩ := lt_get (hw d List.mem_cons_self)
        show Mon.Valid n (Mon.compW gens (Mon.comp z (gens.getD d [])) w)
        rw [Mon.getD_of hg2]
        exact ih (Mon.comp_valid hz (T.vg g2 (List.mem_of_getElem? hg2))) fun q hq => hw q (List.mem_cons_of_mem _ hq)
    have hw' : ∀ d ∈ w, d < gens.length := fun d hd => hw d (List.mem_cons_of_mem _ hd)
    have e1 : Mon.compW gens (Mon.idm n) (c :: w) = Mon.comp g (Mon.compW gens (Mon.idm n) w) := by
      show Mon.compW gens (Mon.comp (Mon.idm n) (gens.getD c [])) w = _
      rw [Mon.getD_of hg, Mon.id_comp vg]
      have z := Mon.compW_comp T.vg vg (w := w) (y := Mon.idm n) Mon.idm_valid hw'
      rw [Mon.comp_id vg] at z
      exact z
    rw [e1, Mon.comp_assoc vg (vw Mon.idm_valid hw')]
end K15
namespace K15
open PySem PySem.Spec PyProof.Rows L2 Lf
def kk (i t : Nat) : List Key := [ik i, ik t]
theorem kk_inj {i t j u : Nat} (h : kk i t = kk j u) : i = j ∧ t = u := by
  unfold kk at h
  injection h with h1 h2
  injection h2 with h3 h4
  exact ⟨ik_inj h1, ik_inj h3⟩
/-- first words by pairs of numbers: l is done, w for the numbers below c -/
structure FD (act : Nat → List Nat → Nat) (N : Nat) (l : List (List Nat)) (w : List Nat) (c : Nat) (kvs : List (List Key × V)) : Prop where
  val : ∀ i t, i < N → valV kvs (kk i t) = ((if i < c then l ++ [w] else l).find? fun u => decide (act i u = t)).map wv
  len : kvs.length ≤ l.length * N + c
theorem FD.zero {act : Nat → List Nat → Nat} {N : Nat} {w : List Nat} : FD act N [] w 0 [] := ⟨fun i t _ => by simp [valV], by simp⟩
theorem FD.next {act : Nat → List Nat → Nat} {N : Nat} {l : List (List Nat)} {w w' : List Nat} {kvs : List (List Key × V)} (h : FD act N l w N kvs) : FD act N (l ++ [w]) w' 0 kvs :=
  ⟨fun i t hi => by rw [h.val i t hi, if_pos hi, if_neg (Nat.not_lt_zero i)], by
    have := h.len
    rw [List.length_append, List.length_singleton, Nat.succ_mul]
    omega⟩
theorem FD.old {act : Nat → List Nat → Nat} {N c : Nat} {l : List (List Nat)} {w : List Nat} {kvs : List (List Key × V)} (h : FD act N l w c kvs) (hc : c < N) {v : V} (hv : valV kvs (kk c (act c w)) = some v) : FD act N l w (c + 1) kvs where
  val := fun i t hi => by
    rw [h.val i t hi]
    by_cases e : i = c
    · subst e
      rw [if_neg (Nat.lt_irrefl i), if_pos (Nat.lt_succ_self i), List.find?_append]
      have q := h.val i (act i w) hi
      rw [if_neg (Nat.lt_irrefl i), hv] at q
      by_cases et : act i w = t
      · subst et
        cases hf : l.find? fun u => decide (act i u = act i w) with
        | none => rw [hf] at q; cases q
        | some u => rfl
      · rw [List.find?_cons_of_neg (by simp [et]), List.find?_nil, Option.or_none]
    · by_cases e2 : i < c
      · rw [if_pos e2, if_pos (by omega)]
      · rw [if_neg e2, if_neg (by omega)]
  len := by have := h.len; omega
theorem FD.put {act : Nat → List Nat → Nat} {N c : Nat} {l : List (List Nat)} {w : List Nat} {kvs : List (List Key × V)} (h : FD act N l w c kvs) (hc : c < N) (hv : valV kvs (kk c (act c w)) = none) : FD act N l w (c + 1) (putK kvs (kk c (act c w)) (wv w)) where
  val := fun i t hi => by
    rw [valV_put]
    by_cases e : i = c
    · subst e
      rw [if_pos (Nat.lt_succ_self i), List.find?_append]
      have q := h.val i (act i w) hi
      rw [if_neg (Nat.lt_irrefl i), hv] at q
      by_cases et : act i w = t
      · subst et
        rw [if_pos rfl]
        cases hf : l.find? fun u => decide (act i u = act i w) with
        | none => rw [List.find?_cons_of_pos (by simp)]; rfl
        | some u => rw [hf] at q; cases q
      · rw [if_neg (fun z => et ((kk_inj z).2).symm), h.val i t hi, if_neg (Nat.lt_irrefl i), List.find?_cons_of_neg (by simp [et]), List.find?_nil, Option.or_none]
    · rw [if_neg (fun z => e (kk_inj z).1), h.val i t hi]
      by_cases e2 : i < c
      · rw [if_pos e2, if_pos (by omega)]
      · rw [if_neg e2, if_neg (by omega)]
  len := by
    have := h.len
    have := length_putK kvs (kk c (act c w)) (wv w)
    omega
end K15
namespace K15
open PySem PySem.Spec PyProof.Rows L2 Lf
section
variable {n : Nat} {gens found rows : List (List Nat)} {m : List (Nat × Nat)}
/-- products with what a word leads to are what the word leads to -/
theorem right_prod (T : Mon.Tab n gens found rows) (FO : Form rows gens.length) (hm : Mon.madeTab 0 rows [] = some m) (lm : m.length + 1 = rows.length) {i : Nat} {w : List Nat} (hi : i < found.length) (hw : ∀ c ∈ w, c < gens.length) :
    Mon.walk rows 0 w < found.length ∧ Mon.walk rows i ((Mon.wordTab m).getD (Mon.walk rows 0 w) []) = Mon.actB false rows i w := by
  obtain ⟨fx, hx⟩ := lt_get hi
  have h0 := T.walk T.head hw
  have hb := T.walk hx hw
  have e := Mon.compW_comp T.vg (T.vf hx) (w := w) (y := Mon.idm n) Mon.idm_valid hw
  rw [Mon.comp_id (T.vf hx)] at e
  have p := T.prodW hm lm hx h0 (word_letters FO hm _)
  rw [← e] at p
  exact ⟨get_lt h0, Mon.nodup_at T.nd p hb⟩
theorem left_prod (T : Mon.Tab n gens found rows) (g1 : gens ≠ []) (FO : Form rows gens.length) (hm : Mon.madeTab 0 rows [] = some m) (lm : m.length + 1 = rows.length) {i : Nat} {w : List Nat} (hi : i < found.length) (hw : ∀ c ∈ w, c < gens.length) :
    Mon.walk rows (Mon.walk rows 0 w) ((Mon.wordTab m).getD i []) = Mon.actB true (Mon.leftTab rows m) i w := by
  obtain ⟨fx, hx⟩ := lt_get hi
  have h0 := T.walk T.head hw
  have p := T.prodW hm lm h0 hx (word_letters FO hm _)
  exact Mon.nodup_at T.nd p (left_act T g1 hm lm hx hw)
end
end K15

set_option Elab.async false
set_option linter.all false
set_option maxRecDepth 100000
set_option maxHeartbeats 4000000
/-! dict(zip(a list of tuples, range(n))): a range drawn from, a zip whose pair is still out, over iterators of any kind. -/
namespace Lf
open PySem PySem.Spec PyProof.Rows L2
section
variable {prog : Program} {w : World} {A : Around} {E : Value → Shared → Prop} {s : Shared}
theorem nextOf_range_item {it : Addr} {x left step : Int} {Q : Value → Shared → Prop} (hit : IsRangeIter s.heap it x left step) (hleft : 0 < left)
    (hQ : ∀ h', IsRangeIter h' it (x + step) (left - 1) step → Heap.SameBut it s.heap h' → Q (.int x s.toks) { s with heap := h', toks := s.toks + 1 }) :
    wpAny (model prog w) A (Builtin.SmallTypes.nextOf (.ref it)) Q E s := by
  unfold Builtin.SmallTypes.nextOf
  exact wpAny_bind (CpRep.range_item hit hleft fun h' a b => wpAny_pure (hQ h' a b))
theorem nextOf_range_end {it : Addr} {x left step : Int} {Q : Value → Shared → Prop} (hh : A.handled = none) (hit : IsRangeIter s.heap it x left step) (hleft : left ≤ 0)
    (hE : ∀ h' e, Heap.ExtBut it s.heap h' → (∃ o, h'.get? e = some o ∧ o.cls = .type "StopIteration") → E (.ref e) { s with heap := h' }) : wpAny (model prog w) A (Builtin.SmallTypes.nextOf (.ref it)) Q E s := by
  unfold Builtin.SmallTypes.nextOf
  refine wpAny_bind (CpRep.range_end hh hit hleft fun e h' st ex => ?_)
  obtain ⟨a, o, vs, rfl, ho, hc, _⟩ := st
  exact hE h' a ex ⟨o, ho, hc⟩
theorem draws_range (hh : A.handled = none) (it : Addr) (n : Nat) :
    Draws prog w A it [it] n (fun i v => ∃ t, v = .int (i : Nat) t) (fun i h => IsRangeIter h it ((i : Nat) : Int) ((n : Int) - (i : Nat)) 1) where
  live := fun _ _ st => ⟨_, st⟩
  frame := fun _ _ _ st hk => hk it (by simp) _ st
  item := fun i s Q E hi st hQ => by
    refine nextOf_range_item st (by omega) fun h' hit' hs' => ?_
    refine hQ _ h' (s.toks + 1) ⟨_, rfl⟩ ?_ hs'
    have e1 : ((i : Nat) : Int) + 1 = ((i + 1 : Nat) : Int) := by omega
    have e2 : (n : Int) - (i : Nat) - 1 = (n : Int) - ((i + 1 : Nat) : Int) := by omega
    rw [e1, e2] at hit'
    exact hit'
  done := fun s Q E st hE => nextOf_range_end hh st (by omega) hE
theorem begins_range (r : Addr) (n : Nat) (t u v : Tok) (hn : n < 2 ^ 62) : Begins (.ref r) { cls := .type "range_iterator", data := .fields #[rawInt 0, rawInt ((n : Nat) : Int), rawInt 1] } fun h => IsRange h r 0 ((n : Nat) : Int) 1 t u v where
  iter := fun prog w A E s Q hr h => by
    refine wpAny_pyIter_range hr (small_one (by omega) (by omega) (by omega) (by omega)) ?_
    rw [rangeSize_nat, show ((((n : Nat) : Int) - 0).toNat : Int) = ((n : Nat) : Int) by omega]
    exact h
  keeps := fun h h' x hk => hk r _ x
  free := rfl
variable {z TI TO i1 i2 : Addr} {fp1 fp2 : List Addr} {n1 n2 i : Nat} {P1 P2 : Nat → Value → Prop} {St1 St2 : Nat → Heap → Prop}
theorem held_next_item {T : Addr} {f : Bool} {oT : Obj} {Q : Value → Shared → Prop} (S : ZipSep2 z TI TO i1 i2 fp1 fp2) (D1 : Draws prog w A i1 fp1 n1 P1 St1) (D2 : Draws prog w A i2 fp2 n2 P2 St2)
    (hz : IsZipHeld s.heap z TI TO T f) (hT : s.heap.get? T = some oT) (hTI : IsTupOf2 s.heap TI (.ref i1) (.ref i2)) (st1 : St1 i s.heap) (st2 : St2 i s.heap) (hlt1 : i < n1) (hlt2 : i < n2)
    (hQ : ∀ x1 x2 h' tk, P1 i x1 → P2 i x2 → IsZipHeld h' z TI TO T true → St1 (i + 1) h' → St2 (i + 1) h' → IsTupOf2 h' s.heap.objs.size x1 x2 → h'.objs.size = s.heap.objs.size + 1 →
      (∀ c o, c ≠ z → c ≠ i1 → c ≠ i2 → s.heap.get? c = some o → h'.get? c = some o) → Q (.ref s.heap.objs.size) { s with heap := h', toks := tk }) :
    wpAny (model prog w) A (Builtin.«zip.__next__» ⟨[.ref z], []⟩) (fun fin s' => ∃ v, fin = .done (.ret v) ∧ Q v s') E s := by
  obtain ⟨hp, g, d, tk0, os⟩ := s
  show wpAny _ _ (field (.ref z) 2 >>= _) _ _ _
  refine wpAny_bind (wpAny_field hz rfl (x := .bool false) rfl ?_)
  show wpAny _ _ (field (.ref z) 3 >>= _) _ _ _
  refine wpAny_bind (wpAny_field hz rfl (x := .ref TI) rfl ?_)
  refine wpAny_bind (wpAny_seqItems hTI rfl ?_)
  show wpAny _ _ (Builtin.SmallTypes.ownedTupleIsFree (.ref z) >>= _) _ _ _
  refine wpAny_bind (wpAny_tupleHeld_zip hz hT fun h₁ hz₁ hs₁ => ?_)
  replace hs₁ : Heap.SameBut z hp h₁ := hs₁
  simp only [Bool.false_eq_true, if_false]
  refine wpAny_bind ?_
  rw [← Array.forIn_toList]
  simp only [List.forIn_cons, List.forIn_nil]
  refine wpAny_bind (wpAny_bind (wpAny_holding ?_))
  show wpAny _ _ (Builtin.SmallTypes.nextOf (.ref i1) >>= _) _ _ ⟨h₁, g, d, tk0, os⟩
  refine wpAny_bind (D1.item i _ _ _ hlt1 (D1.over st1 hs₁ S.zf1) fun x1 h₂ tk1 hx1 sn1 hs₂ => wpAny_pure ?_)
  replace hs₂ : Heap.SameBut i1 h₁ h₂ := hs₂
  refine wpAny_pure ?_
  refine wpAny_bind (wpAny_bind (wpAny_holding ?_))
  show wpAny _ _ (Builtin.SmallTypes.nextOf (.ref i2) >>= _) _ _ ⟨h₂, g, d, tk1, os⟩
  refine wpAny_bind (D2.item i _ _ _ hlt2 (D2.over (D2.over st2 hs₁ S.zf2) hs₂ S.sep1_2) fun x2 h₃ tk2 hx2 sn2 hs₃ => wpAny_pure ?_)
  replace hs₃ : Heap.SameBut i2 h₂ h₃ := hs₃
  refine wpAny_pure (wpAny_pure ?_)
  show wpAny _ _ (newTuple [x1, x2] >>= _) _ _ _
  refine wpAny_bind (wpAny_newTuple ?_)
  have hsz : h₃.objs.size = hp.objs.size := by rw [hs₃.1, hs₂.1, hs₁.1]
  have hz₃ : IsZipHeld h₃ z TI TO T true := hs₃.extBut _ _ S.zi2 (hs₂.extBut _ _ S.zi1 hz₁)
  have hk : ∀ c o, c ≠ z → c ≠ i1 → c ≠ i2 → hp.get? c = some o → h₃.get? c = some o := fun c o c1 c2 c3 e => hs₃.extBut _ _ c3 (hs₂.extBut _ _ c2 (hs₁.extBut _ _ c1 e))
  have h1₃ : St1 (i + 1) h₃ := D1.over sn1 hs₃ S.sep2_1
  refine wpAny_pure ⟨_, rfl, ?_⟩
  show Q (.ref h₃.objs.size) _
  have hp' : IsTupOf2 (h₃.push { cls := .type "tuple", data := .seq #[x1, x2] }) h₃.objs.size x1 x2 := Heap.get?_push_size _ rfl
  have hz4 : (h₃.push { cls := .type "tuple", data := .seq #[x1, x2] }).objs.size = h₃.objs.size + 1 := Heap.size_push ..
  rw [hsz] at hp' hz4 ⊢
  exact hQ x1 x2 _ tk2 hx1 hx2 (Heap.get?_push_of_some _ hz₃) (D1.frame _ _ _ h1₃ fun b hb o e => Heap.get?_push_of_some _ e) (D2.frame _ _ _ sn2 fun b hb o e => Heap.get?_push_of_some _ e) hp' hz4 fun c o c1 c2 c3 e => Heap.get?_push_of_some _ (hk c o c1 c2 c3 e)
theorem held_next_end {T : Addr} {f : Bool} {oT : Obj} {Q : Fin → Shared → Prop} (S : ZipSep2 z TI TO i1 i2 fp1 fp2) (D1 : Draws prog w A i1 fp1 n1 P1 St1) (D2 : Draws prog w A i2 fp2 n2 P2 St2)
    (hz : IsZipHeld s.heap z TI TO T f) (hT : s.heap.get? T = some oT) (hTI : IsTupOf2 s.heap TI (.ref i1) (.ref i2)) (st1 : St1 i s.heap) (st2 : St2 i s.heap) (hi1 : i = n1)
    (hE : ∀ h' tk e, (∀ c o, c ≠ z → c ≠ i1 → c ≠ i2 → s.heap.get? c = some o → h'.get? c = some o) → (∃ o, h'.get? e = some o ∧ o.cls = .type "StopIteration") → E (.ref e) { s with heap := h', toks := tk }) :
    wpAny (model prog w) A (Builtin.«zip.__next__» ⟨[.ref z], []⟩) Q E s := by
  obtain ⟨hp, g, d, tk0, os⟩ := s
  show wpAny _ _ (field (.ref z) 2 >>= _) _ _ _
  refine wpAny_bind (wpAny_field hz rfl (x := .bool false) rfl ?_)
  show wpAny _ _ (field (.ref z) 3 >>= _) _ _ _
  refine wpAny_bind (wpAny_field hz rfl (x := .ref TI) rfl ?_)
  refine wpAny_bind (wpAny_seqItems hTI rfl ?_)
  show wpAny _ _ (Builtin.SmallTypes.ownedTupleIsFree (.ref z) >>= _) _ _ _
  refine wpAny_bind (wpAny_tupleHeld_zip hz hT fun h₁ hz₁ hs₁ => ?_)
  replace hs₁ : Heap.SameBut z hp h₁ := hs₁
  simp only [Bool.false_eq_true, if_false]
  refine wpAny_bind ?_
  rw [← Array.forIn_toList]
  simp only [List.forIn_cons, List.forIn_nil]
  refine wpAny_bind (wpAny_bind (wpAny_holding ?_))
  show wpAny _ _ (Builtin.SmallTypes.nextOf (.ref i1) >>= _) _ _ ⟨h₁, g, d, tk0, os⟩
  refine wpAny_bind (D1.done ⟨h₁, g, d, tk0, os⟩ _ _ (by rw [← hi1]; exact D1.over st1 hs₁ S.zf1) fun q e hq he => ?_)
  replace hq : Heap.ExtBut i1 h₁ q := hq
  exact hE q tk0 e (fun c o cz c1 c2 x => hq _ _ c1 (hs₁.extBut _ _ cz x)) he
theorem pyNext_held_item {T : Addr} {f : Bool} {oT : Obj} {Q : Option Value → Shared → Prop} (S : ZipSep2 z TI TO i1 i2 fp1 fp2) (D1 : Draws prog w A.in1 i1 fp1 n1 P1 St1) (D2 : Draws prog w A.in1 i2 fp2 n2 P2 St2)
    (hz : IsZipHeld s.heap z TI TO T f) (hT : s.heap.get? T = some oT) (hTI : IsTupOf2 s.heap TI (.ref i1) (.ref i2)) (st1 : St1 i s.heap) (st2 : St2 i s.heap) (hlt1 : i < n1) (hlt2 : i < n2)
    (hQ : ∀ x1 x2 h' tk, P1 i x1 → P2 i x2 → IsZipHeld h' z TI TO T true → St1 (i + 1) h' → St2 (i + 1) h' → IsTupOf2 h' s.heap.objs.size x1 x2 → h'.objs.size = s.heap.objs.size + 1 →
      (∀ c o, c ≠ z → c ≠ i1 → c ≠ i2 → s.heap.get? c = some o → h'.get? c = some o) → Q (some (.ref s.heap.objs.size)) { s with heap := h', toks := tk }) :
    wpAny (model prog w) A (pyNext (.ref z)) Q E s := by
  have hTy : s.TypeIs (.ref z) "zip" := ⟨_, hz, rfl⟩
  unfold pyNext
  exact wpAny_bind (wpAny_attempt (wpAny_callSpecial?_slot (name := Str.ofString "__next__") hTy F.slot_zip_next
    (wpAny_call_entry F.slot_zip_next hTy F.entry_zip_next
      (held_next_item S D1 D2 hz hT hTI st1 st2 hlt1 hlt2 fun x1 x2 h' tk a1 a2 a3 a4 a5 a6 a7 a8 => wpAny_pure (hQ x1 x2 h' tk a1 a2 a3 a4 a5 a6 a7 a8)) (F.args_zip_next_1 _))))
theorem pyNext_held_end {T : Addr} {f : Bool} {oT : Obj} {Q : Option Value → Shared → Prop} (S : ZipSep2 z TI TO i1 i2 fp1 fp2) (D1 : Draws prog w A.in1 i1 fp1 n1 P1 St1) (D2 : Draws prog w A.in1 i2 fp2 n2 P2 St2)
    (hz : IsZipHeld s.heap z TI TO T f) (hT : s.heap.get? T = some oT) (hTI : IsTupOf2 s.heap TI (.ref i1) (.ref i2)) (st1 : St1 i s.heap) (st2 : St2 i s.heap) (hi1 : i = n1)
    (hQ : ∀ h' tk, (∀ c o, c ≠ z → c ≠ i1 → c ≠ i2 → s.heap.get? c = some o → h'.get? c = some o) → Q none { s with heap := h', toks := tk }) : wpAny (model prog w) A (pyNext (.ref z)) Q E s := by
  have hTy : s.TypeIs (.ref z) "zip" := ⟨_, hz, rfl⟩
  unfold pyNext
  refine wpAny_bind (wpAny_attempt (wpAny_callSpecial?_slot (name := Str.ofString "__next__") hTy F.slot_zip_next
    (wpAny_call_entry F.slot_zip_next hTy F.entry_zip_next (held_next_end S D1 D2 hz hT hTI st1 st2 hi1 fun h' tk e hk he => ?_) (F.args_zip_next_1 _))))
  obtain ⟨o, ho, hc⟩ := he
  refine wpAny_bind (wpAny_isInstance (T := "StopIteration") (b := true) ⟨o, ho, hc⟩ isSubtype_stop ?_)
  exact wpAny_pure (hQ _ _ hk)
end
/-- zip(list, range(n)) as the argument of dict: n items at least in the list -/
theorem pairZipR {prog : Program} {w : World} (z TI TO i1 i2 l : Addr) (S : ZipSep2 z TI TO i1 i2 [i1, l] [i2]) (xs : Array Value) (n : Nat) (hn : n = xs.size) :
    PairArg prog w "zip" z [z, TI, TO, i1, i2, l] [z, TO, i1, i2] n (fun i k v => xs[i]? = some k ∧ ∃ t, v = .int (i : Nat) t)
      (fun h => IsZip h z TI TO .none ∧ IsTupOf2 h TI (.ref i1) (.ref i2) ∧ (∃ a b, IsTupOf2 h TO a b) ∧ (h.IsListIter i1 l 0 ∧ h.IsList l xs) ∧ IsRangeIter h i2 0 ((n : Nat) : Int) 1) where
  type := fun s ok => ⟨_, ok.1, rfl⟩
  notDict := by decide
  keep := fun h h' ok hk => by
    obtain ⟨hz, hTI, ⟨a, b, hTO⟩, ⟨h1, hl⟩, h2⟩ := ok
    exact ⟨hk _ _ hz, hk _ _ hTI, ⟨a, b, hk _ _ hTO⟩, ⟨h1.at fun o e => hk _ o e, hl.at fun o e => hk _ o e⟩, hk _ _ h2⟩
  there := fun h ok b hb => by
    obtain ⟨hz, hTI, ⟨a, c, hTO⟩, ⟨⟨o1, h1, _⟩, ⟨o3, hl, _⟩⟩, h2⟩ := ok
    simp only [List.mem_cons, List.not_mem_nil, or_false] at hb
    rcases hb with rfl | rfl | rfl | rfl | rfl | rfl
    all_goals first | exact ⟨_, hz⟩ | exact ⟨_, hTI⟩ | exact ⟨_, hTO⟩ | exact ⟨_, h1⟩ | exact ⟨_, h2⟩ | exact ⟨_, hl⟩
  sub := fun b hb => by simp at hb ⊢; rcases hb with rfl | rfl | rfl | rfl <;> simp
  noKeys := fun A s Q E hA ok h => getAttrOr_miss_zip ok.1 rfl rfl rfl zip_no_keys (by decide +kernel) hA h
  iter := fun A s d Q E hA ok hd hdf h => by
    obtain ⟨hz, hTI, ⟨a, b, hTO⟩, ⟨h1, hl⟩, h2⟩ := ok
    simp only [List.mem_cons, List.not_mem_nil, or_false, not_or] at hdf
    obtain ⟨dz, dTI, dTO, di1, di2, dl⟩ := hdf
    have hA1 : A.in1.handled = none := by simp [hA]
    have lz : l ≠ z := fun e => S.zf1 (by simp [e])
    have lTO : l ≠ TO := fun e => S.Tf1 (by simp [e])
    have l1 : l ≠ i1 := by
      intro e
      obtain ⟨o1, e1, c1, _⟩ := h1
      obtain ⟨o3, e3, c3, _⟩ := hl
      rw [e, e1] at e3
      cases e3
      rw [c1] at c3
      simp at c3
    have D1 : Draws prog w A.in1 i1 [i1, l] xs.size (fun i v => xs[i]? = some v) (fun i h => h.IsListIter i1 l i ∧ h.IsList l xs) := Draws.list hA1 i1 l l1 xs
    have D2 := draws_range (prog := prog) (w := w) hA1 i2 n
    refine wpAny_pyIter_zip hz (h z [z, TO, i1, i2] (fun i h => IsTupOf2 h TI (.ref i1) (.ref i2) ∧ (h.IsListIter i1 l i ∧ h.IsList l xs) ∧ IsRangeIter h i2 ((i : Nat) : Int) ((n : Int) - (i : Nat)) 1 ∧
      ((IsZip h z TI TO .none ∧ ∃ a b, IsTupOf2 h TO a b) ∨ ∃ T f oT, IsZipHeld h z TI TO T f ∧ h.get? T = some oT ∧ T ≠ z ∧ T ≠ i1 ∧ T ≠ i2 ∧ T ≠ d)) s.heap s.toks ?_
      ⟨hTI, ⟨h1, hl⟩, (by simpa using h2), .inl ⟨hz, a, b, hTO⟩⟩ (fun _ _ e => e) fun b hb => .inl hb)
    exact {
      off := fun hm => by
        simp only [List.mem_cons, List.not_mem_nil, or_false] at hm
        rcases hm with e | e | e | e
        · exact dz e
        · exact dTO e
        · exact di1 e
        · exact di2 e
      frame := fun i h₁ h₂ st hk => by
        obtain ⟨hTI, ⟨h1, hl⟩, h2, hz⟩ := st
        refine ⟨hk _ _ (Ne.symm dTI) hTI, ⟨h1.at fun o e => hk _ o (Ne.symm di1) e, hl.at fun o e => hk _ o (Ne.symm dl) e⟩, hk _ _ (Ne.symm di2) h2, ?_⟩
        rcases hz with ⟨hz, a, b, hTO⟩ | ⟨T, f, oT, hz, hT, r1, r2, r3, r4⟩
        · exact .inl ⟨hk _ _ (Ne.symm dz) hz, a, b, hk _ _ (Ne.symm dTO) hTO⟩
        · exact .inr ⟨T, f, oT, hk _ _ (Ne.symm dz) hz, hk _ _ r4 hT, r1, r2, r3, r4⟩
      item := fun i s₁ Q₁ E₁ hi st hds hQ => by
        obtain ⟨hTI, st1, h2, hz⟩ := st
        have lt : ∀ {c o}, s₁.heap.get? c = some o → s₁.heap.objs.size ≠ c := fun e => Nat.ne_of_gt (Heap.lt_size e)
        have n1 : s₁.heap.objs.size ≠ i1 := let ⟨_, e, _⟩ := st1.1; lt e
        have n2 : s₁.heap.objs.size ≠ i2 := lt h2
        rcases hz with ⟨hz, a, b, hTO⟩ | ⟨T, f, oT, hz, hT, r1, r2, r3, r4⟩
        · refine wpAny_pyNext_zipD2_item S D1 D2 hz hTI hTO st1 h2 (by omega) hi fun x1 x2 h' tk y1 y2 b1 b2 d1 d2 b5 b6 hk => ?_
          exact hQ s₁.heap.objs.size _ _ h' tk ⟨y1, y2⟩ (.inl ⟨_, b5, rfl, _, rfl⟩)
            ⟨hk _ _ S.TIz S.TITO S.TIi1 S.TIi2 hTI, d1, d2, .inr ⟨s₁.heap.objs.size, false, _, b1, b5, lt hz, n1, n2, Nat.ne_of_gt hds⟩⟩
            fun c o hc e => hk c o (fun x => hc (by simp [x])) (fun x => hc (by simp [x])) (fun x => hc (by simp [x])) (fun x => hc (by simp [x])) e
        · refine pyNext_held_item S D1 D2 hz hT hTI st1 h2 (by omega) hi fun x1 x2 h' tk y1 y2 b1 d1 d2 b5 b6 hk => ?_
          exact hQ s₁.heap.objs.size _ _ h' tk ⟨y1, y2⟩ (.inl ⟨_, b5, rfl, _, rfl⟩)
            ⟨hk _ _ S.TIz S.TIi1 S.TIi2 hTI, d1, d2, .inr ⟨T, true, oT, b1, hk _ _ r1 r2 r3 hT, r1, r2, r3, r4⟩⟩
            fun c o hc e => hk c o (fun x => hc (by simp [x])) (fun x => hc (by simp [x])) (fun x => hc (by simp [x])) e
      done := fun s₁ Q₁ E₁ st hQ => by
        obtain ⟨hTI, st1, h2, hz⟩ := st
        rcases hz with ⟨hz, a, b, hTO⟩ | ⟨T, f, oT, hz, hT, r1, r2, r3, r4⟩
        · exact wpAny_pyNext_zipD2_end S D1 D2 hz hTI hTO st1 h2 (by omega) (Nat.le_refl _) (.inr rfl) fun h' tk hk => hQ h' tk fun c o hc e => hk c o (fun x => hc (by simp [x])) (fun x => hc (by simp [x])) (fun x => hc (by simp [x])) (fun x => hc (by simp [x])) e
        · exact pyNext_held_end S D1 D2 hz hT hTI st1 h2 hn fun h' tk hk => hQ h' tk fun c o hc e => hk c o (fun x => hc (by simp [x])) (fun x => hc (by simp [x])) (fun x => hc (by simp [x])) e }
end Lf

set_option Elab.async false
set_option linter.all false
set_option maxRecDepth 100000
set_option maxHeartbeats 4000000
/-! dict(zip(found, range(len(found)))), found a list of tuples of numbers. -/
namespace Lf
open PySem PySem.Spec PyProof.Rows L2
theorem key_up {P : Program} {w : World} {H : Hp} {h h' : Heap} {a : Addr} {ks : List Key} (ok : HOk P w H h) (e : H a = some (.tup (ks.map kV))) (k : ∀ o, h.get? a = some o → h'.get? a = some o) : (tupleKind (mixKind P w)).is h' ks a := by
  obtain ⟨o, its, n, h1, h2, h3, r⟩ := key_of ok e
  exact ⟨o, its, n, k o h1, h2, h3, r⟩
theorem kt_keys {P : Program} {w : World} {H : Hp} {h h' : Heap} (ok : HOk P w H h) (k : ∀ a o, h.get? a = some o → h'.get? a = some o) : ∀ {l : List (List Key × V)} {m : List (List Key × Addr × Value)}, KT H l m → ∀ x ∈ m, (tupleKind (mixKind P w)).is h' x.1 x.2.1 := by
  intro l m q
  induction q with
  | nil => intro x hx; exact nomatch hx
  | @cons p q ps qs hq t ih =>
    intro x hx
    rcases List.mem_cons.mp hx with e | hx
    · subst e
      exact key_up ok (by rw [← hq.1]; exact hq.2.1) (k _)
    · exact ih x hx
def tDZ (K : PySem.W.Frag) (ta : TE) (tr : L2.St → Hp → (Int → Int → Hp → Prop) → Prop) : TE := fun σ H Q => ta σ H fun x H1 => tr σ H1 fun lo hi H2 => ∃ (a : Addr) (as : List Addr) (found : List (List Nat)), x = .ref a ∧ lo = 0 ∧ hi = ((found.length : Nat) : Int) ∧ found.length ≤ 100000 ∧ SqL K H2 a (as.map V.ref) ∧ as.length = found.length ∧
  (∀ (j : Nat) b x, as[j]? = some b → found[j]? = some x → H2 b = some (.tup (x.map fun i => V.int (i : Nat)))) ∧ found.Nodup ∧ ∀ p, H2 p = none → Q (.ref p) (L2.upd H2 p (.dT (dtab found)))
theorem call_dictZ {X : Cx} {pins : List (Addr × Obj)} {σ : L2.St} {H : Hp} {s : Shared} (hu : X.A.units + 9 < cLine) (hc : X.A.handled = none) (I : Inv X pins σ H s) {a r : Addr} {as : List Addr} {found : List (List Nat)} {t u v : Tok} {Q : VK}
    (hr : IsRange s.heap r 0 ((found.length : Nat) : Int) 1 t u v) (f2 : found.length ≤ 100000) (hs : SqL X.K H a (as.map V.ref)) (la : as.length = found.length) (el : ∀ (j : Nat) b x, as[j]? = some b → found[j]? = some x → H b = some (.tup (x.map fun i => V.int (i : Nat)))) (nd : found.Nodup)
    (q : ∀ p, H p = none → Q (.ref p) (L2.upd H p (.dT (dtab found)))) {h3 : Heap}
    (hz : IsZip h3 (s.heap.objs.size + 4) (s.heap.objs.size + 2) (s.heap.objs.size + 3) .none) (hTI : IsTupOf2 h3 (s.heap.objs.size + 2) (.ref s.heap.objs.size) (.ref (s.heap.objs.size + 1))) (hTO : IsTupOf2 h3 (s.heap.objs.size + 3) .none .none)
    (g1 : h3.get? s.heap.objs.size = some { cls := .type "list_iterator", data := .fields #[.ref a, .int 0 0] }) (g2 : h3.get? (s.heap.objs.size + 1) = some { cls := .type "range_iterator", data := .fields #[rawInt 0, rawInt ((found.length : Nat) : Int), rawInt 1] })
    (hsz : h3.objs.size = s.heap.objs.size + 5) (hk : ∀ c o, s.heap.get? c = some o → h3.get? c = some o) :
    wpAny (model X.prog X.w) X.A (call (.type "dict") [.ref (s.heap.objs.size + 4)]) (fun x s' => ∃ y H', Inv X pins σ H' s' ∧ RelV y x ∧ Q y H') X.xe { s with heap := h3 } := by
  obtain ⟨its, rv, pl, _⟩ := I.list hs
  have lb : a < s.heap.objs.size := pl.lt
  have li : its.length = found.length := by have := rv.length; rw [List.length_map] at this; omega
  have S : ZipSep2 (s.heap.objs.size + 4) (s.heap.objs.size + 2) (s.heap.objs.size + 3) s.heap.objs.size (s.heap.objs.size + 1) [s.heap.objs.size, a] [s.heap.objs.size + 1] := by
    have ne : ∀ k : Nat, s.heap.objs.size + k ≠ a := fun k => Nat.ne_of_gt (Nat.lt_of_lt_of_le lb (Nat.le_add_right _ _))
    have nm : ∀ {x y : Addr}, x ≠ y → x ≠ a → x ∉ [y, a] := fun h1 h2 h => by
      simp only [List.mem_cons, List.not_mem_nil, or_false] at h
      exact h.elim h1 h2
    refine ⟨?_, ?_, ?_, ?_, List.mem_cons_self, nm ?_ (ne 4), nm ?_ (ne 3), ?_, List.mem_cons_self, fun h => ?_, fun h => ?_, fun h => ?_, nm ?_ (ne 1)⟩
    all_goals first | (intro h; have h' : (_ : Nat) = _ := h; omega) | (have h' : (_ : Nat) = _ := List.mem_singleton.mp h; omega)
  refine call_dict_arg (pairZipR _ _ _ _ _ a S its.toArray found.length (by simp [li])) ⟨hz, hTI, ⟨_, _, hTO⟩, ⟨⟨_, g1, rfl, rfl⟩, pl.isList.at fun o e => hk _ o e⟩, g2⟩ fun s₁ hs₁ hdf ok₁ => ?_
  subst hs₁
  have small : ∀ {c : Addr} {o : Obj}, s.heap.get? c = some o → c ≠ h3.objs.size ∧ c ∉ [s.heap.objs.size + 4, s.heap.objs.size + 3, s.heap.objs.size, s.heap.objs.size + 1] := fun {c o} e => by
    have l : c < s.heap.objs.size := Heap.lt_size e
    have ne : ∀ k : Nat, c ≠ s.heap.objs.size + k := fun k => Nat.ne_of_lt (Nat.lt_of_lt_of_le l (Nat.le_add_right _ _))
    refine ⟨by rw [hsz]; exact ne 5, fun h => ?_⟩
    simp only [List.mem_cons, List.not_mem_nil, or_false] at h
    rcases h with h | h | h | h
    · exact ne 4 h
    · exact ne 3 h
    · exact ne 0 h
    · exact ne 1 h
  have knt : ∀ {i : Nat} {xs : List (List Key × Addr × Value)}, KT H (dtab (found.take i)) xs → xs.length ≤ 100000 := fun {i xs} r => by
    have e1 := Paired.length r
    have e2 : (dtab (found.take i)).length = (found.take i).length := dtabF_len
    have e3 : (found.take i).length ≤ found.length := by rw [List.length_take]; omega
    omega
  have hsl := sizeLine_eq
  refine updateFrom_arg (A := X.A.in1) (d := h3.objs.size)
    (Tab := fun i h => (∃ xs, KT H (dtab (found.take i)) xs ∧ h.DictOfH (tupleKind (mixKind X.prog X.w)) h3.objs.size xs) ∧ ∀ c o, s.heap.get? c = some o → h.get? c = some o)
    (pairZipR _ _ _ _ _ a S its.toArray found.length (by simp [li])) .none hc ok₁ hdf ⟨⟨[], .nil, Heap.DictOfH.new h3⟩, fun c o e => Heap.get?_push_of_some _ (hk c o e)⟩ (fun _ _ tb => by obtain ⟨⟨_, _, y⟩, _⟩ := tb; exact y.lt_size) (fun i h h' wr' hd hw tb hk' => ?_) (fun i k v s' Q' E' hi hrel tb _ hQ => ?_) (fun h' tk tb hk' => ?_)
  · obtain ⟨⟨xs, r, y⟩, up⟩ := tb
    have up' : ∀ c o, s.heap.get? c = some o → h'.get? c = some o := fun c o e => hk' c o (fun hm => by
      rcases hw c hm with z | z
      · exact (small e).2 z
      · rw [Heap.get?_push_of_some _ (hk c o e)] at z
        cases z) (up c o e)
    exact ⟨⟨xs, r, y.at' (fun o e => hk' _ o hd e) (kt_keys I.hok up' r)⟩, up'⟩
  · obtain ⟨⟨xs, r, y⟩, up⟩ := tb
    obtain ⟨hk1, tt, rfl⟩ := hrel
    obtain ⟨b, hb⟩ := Mon.lt_get' (show i < as.length by omega)
    obtain ⟨x, hx⟩ := Mon.lt_get' hi
    obtain ⟨u', hu', ru⟩ := rv.get (i := i) (x := .ref b) (by rw [List.getElem?_map, hb]; rfl)
    have ek : k = .ref b := by
      have e1 : its[i]? = some k := by simpa using hk1
      rw [hu'] at e1
      have e2 : u' = .ref b := ru
      rw [← Option.some.inj e1, e2]
    subst ek
    have hH : H b = some (.tup ((kt x).map kV)) := by rw [kt_map]; exact el i b x hb hx
    have nx : x ∉ found.take i := fun hm => by
      obtain ⟨j, hj⟩ := List.getElem?_of_mem hm
      have jl := Mon.get_lt' hj
      rw [List.length_take] at jl
      rw [List.getElem?_take_of_lt (by omega)] at hj
      have := Mon.nodup_at nd hj hx
      omega
    have lt : (found.take i).length = i := by rw [List.length_take]; omega
    refine wpAny_dictSet_heap (hsz := by have := knt r; omega) (knd := tupleKind (mixKind X.prog X.w)) (show (tupleKind (mixKind X.prog X.w)).room X.A.in1.in1 from (by show X.A.units + 1 + 1 < cLine; omega)) (key_up I.hok hH (up b)) y fun h' hm' hs' => ?_
    refine hQ h' _ ⟨⟨_, ?_, hm'⟩, fun c o e => hs'.extBut c o (small e).1 (up c o e)⟩ hs'
    have p := KT.put r (kt x) (y := .int ((i : Nat) : Int)) (u := .int ((i : Nat) : Int) tt) hH ⟨tt, rfl⟩
    have e := dtab_put nx
    rw [lt] at e
    rw [e] at p
    have et : found.take (i + 1) = found.take i ++ [x] := by rw [List.take_add_one, hx]; rfl
    rw [et]
    exact p
  · obtain ⟨⟨xs, r, y⟩, up⟩ := tb
    rw [List.take_of_length_le (Nat.le_refl _)] at r
    have hd : (h3.objs.size == sysModules) = false := beq_eq_false_iff_ne.mpr (Nat.ne_of_gt (by have := I.big; rw [hsz]; exact Nat.lt_of_lt_of_le this (Nat.le_add_right _ _)))
    have hle : s.heap.objs.size ≤ h3.objs.size := by rw [hsz]; exact Nat.le_add_right _ _
    have hn := I.hok.fresh hle
    obtain ⟨o, es, ep, h1, h2, h3', h4, _, h5⟩ := y
    refine ⟨rfl, .ref h3.objs.size, _, I.laid (t' := tk) up hle (show ObjOk X.prog X.w _ _ _ (.dT (dtab found)) from ⟨?_, hd, xs, r.keeps fun c ys ec => ?_, o, es, ep, h1, h2, h3', h4, h5⟩), rfl, q _ hn⟩
    · have e2 : (dtab found).length = found.length := dtabF_len
      omega
    · rw [upd_ne (ne_of_none ec hn)]
      exact ec
theorem pe_dictZip {X : Cx} {e r : Expr} {te : TE} {tr : L2.St → Hp → (Int → Int → Hp → Prop) → Prop} {p1 p2 pos1 pos2 : Pos} (hu : X.A.units + 9 < cLine) (hc : X.calm = true) (hgd : Gl X "dict") (hmd : X.mg "dict" = none) (hgz : Gl X "zip") (hmz : X.mg "zip" = none) (he : PE X e te) (hr : PRg X r tr)
    (n1 : starEach [.Call (.Name "zip" p2) [e, r] [] pos2] X.env = (false, eval (.Call (.Name "zip" p2) [e, r] [] pos2) X.env) :: starEach [] X.env := by rfl)
    (n2 : starEach [e, r] X.env = (false, eval e X.env) :: starEach [r] X.env := by rfl) (n3 : starEach [r] X.env = (false, eval r X.env) :: starEach [] X.env := by rfl) (hp : (backTo pos2 (starEach [r] X.env)).any (·.1) = false := by rfl) :
    PE X (.Call (.Name "dict" p1) [.Call (.Name "zip" p2) [e, r] [] pos2] [] pos1) (tDZ X.K te tr) := by
  refine ⟨fun pins s σ H Q I h => ?_⟩
  refine Call_ (ld_blt I hgd hmd boot_dict (PyProof.Rows.callWith_type1 (args_cons (Call_ (ld_blt I hgz hmz PyProof.Rows.boot_zip (PyProof.Rows.callWith_type1 (args_cons (thn (he.run pins s σ H _ I h) fun v s1 ⟨x, H1, I1, rx, q1⟩ =>
    args_cons (thn (hr pins s1 σ H1 _ I1 q1) fun y s2 ⟨r', lo, hi, t, u, vv, H2, ey, hrng, I2, q2⟩ => args_nil ?_) n3) n2) n2 hp))) n1) n1))
  obtain ⟨a, as, found, rfl, rfl, rfl, f2, hs, la, el, nd, q⟩ := q2
  subst ey
  obtain rfl : v = Value.ref a := rx
  obtain ⟨its, rv, pl, _⟩ := I2.list hs
  refine zip_begins2 (begins_list a its.toArray) (begins_range r' found.length t u vv (by omega)) pl.isList hrng fun h3 hz hTI hTO g1 g2 hsz hk => ?_
  exact args_nil (call_dictZ hu (I2.ok.hd hc) I2 hrng f2 hs la el nd q hz hTI hTO g1 g2 hsz hk)
end Lf

set_option Elab.async false
set_option linter.all false
set_option maxRecDepth 100000
set_option maxHeartbeats 8000000
namespace K15
open PySem PySem.Spec PyProof.Rows L2 Lf
/-- the numbers of all products -/
def prodRow (rows : List (List Nat)) (m : List (Nat × Nat)) (n x : Nat) : List Nat := (List.range n).map fun y => Mon.walk rows x ((Mon.wordTab m).getD y [])
def prodTab (rows : List (List Nat)) (m : List (Nat × Nat)) (n : Nat) : List (List Nat) := (List.range n).map (prodRow rows m n)
def spProducts (K : PySem.W.Frag) : Sp := fun vs H Q _ => ∃ pf pt n gens found rows m, vs = [.ref pf, .ref pt] ∧ Maps H pf found ∧ Mon.Tab n gens found rows ∧ n ≤ 4 ∧ Form rows gens.length ∧ Mon.madeTab 0 rows [] = some m ∧ m.length + 1 = rows.length ∧ found.length ≤ 256 ∧
  ∀ l H', Same H H' → H l = none → RowsL K H' l (prodTab rows m found.length) → Q (.ref l) H'
abbrev NPD : List Str := ["_law_found", "_law_table_here", "_law_numbers", "_law_rows", "_law_one", "_law_other", "_law_image"]
def scOth : Scope := { kind := .function, names := [(".0", .local), ("_law_other", .cell), ("tuple", .globalImplicit), ("_law_numbers", .cell), ("_law_one", .cell)], isGenerator := false, isCoroutine := false }
abbrev teIg (K : PySem.W.Frag) : TE := tOp (rIxT K) (tVar 5) (tVar 6)
abbrev teTp (K : PySem.W.Frag) : TE := tCB (rTup K) (tCons (tLc (iTup K (tVar 4)) (gName 6) tYes (teIg K) [6]) tNil)
abbrev tePd (K : PySem.W.Frag) : TE := tDGet (tVar 2) (teTp K)
section
variable {P : Program} {w : World} {K : PySem.W.Frag} {mg : Str → Option Value} {base : Heap}
theorem scProducts : FnScope NPD ["_law_found", "_law_table_here"] (defScope s_L_products) := ⟨rfl, rfl, rfl, by decide +kernel, rfl, by decide +kernel, by decide +kernel⟩
theorem ok_products {f : Addr} {fd : FuncData} {q : Str} (F : FunD K "_law_products" q (defArgs s_L_products) (defBody s_L_products) (defScope s_L_products) [] [] f fd) (zr : mg "range" = none) (zt : mg "tuple" = none) (zn : mg "len" = none) (zd : mg "dict" = none) (zz : mg "zip" = none) :
    FnOk P w K mg base CX0 1 f fd ["_law_found", "_law_table_here"] (spProducts K) := by
  refine F.ok scProducts (fun vs H Q E h => ?_) (fun cdv A outer s H vs Q E hr h => ?_)
  · obtain ⟨pf, pt, n, gens, found, rows, m, rfl, _⟩ := h
    rfl
  · obtain ⟨pf, pt, n, gens, found, rows, m, rfl, M, T, n4, FO, hm, lm, f256, k⟩ := h
    have hu9 : (A.deeper (envOfC q (defScope s_L_products) s.heap.objs.size f cdv)).units + 9 < cLine := by have := hr.units; omega
    have hu1 : (A.deeper (envOfC q (defScope s_L_products) s.heap.objs.size f cdv)).units + 1 < cLine := by omega
    refine ⟨_, PSs.nox (pss_cons (ps_set (i := 2) scProducts.nd rfl (.inr rfl) (pe_dictZip hu9 rfl rfl zd rfl zz (pv 0) (prg_1 rfl zr (pe_callB call_len_seq rfl zn boot_len (pa_cons (pv 0) pa_nil)))))
      (pss_cons (ps_set (i := 3) scProducts.nd rfl (.inl rfl) (pe_lst pa_nil))
      (pss_cons (ps_for PassesOwn.never rfl (pi_list (pv 0)) (pg_name (i := 4) scProducts.nd rfl (.inr rfl))
        (pss_one (ps_expr (pe_bm PySem.F.plainAttrs_list PySem.F.slot_list_append PySem.F.type_list_append mt_append (pv 3) (pa_cons
          (pe_lc (own := [("_law_other", 5)]) (g := gName 5) (te := tePd K) (by rfl) scProducts.nd (pi_list (pv 0)) (blkOk_by (own := [("_law_other", 5)]) (N := NPD) (sc := defScope s_L_products) (by decide +kernel)) (fun _ _ _ _ _ => pg_name (i := 5) scProducts.nd rfl (Or.inr rfl)) (fun _ _ _ _ _ => pts_nil)
            (fun _ _ _ _ _ => by exact pe_dget hu1 (pv 2) (pe_callTy call_tuple_of rfl zt PyProof.Rows.boot_tuple (pa_cons (pe_lc (own := [("_law_image", 6)]) (g := gName 6) (te := teIg K) (by rfl) scProducts.nd (pi_tup (pv 4)) (blkOk_by (own := [("_law_image", 6)]) (N := NPD) (sc := scOth) (by decide +kernel)) (fun _ _ _ _ _ => pg_name (i := 6) scProducts.nd rfl (Or.inl rfl)) (fun _ _ _ _ _ => pts_nil)
              (fun _ _ _ _ _ => by exact pe_ix ix_tup (pv 5) (pv 6) (fun _ _ => rfl))) pa_nil)) (fun _ _ => rfl))) pa_nil)))))
      (pss_one (ps_ret (pv 3)))))), ?_⟩
    obtain ⟨as, hf, la, el⟩ := M.ex
    have nd := T.nd
    have rl := T.len
    refine ⟨_, rfl, _, rfl, pf, _, rfl, .inl (SqL.of hf), ((found.length : Nat) : Int), by rw [List.length_map, la], pf, as, found, rfl, rfl, rfl, by omega, SqL.of hf, la, el, nd, fun d ndd => ?_⟩
    have s1 := same_upd (o := .dT (dtab found)) ndd
    have hd1 : L2.upd H d (.dT (dtab found)) d = some (.dT (dtab found)) := upd_same
    generalize L2.upd H d (.dT (dtab found)) = H1 at s1 hd1 ⊢
    refine ⟨(by show 0 ≤ sizeLine; decide), fun B nB => ?_⟩
    have nB0 := nil_of s1 nB
    have u2 := same_upd (o := .lst []) nB
    have s2 := s1.trans u2
    have hd2 := u2 _ _ hd1
    have hB2 : L2.upd H1 B (.lst []) B = some (.lst (([] : List Addr).map V.ref)) := upd_same
    generalize L2.upd H1 B (.lst []) = H2 at s2 hd2 hB2 ⊢
    have nBd : B ≠ d := fun z => by rw [z, hd2] at hB2; cases hB2
    have nd0 := ndd
    refine ⟨_, rfl, pf, rfl, ⟨_, SqL.of (s2 _ _ hf)⟩, for_list (K := K) (a := pf) (xs := as.map V.ref) (fun i σ Hc => ∃ (v4 : Option V) (bs : List Addr), σ = [some (.ref pf), some (.ref pt), some (.ref d), some (.ref B), v4, none, none] ∧ Same H Hc ∧ Hc d = some (.dT (dtab found)) ∧ Hc B = some (.lst (bs.map V.ref)) ∧ bs.length = i ∧ ∀ (j : Nat) b, bs[j]? = some b → Hc b = some (.lst ((prodRow rows m found.length j).map nv)) ∧ b ≠ B)
      ⟨none, [], rfl, s2, hd2, hB2, rfl, fun j b h => by simp at h⟩ (fun i σ Hc _ ⟨_, _, _, sc, _⟩ => SqL.of (sc _ _ hf)) (fun i x σ Hc hx ⟨v4, bs, eσ, sc, hdc, hBc, lb, eb⟩ => ?_) (fun σ Hc ⟨v4, bs, eσ, sc, hdc, hBc, lb, eb⟩ => ?_)⟩
    · subst eσ
      obtain ⟨a, ha, rfl⟩ := map_get hx
      obtain ⟨fx, hfx⟩ := lt_get (show i < found.length by have := get_lt ha; omega)
      have ex := el i a fx ha hfx
      have vx := T.vf hfx
      refine ⟨_, rfl, .inl ⟨rfl, _, SqL.of hBc⟩, ?_⟩
      refine ⟨_, rfl, pf, rfl, ⟨_, SqL.of (sc _ _ hf)⟩, fun D nD => ?_⟩
      refine lc_list (K := K) (a := pf) (xs := as.map V.ref) (fun c Hd => But D Hc Hd ∧ Hd D = some (.lst (((prodRow rows m found.length i).take c).map nv))) ⟨But.upd, upd_same⟩ (fun c Hd _ ⟨bd, _⟩ => SqL.of ((Same.but (L2.Same.refl _) nD bd) _ _ (sc _ _ hf))) (fun c y Hd hy ⟨bd, hD⟩ => ?_) (fun Hd ⟨bd, hD⟩ => ?_)
      · obtain ⟨ay, hay, rfl⟩ := map_get hy
        have sd := Same.but (L2.Same.refl _) nD bd
        have sHd := sc.trans sd
        obtain ⟨fy, hfy⟩ := lt_get (show c < found.length by have := get_lt hay; omega)
        have ey := el c ay fy hay hfy
        have vy := T.vf hfy
        have pr := T.prodW hm lm hfx hfy (word_letters FO hm c)
        refine ⟨rfl, yesT ?_⟩
        refine ⟨_, rfl, _, rfl, a, rfl, ⟨_, SqT.of (sHd _ _ ex)⟩, fun D2 nD2 => ?_⟩
        refine lc_tup (K := K) (a := a) (xs := fx.map nv) (fun j He => But D2 Hd He ∧ He D2 = some (.lst (((fx.take j).map fun i => fy.getD i 0).map nv))) ⟨But.upd, upd_same⟩ (fun j He _ ⟨be, _⟩ => SqT.of ((Same.but (L2.Same.refl _) nD2 be) _ _ (sHd _ _ ex))) (fun j z He hz ⟨be, hD2⟩ => ?_) (fun He ⟨be, hD2⟩ => ?_)
        · obtain ⟨xi, hxi, rfl⟩ := map_get hz
          refine ⟨rfl, yesT ?_⟩
          have se := Same.but (L2.Same.refl _) nD2 be
          obtain ⟨e, he⟩ := lt_get (show xi < fy.length by rw [vy.1]; exact vx.2 xi (List.mem_of_getElem? hxi))
          refine ⟨_, rfl, _, rfl, ay, fy.map nv, _, nv e, rfl, rfl, SqT.of (se _ _ (sHd _ _ ey)), atI_nat (get_map he), ?_⟩
          refine ⟨_, hD2, ?_, But.trans be But.upd, ?_⟩
          · rw [List.length_map, List.length_map, List.length_take]
            have := vx.1
            show min j fx.length < 16777216
            omega
          · rw [upd_same, take_snoc hxi, List.map_append, List.map_append, List.map_cons, List.map_nil, List.map_cons, List.map_nil, Mon.getD_of he]
        · rw [List.length_map, List.take_length] at hD2
          have se := Same.but (L2.Same.refl _) nD2 be
          refine ⟨D2, _, rfl, .inl ⟨SqL.of hD2, fun t nt => ?_⟩⟩
          have ut := same_upd (o := .tup ((Mon.comp fx fy).map nv)) nt
          have st := se.trans ut
          have ht : L2.upd He t (.tup ((Mon.comp fx fy).map nv)) t = some (.tup ((kt (Mon.comp fx fy)).map kV)) := by rw [upd_same, kt_map]
          have hv := dtabF_some (k := 0) T.nd pr
          refine ⟨d, .int ((0 + Mon.walk rows i ((Mon.wordTab m).getD c []) : Nat) : Int), rfl, (by have z := DGet.t (k := kt (Mon.comp fx fy)) (st _ _ (sd _ _ hdc)) ht; rw [hv] at z; exact z), ?_⟩
          refine ⟨_, st _ _ hD, ?_, bd.trans ((But.of st).trans But.upd), ?_⟩
          · rw [List.length_map, List.length_take]
            have : (prodRow rows m found.length i).length = found.length := by simp [prodRow]
            show min c _ < 16777216
            omega
          · have hc : (prodRow rows m found.length i)[c]? = some (Mon.walk rows i ((Mon.wordTab m).getD c [])) := by
              rw [prodRow, List.getElem?_map, List.getElem?_range (get_lt hfy)]
              rfl
            rw [upd_same, take_snoc hc, List.map_append, Nat.zero_add]
            rfl
      · have sd := Same.but (L2.Same.refl _) nD bd
        have pl : (prodRow rows m found.length i).length = found.length := by simp [prodRow]
        rw [List.length_map, la, List.take_of_length_le (by rw [pl]; exact Nat.le_refl _)] at hD
        have nDB : D ≠ B := fun z => by rw [z, hBc] at nD; cases nD
        refine ⟨B, _, _, rfl, rfl, sd _ _ hBc, (by rw [List.length_map, lb]; have := get_lt hfx; show i < 16777216; omega), ?_⟩
        have e1 : bs.map V.ref ++ [V.ref D] = (bs ++ [D]).map V.ref := by simp
        rw [e1]
        refine ⟨_, bs ++ [D], rfl, fun b o e => ?_, ?_, upd_same, by simp [lb], fun j b hb => ?_⟩
        · rw [upd_ne (ne_of_none e nB0)]
          exact sd _ _ (sc b o e)
        · rw [upd_ne nBd.symm]
          exact sd _ _ hdc
        · rcases Mon.snoc_cases hb with hb | ⟨ej, rfl⟩
          · obtain ⟨g1, g2⟩ := eb j b hb
            exact ⟨by rw [upd_ne g2]; exact sd _ _ g1, g2⟩
          · rw [ej, lb]
            exact ⟨by rw [upd_ne nDB]; exact hD, nDB⟩
    · subst eσ
      refine ⟨_, rfl, k B Hc sc nB0 ⟨bs, SqL.of hBc, ?_, fun j b row h1 h2 => ?_⟩⟩
      · rw [lb, List.length_map, la, prodTab, List.length_map, List.length_range]
      · have hj := get_lt h2
        rw [prodTab, List.length_map, List.length_range] at hj
        rw [prodTab, List.getElem?_map, List.getElem?_range hj] at h2
        cases h2
        exact SqL.of (eb j b h1).1
end
end K15

set_option Elab.async false
set_option linter.all false
set_option maxRecDepth 100000
set_option maxHeartbeats 4000000
/-! d.setdefault(k, z) where keys are tuples of numbers and texts. -/
namespace Lf
open PySem PySem.Spec PyProof.Rows L2
def tDSetdT (td ty tx : TE) : TE := fun σ H Q => td σ H fun x H1 => ∃ a, x = .ref a ∧ IsD H1 a ∧ ty σ H1 fun y H2 => tx σ H2 fun z H3 => ∃ (kvs : List (List Key × V)) (k : List Key) (b : Addr), H3 a = some (.dT kvs) ∧ y = .ref b ∧ H3 b = some (.tup (k.map kV)) ∧ kvs.length < sizeLine ∧
  (∀ v, valV kvs k = some v → Q v H3) ∧ (valV kvs k = none → Q z (L2.upd H3 a (.dT (putK kvs k z))))
theorem pe_dsetdT {X : Cx} {o e f : Expr} {td ty tx : TE} {apos cpos : Pos} (hu : X.A.units + 1 < cLine) (ho : PE X o td) (he : PE X e ty) (hf : PE X f tx) (m : M2 X o "setdefault" apos e f cpos) : PE X (.Call (.Attribute o "setdefault" apos) [e, f] [] cpos) (tDSetdT td ty tx) := by
  refine ⟨fun pins s σ H Q I h => ?_⟩
  refine wpAny_Call_method m.base m.few m.line PySem.F.plainAttrs_dict PySem.F.slot_dict_setdefault PySem.F.type_dict_setdefault (thn (ho.run pins s σ H _ I h) fun u s1 ⟨x, H1, I1, rx, a, ex, d, q1⟩ => ?_)
  subst ex
  obtain rfl : u = Value.ref a := rx
  obtain ⟨t1, t2, _⟩ := isD_at I1 d
  refine ⟨t1, t2, ?_⟩
  rw [m.trees]
  refine Calls.callWith_builtin rfl (Calls.evalArgs_plain (Calls.spliced_cons (thn (he.run pins s1 σ H1 _ I1 q1) fun iv s2 ⟨y, H2, I2, ry, q2⟩ =>
    Calls.spliced_cons (thn (hf.run pins s2 σ H2 _ I2 q2) fun fv s3 ⟨z, H3, I3, rz, kvs, k, b, ea, ey, eb, hl, q3, q4⟩ => Calls.spliced_nil ?_))))
  subst ey
  obtain rfl : iv = Value.ref b := ry
  obtain ⟨zz, hd, xs, rel, dd⟩ := dt_of I3.hok ea
  have hz : xs.length ≤ sizeLine := by rw [← Paired.length rel]; exact zz
  have hl2 : (putK kvs k z).length ≤ sizeLine := by have := length_putK kvs k z; omega
  refine call_setdefault_heap (hsz := hz) (knd := tupleKind (mixKind X.prog X.w)) (tupleKind_room_in1 hu) (key_of I3.hok eb) hd dd (fun p hp => ?_) fun hn h' dd' hs => ?_
  · have r := rel.val k
    rw [hp] at r
    cases hv : valV kvs k with
    | none => rw [hv] at r; cases r
    | some v =>
      rw [hv] at r
      exact ⟨v, _, I3.tok _, r, q3 v hv⟩
  · have r := rel.val k
    rw [hn] at r
    have hv : valV kvs k = none := by
      cases hv : valV kvs k with
      | none => rfl
      | some v => rw [hv] at r; cases r
    obtain ⟨q, es, ep, hq, h2, h3, h4, _, h5⟩ := dd'
    refine ⟨z, L2.upd H3 a (.dT (putK kvs k z)), d_write I3 (by rw [ea]; exact True.intro) hs ⟨q, hq⟩ ⟨hl2, hd, _, (rel.put k eb rz).keeps fun c ys ec => ?_, q, es, ep, hq, h2, h3, h4, h5⟩, rz, q4 hv⟩
    rw [upd_ne (ne_of ec ea (fun z => nomatch z))]
    exact ec
end Lf

set_option Elab.async false
set_option linter.all false
set_option maxRecDepth 100000
set_option maxHeartbeats 8000000
namespace K15
open PySem PySem.Spec PyProof.Rows L2 Lf
def spByW (K : PySem.W.Frag) : Sp := fun vs H Q _ => ∃ x pp rows m n gens found most, vs = [.ref x, .ref pp, .str (ws (List.range gens.length)), .int (most : Nat)] ∧ Mo K H x rows m ∧ Accept rows gens.length m ∧ Mon.Tab n gens found rows ∧ gens.length ≤ 3 ∧ most ≤ 9 ∧ found.length ≤ 14 ∧ RowsL K H pp (prodTab rows m found.length) ∧
  ∀ H', Same H H' → Q (.bl true) H'
abbrev NBW : List Str := ["_law_monoid", "_law_products_here", "_law_letters", "_law_most", "_law_firsts", "_law_lasts", "_law_word", "_law_by", "_law_number", "_law_one", "_law_other", "_law_right_here", "_law_left", "_law_told", "_law_due"]
/-- what is told of a pair is what is due, or lies beyond -/
def Cd (most : Nat) (told due : V) : Prop := (∃ w, told = wv w ∧ due = wv w) ∨ due = .non ∧ (told = .non ∨ ∃ w : List Nat, told = wv w ∧ w.length ≤ 2000 ∧ most < w.length)
theorem cd_of {b : Bool} {rows : List (List Nat)} {wd s t most : Nat} {v : V} (h : LW b rows wd s t v) : Cd most v ((((upW wd most).find? fun u => decide (Mon.actB b rows s u = t)).map wv).getD .non) := by
  cases hf : (upW wd most).find? fun u => decide (Mon.actB b rows s u = t) with
  | some w =>
    have F : Mon.First wd (Mon.actB b rows s) t w := fst_some (most := most) hf
    rcases h with ⟨_, z⟩ | ⟨x, rfl, _, G⟩
    · exact absurd F.at' (z w F.ok)
    · exact .inl ⟨w, by rw [G.uniq F], rfl⟩
  | none =>
    refine .inr ⟨rfl, ?_⟩
    rcases h with ⟨rfl, _⟩ | ⟨x, rfl, xl, G⟩
    · exact .inl rfl
    · exact .inr ⟨x, rfl, xl.1, fst_none (most := most) hf G.ok G.at'⟩
theorem two_k {o : Option V} {Q : VK} {H : Hp} {z : V} {H' : Hp} (R : Hp → Prop) (h1 : ∀ v, o = some v → R H) (h2 : o = none → R H') (hR : ∀ v H'', R H'' → Q v H'') : (∀ v, o = some v → Q v H) ∧ (o = none → Q z H') := ⟨fun v e => hR v H (h1 v e), fun e => hR z H' (h2 e)⟩
section
variable {P : Program} {w : World} {K : PySem.W.Frag} {mg : Str → Option Value} {base : Heap}
theorem scByW : FnScope NBW ["_law_monoid", "_law_products_here", "_law_letters", "_law_most"] (defScope s_L_by_words) := ⟨rfl, rfl, rfl, by decide +kernel, rfl, by decide +kernel, by decide +kernel⟩
theorem ok_byW {f : Addr} {fd : FuncData} {q : Str} (F : FunD K "_law_by_words" q (defArgs s_L_by_words) (defBody s_L_by_words) (defScope s_L_by_words) [] [] f fd) (T : Txt P w K mg base)
    (DA : Def P w K mg base CX0 1 "_law_all_words" ["_law_letters", "_law_most"] spAllW) (DO : DefM P w K mg base CX0 3 "of_word" ["self", "word"] (spOfW K)) (DR : DefM P w K mg base CX0 4 "least_right" ["self", "one", "other"] (spLR false K)) (DL : DefM P w K mg base CX0 4 "least_left" ["self", "one", "other"] (spLR true K)) :
    FnOk P w K mg base CX0 5 f fd ["_law_monoid", "_law_products_here", "_law_letters", "_law_most"] (spByW K) := by
  have cl : L2.Cls K (He.ga K "Monoid") := He.cls_ok (T.d.fact 46 (f := .cls "Monoid") rfl)
  have zr : mg "range" = none := T.fr 41 "range" rfl
  have zn : mg "len" = none := T.fr 39 "len" rfl
  obtain ⟨fo, fdo, mo, Fo, bo⟩ := DO.ex
  obtain ⟨fr, fdr, mr, Fr, br⟩ := DR.ex
  obtain ⟨fl, fdl, ml, Fl, bl⟩ := DL.ex
  refine F.ok scByW (fun vs H Q E h => ?_) (fun cdv A outer s H vs Q E hr h => ?_)
  · obtain ⟨x, pp, rows, m, n, gens, found, most, rfl, _⟩ := h
    rfl
  · obtain ⟨x, pp, rows, m, n, gens, found, most, rfl, M, AC, Tb, g3, m9, f14, RP, fin⟩ := h
    have r1 : Room 1 _ := hr.mono (by decide)
    have r3 : Room 3 _ := hr.mono (by decide)
    have hu : (A.deeper (envOfC q (defScope s_L_by_words) s.heap.objs.size f cdv)).units + 1 < cLine := by have := hr.units; omega
    refine ⟨_, PSs.nox (pss_cons (ps_par (i := 4) (j := 5) rfl scByW.nd rfl rfl (by decide) rfl rfl (pa_cons pe_dnewT (pa_cons pe_dnewT pa_nil)) (by rfl))
      (pss_cons (ps_for PassesOwn.never rfl (pi_list (pe_def DA r1 pass0 rfl (pa_cons (pv 2) (pa_cons (pv 3) pa_nil)))) (pg_name (i := 6) scByW.nd rfl (.inl rfl))
        (pss_cons (ps_set (i := 7) scByW.nd rfl (.inl rfl) (pe_meth (pv 0) cl mo Fo r3 bo .nil pass0 (pa_cons (pv 6) pa_nil)))
        (pss_one (ps_for PassesOwn.never rfl (pi_range1 rfl zr (pa_cons (pe_callB call_len_seq rfl zn boot_len (pa_cons (pv 1) pa_nil)) pa_nil)) (pg_name (i := 8) scByW.nd rfl (.inl rfl))
          (pss_cons (ps_expr (pe_dsetdT hu (pv 4) (pe_tup (pa_cons (pv 8) (pa_cons (pe_ix ix_list (pe_ix ix_list (pv 1) (pv 8) (fun _ _ => rfl)) (pv 7) (fun _ _ => rfl)) pa_nil))) (pv 6) ⟨by rfl, by rfl, by rfl, by rfl⟩))
          (pss_one (ps_expr (pe_dsetdT hu (pv 5) (pe_tup (pa_cons (pv 8) (pa_cons (pe_ix ix_list (pe_ix ix_list (pv 1) (pv 7) (fun _ _ => rfl)) (pv 8) (fun _ _ => rfl)) pa_nil))) (pv 6) ⟨by rfl, by rfl, by rfl, by rfl⟩))))))))
      (pss_cons (ps_for PassesOwn.never rfl (pi_range1 rfl zr (pa_cons (pe_callB call_len_seq rfl zn boot_len (pa_cons (pv 1) pa_nil)) pa_nil)) (pg_name (i := 9) scByW.nd rfl (.inl rfl))
        (pss_one (ps_for PassesOwn.never rfl (pi_range1 rfl zr (pa_cons (pe_callB call_len_seq rfl zn boot_len (pa_cons (pv 1) pa_nil)) pa_nil)) (pg_name (i := 10) scByW.nd rfl (.inl rfl))
          (pss_cons (ps_par (i := 11) (j := 12) rfl scByW.nd rfl rfl (by decide) rfl rfl (pa_cons (pe_meth (pv 0) cl mr Fr hr br .nil pass0 (pa_cons (pv 9) (pa_cons (pv 10) pa_nil))) (pa_cons (pe_meth (pv 0) cl ml Fl hr bl .nil pass0 (pa_cons (pv 9) (pa_cons (pv 10) pa_nil))) pa_nil)) (by rfl))
          (pss_one (ps_for PassesOwn.never rfl (pi_tup (pe_tup (pa_cons (pe_tup (pa_cons (pv 11) (pa_cons (pe_dget1 hu (pv 4) (pe_tup (pa_cons (pv 9) (pa_cons (pv 10) pa_nil))) ⟨by rfl, by rfl, by rfl, by rfl⟩) pa_nil)))
              (pa_cons (pe_tup (pa_cons (pv 12) (pa_cons (pe_dget1 hu (pv 5) (pe_tup (pa_cons (pv 9) (pa_cons (pv 10) pa_nil))) ⟨by rfl, by rfl, by rfl, by rfl⟩) pa_nil))) pa_nil)))) (pg_tup rfl (pgs_cons (pg_name (i := 13) scByW.nd rfl (.inl rfl)) (pgs_cons (pg_name (i := 14) scByW.nd rfl (.inl rfl)) pgs_nil)))
            (pss_one (ps_if (PW.pt (pw_or (PW.pt (pw_and (pt_cmpR op_notN (pv 14) pe_non (nomark _)) (pw_and1 (pt_cmpR op_ne (pv 13) (pv 14) (nomark _))))) (pw_or1 (PW.pt (pw_and (pt_cmpR op_isN (pv 14) pe_non (nomark _)) (pw_and (pt_cmpR op_notN (pv 13) pe_non (nomark _)) (pw_and1 (pt_cmpR op_le (pe_callB call_len_str rfl zn boot_len (pa_cons (pv 13) pa_nil)) (pv 3) (nomark _))))))))) (pss_one (ps_ret pe_bl)) pss_nil))))))))
      (pss_one (ps_ret pe_bl))))), ?_⟩
    have FO := AC.form
    have hm := AC.made
    have lm := AC.len
    have rl := Tb.len
    have g1 : gens ≠ [] := List.ne_nil_of_length_pos FO.2.2.1
    have m2 : m.length ≤ 2000 := by have := FO.2.1; omega
    obtain ⟨rs, sp, lp, ep⟩ := RP.ex
    have pN : (prodTab rows m found.length).length = found.length := by rw [prodTab, List.length_map, List.length_range]
    have prow : ∀ i, i < found.length → (prodTab rows m found.length)[i]? = some (prodRow rows m found.length i) := fun i hi => by
      rw [prodTab, List.getElem?_map, List.getElem?_range hi]
      rfl
    have pent : ∀ i j, j < found.length → (prodRow rows m found.length i)[j]? = some (Mon.walk rows i ((Mon.wordTab m).getD j [])) := fun i j hj => by
      rw [prodRow, List.getElem?_map, List.getElem?_range hj]
      rfl
    refine fun d1 nd1 => fun d2 nd2 => ⟨_, _, rfl, ?_⟩
    have s1 := same_upd (o := .dT []) nd1
    have u2 := same_upd (o := .dT []) nd2
    have s2 := s1.trans u2
    have nd20 := nil_of s1 nd2
    have d12 : d1 ≠ d2 := fun z => by rw [← z, upd_same] at nd2; cases nd2
    have hd1 : L2.upd (L2.upd H d1 (.dT [])) d2 (.dT []) d1 = some (.dT []) := u2 _ _ upd_same
    have hd2 : L2.upd (L2.upd H d1 (.dT [])) d2 (.dT []) d2 = some (.dT []) := upd_same
    generalize L2.upd (L2.upd H d1 (.dT [])) d2 (.dT []) = H2 at s2 hd1 hd2 ⊢
    clear s1 u2 nd2
    refine ⟨_, rfl, _, rfl, gens.length, most, rfl, g3, m9, fun lw H3 s3 nlw hlw => ⟨lw, rfl, ⟨_, SqL.of hlw⟩, ?_⟩⟩
    have hd13 := s3 _ _ hd1
    have hd23 := s3 _ _ hd2
    have s03 := s2.trans s3
    have wfew : (upW gens.length most).length ≤ 590490 := by
      have := upW_few g3 (k := most) (by omega)
      have h2 : (most + 1) * 59049 ≤ 10 * 59049 := Nat.mul_le_mul_right _ (by omega)
      omega
    clear s3 s2 hd1 hd2
    refine for_list (K := K) (a := lw) (xs := (upW gens.length most).map wv) (fun j σ Hc => ∃ (v6 v7 v8 : Option V) (k1 k2 : List (List Key × V)), σ = [some (.ref x), some (.ref pp), some (.str (ws (List.range gens.length))), some (.int (most : Nat)), some (.ref d1), some (.ref d2), v6, v7, v8, none, none, none, none, none, none] ∧ Same H Hc ∧ Hc d1 = some (.dT k1) ∧ Hc d2 = some (.dT k2) ∧ Hc lw = some (.lst ((upW gens.length most).map wv)) ∧
        (∀ w', FD (Mon.actB false rows) found.length ((upW gens.length most).take j) w' 0 k1) ∧ ∀ w', FD (Mon.actB true (Mon.leftTab rows m)) found.length ((upW gens.length most).take j) w' 0 k2)
      ⟨none, none, none, [], [], rfl, s03, hd13, hd23, hlw, fun _ => FD.zero, fun _ => FD.zero⟩ (fun j σ Hc _ ⟨_, _, _, _, _, _, _, _, _, h, _⟩ => SqL.of h) (fun j y σ Hc hy ⟨v6, v7, v8, k1, k2, eσ, sc, h1, h2, hl, F1, F2⟩ => ?_) (fun σ Hc ⟨v6, v7, v8, k1, k2, eσ, sc, h1, h2, hl, F1, F2⟩ => ?_)
    · subst eσ
      obtain ⟨wd, hwd, rfl⟩ := map_get hy
      obtain ⟨wl, ww⟩ := upW_word (List.mem_of_getElem? hwd)
      have jl := get_lt hwd
      have Mc := M.same sc
      obtain ⟨dx, _, _, _, hxc, _⟩ := id Mc.ex
      refine ⟨_, rfl, x, dx, _, rfl, hxc, rfl, _, rfl, x, rows, m, gens.length, wd, rfl, Mc, FO, ww, by omega, fun H5 s5 => ?_⟩
      have sc5 := sc.trans s5
      obtain ⟨bl', _⟩ := right_prod (i := 0) Tb FO hm lm (by have := get_lt Tb.head; omega) ww
      generalize hby : Mon.walk rows 0 wd = by' at bl'
      have sp5 := L2.Same.seq sc5 sp
      refine ⟨_, rfl, pp, _, rfl, .inl sp5, ((found.length : Nat) : Int), by rw [List.length_map, lp, pN], by omega, by omega, for_range (lo := 0) (n := found.length) (fun c σ Hd => ∃ (v8 : Option V) (k1 k2 : List (List Key × V)), σ = [some (.ref x), some (.ref pp), some (.str (ws (List.range gens.length))), some (.int (most : Nat)), some (.ref d1), some (.ref d2), some (wv wd), some (.int (by' : Nat)), v8, none, none, none, none, none, none] ∧ Same H Hd ∧ Hd d1 = some (.dT k1) ∧ Hd d2 = some (.dT k2) ∧ Hd lw = some (.lst ((upW gens.length most).map wv)) ∧
          FD (Mon.actB false rows) found.length ((upW gens.length most).take j) wd c k1 ∧ FD (Mon.actB true (Mon.leftTab rows m)) found.length ((upW gens.length most).take j) wd c k2)
        ⟨v8, k1, k2, rfl, sc5, s5 _ _ h1, s5 _ _ h2, s5 _ _ hl, F1 wd, F2 wd⟩ (fun c σ Hd hc ⟨v8, k1, k2, eσ, sd, g1', g2', gl, G1, G2⟩ => ?_) (fun σ Hd ⟨v8, k1, k2, eσ, sd, g1', g2', gl, G1, G2⟩ => ?_)⟩
      · subst eσ
        have ec : (0 : Int) + (c : Nat) = (c : Nat) := by omega
        rw [ec]
        have spd := L2.Same.seq sd sp
        obtain ⟨rc, hrc⟩ := lt_get (show c < rs.length by omega)
        obtain ⟨rb, hrb⟩ := lt_get (show by' < rs.length by omega)
        have erc := L2.Same.seq sd (ep c rc _ hrc (prow c hc))
        have erb := L2.Same.seq sd (ep by' rb _ hrb (prow by' bl'))
        have q1 := (right_prod (i := c) Tb FO hm lm hc ww).2
        have q2 := left_prod (i := c) Tb g1 FO hm lm hc ww
        rw [hby] at q1 q2
        have p1 := pent c by' bl'
        have p2 := pent by' c hc
        rw [q1] at p1
        rw [q2] at p2
        have lk : (((upW gens.length most).take j).length) * found.length ≤ 590490 * 14 := Nat.mul_le_mul (by rw [List.length_take]; omega) f14
        have z1 := G1.len
        have z2 := G2.len
        refine ⟨_, rfl, d1, rfl, .inr ⟨_, .inl g1'⟩, _, rfl, _, rfl, _, rfl, pp, rs.map V.ref, _, .ref rc, rfl, rfl, spd, atI_nat (get_map hrc), _, rfl, rc, _, _, nv (Mon.actB false rows c wd), rfl, rfl, erc, atI_nat (get_map p1), (by show 2 ≤ sizeLine; decide), fun t nt => ?_⟩
        have u6 := same_upd (o := .tup [V.int (c : Nat), nv (Mon.actB false rows c wd)]) nt
        have ht : L2.upd Hd t (.tup [V.int (c : Nat), nv (Mon.actB false rows c wd)]) t = some (.tup ((kk c (Mon.actB false rows c wd)).map kV)) := upd_same
        generalize L2.upd Hd t (.tup [V.int (c : Nat), nv (Mon.actB false rows c wd)]) = H6 at u6 ht ⊢
        have s6 := sd.trans u6
        refine ⟨_, rfl, k1, kk c (Mon.actB false rows c wd), t, u6 _ _ g1', rfl, ht, (by show _ < 16777216; omega), two_k (z := wv wd) (R := fun H'' => ∃ k1', Same H H'' ∧ H'' d1 = some (.dT k1') ∧ H'' d2 = some (.dT k2) ∧ H'' lw = some (.lst ((upW gens.length most).map wv)) ∧ FD (Mon.actB false rows) found.length ((upW gens.length most).take j) wd (c + 1) k1') (fun v hv => ⟨k1, s6, u6 _ _ g1', u6 _ _ g2', u6 _ _ gl, G1.old hc hv⟩) (fun hn => ⟨_, (fun b o e => by
          rw [upd_ne (ne_of_none e nd1)]
          exact s6 b o e), upd_same, by rw [upd_ne d12.symm]; exact u6 _ _ g2', by rw [upd_ne (fun z => by have := u6 _ _ gl; rw [z, u6 _ _ g1'] at this; cases this)]; exact u6 _ _ gl, G1.put hc hn⟩) (fun v H7 ⟨k1', s7, e1, e2, e3, G1'⟩ => ?_)⟩
        have sp7 := L2.Same.seq s7 sp
        have erb7 := L2.Same.seq s7 (ep by' rb _ hrb (prow by' bl'))
        refine ⟨_, rfl, d2, rfl, .inr ⟨_, .inl e2⟩, _, rfl, _, rfl, _, rfl, pp, rs.map V.ref, _, .ref rb, rfl, rfl, sp7, atI_nat (get_map hrb), _, rfl, rb, _, _, nv (Mon.actB true (Mon.leftTab rows m) c wd), rfl, rfl, erb7, atI_nat (get_map p2), (by show 2 ≤ sizeLine; decide), fun t' nt' => ?_⟩
        have u8 := same_upd (o := .tup [V.int (c : Nat), nv (Mon.actB true (Mon.leftTab rows m) c wd)]) nt'
        have ht' : L2.upd H7 t' (.tup [V.int (c : Nat), nv (Mon.actB true (Mon.leftTab rows m) c wd)]) t' = some (.tup ((kk c (Mon.actB true (Mon.leftTab rows m) c wd)).map kV)) := upd_same
        generalize L2.upd H7 t' (.tup [V.int (c : Nat), nv (Mon.actB true (Mon.leftTab rows m) c wd)]) = H8 at u8 ht' ⊢
        have s8 := s7.trans u8
        refine ⟨_, rfl, k2, kk c (Mon.actB true (Mon.leftTab rows m) c wd), t', u8 _ _ e2, rfl, ht', (by show _ < 16777216; omega), two_k (z := wv wd) (R := fun H'' => ∃ k2', Same H H'' ∧ H'' d1 = some (.dT k1') ∧ H'' d2 = some (.dT k2') ∧ H'' lw = some (.lst ((upW gens.length most).map wv)) ∧ FD (Mon.actB true (Mon.leftTab rows m)) found.length ((upW gens.length most).take j) wd (c + 1) k2') (fun v hv => ⟨k2, s8, u8 _ _ e1, u8 _ _ e2, u8 _ _ e3, G2.old hc hv⟩) (fun hn => ⟨_, (fun b o e => by
          rw [upd_ne (ne_of_none e nd20)]
          exact s8 b o e), by rw [upd_ne d12]; exact u8 _ _ e1, upd_same, by rw [upd_ne (fun z => by have := u8 _ _ e3; rw [z, u8 _ _ e2] at this; cases this)]; exact u8 _ _ e3, G2.put hc hn⟩) (fun v H9 ⟨k2', s9, f1, f2, f3, G2'⟩ => ?_)⟩
        exact ⟨_, k1', k2', rfl, s9, f1, f2, f3, G1', G2'⟩
      · subst eσ
        have ej : (upW gens.length most).take (j + 1) = (upW gens.length most).take j ++ [wd] := take_snoc hwd
        exact ⟨_, _, _, k1, k2, rfl, sd, g1', g2', gl, fun w' => ej ▸ G1.next, fun w' => ej ▸ G2.next⟩
    · subst eσ
      rw [List.length_map, List.take_length] at F1 F2
      have G1 := fun i t (hi : i < found.length) => (F1 []).val i t hi
      have G2 := fun i t (hi : i < found.length) => (F2 []).val i t hi
      simp only [Nat.not_lt_zero, if_false] at G1 G2
      have sp1 := L2.Same.seq sc sp
      refine ⟨_, rfl, pp, _, rfl, .inl sp1, ((found.length : Nat) : Int), by rw [List.length_map, lp, pN], by omega, by omega, for_range (lo := 0) (n := found.length) (fun i σ Hd => ∃ v6 v7 v8 v9 v10 v11 v12 v13 v14 : Option V, σ = [some (.ref x), some (.ref pp), some (.str (ws (List.range gens.length))), some (.int (most : Nat)), some (.ref d1), some (.ref d2), v6, v7, v8, v9, v10, v11, v12, v13, v14] ∧ Same H Hd ∧ Hd d1 = some (.dT k1) ∧ Hd d2 = some (.dT k2))
        ⟨v6, v7, v8, none, none, none, none, none, none, rfl, sc, h1, h2⟩ (fun i σ Hd hi ⟨v6, v7, v8, v9, v10, v11, v12, v13, v14, eσ, sd, e1, e2⟩ => ?_) (fun σ Hd ⟨v6, v7, v8, v9, v10, v11, v12, v13, v14, eσ, sd, e1, e2⟩ => ?_)⟩
      · subst eσ
        have ei : (0 : Int) + (i : Nat) = (i : Nat) := by omega
        rw [ei]
        refine ⟨_, rfl, pp, _, rfl, .inl (L2.Same.seq sd sp), ((found.length : Nat) : Int), by rw [List.length_map, lp, pN], by omega, by omega, for_range (lo := 0) (n := found.length) (fun t σ He => ∃ v10 v11 v12 v13 v14 : Option V, σ = [some (.ref x), some (.ref pp), some (.str (ws (List.range gens.length))), some (.int (most : Nat)), some (.ref d1), some (.ref d2), v6, v7, v8, some (.int (i : Nat)), v10, v11, v12, v13, v14] ∧ Same H He ∧ He d1 = some (.dT k1) ∧ He d2 = some (.dT k2))
          ⟨v10, v11, v12, v13, v14, rfl, sd, e1, e2⟩ (fun t σ He ht ⟨v10, v11, v12, v13, v14, eσ, se, f1, f2⟩ => ?_) (fun σ He ⟨v10, v11, v12, v13, v14, eσ, se, f1, f2⟩ => ?_)⟩
        · subst eσ
          have et : (0 : Int) + (t : Nat) = (t : Nat) := by omega
          rw [et]
          have Me := M.same se
          obtain ⟨dx, _, _, _, hxe, _⟩ := id Me.ex
          refine ⟨_, rfl, x, dx, _, rfl, hxe, rfl, _, rfl, _, rfl, x, rows, m, gens.length, i, t, rfl, Me, AC, by omega, by omega, fun a1 H5 s5 L1 => ?_⟩
          refine ⟨_, rfl, x, dx, _, rfl, s5 _ _ hxe, rfl, _, rfl, _, rfl, x, rows, m, gens.length, i, t, rfl, Me.same s5, AC, by omega, by omega, fun a2 H6 s6 L2' => ?_⟩
          refine ⟨_, _, rfl, ?_⟩
          have s56 := s5.trans s6
          have se6 := se.trans s56
          have f16 := s56 _ _ f1
          have f26 := s56 _ _ f2
          have c1 := G1 i t hi
          have c2 := G2 i t hi
          refine ⟨_, rfl, _, rfl, d1, rfl, .inr ⟨_, .inl f16⟩, _, rfl, _, rfl, (by show 2 ≤ sizeLine; decide), fun t1 nt1 => ?_⟩
          have u1 := same_upd (o := .tup [V.int (i : Nat), V.int (t : Nat)]) nt1
          have hk1 : L2.upd H6 t1 (.tup [V.int (i : Nat), V.int (t : Nat)]) t1 = some (.tup ((kk i t).map kV)) := upd_same
          generalize L2.upd H6 t1 (.tup [V.int (i : Nat), V.int (t : Nat)]) = H7 at u1 hk1 ⊢
          refine ⟨_, DGet.t (k := kk i t) (u1 _ _ f16) hk1, ?_⟩
          rw [c1]
          refine ⟨(by show 2 ≤ sizeLine; decide), fun T1 nT1 => ?_⟩
          have u2 := same_upd (o := .tup [a1, (((upW gens.length most).find? fun u => decide (Mon.actB false rows i u = t)).map wv).getD .non]) nT1
          have hT1 : L2.upd H7 T1 (.tup [a1, (((upW gens.length most).find? fun u => decide (Mon.actB false rows i u = t)).map wv).getD .non]) T1 = some (.tup [a1, (((upW gens.length most).find? fun u => decide (Mon.actB false rows i u = t)).map wv).getD .non]) := upd_same
          generalize L2.upd H7 T1 (.tup [a1, (((upW gens.length most).find? fun u => decide (Mon.actB false rows i u = t)).map wv).getD .non]) = H8 at u2 hT1 ⊢
          have s68 := u1.trans u2
          refine ⟨_, rfl, _, rfl, d2, rfl, .inr ⟨_, .inl (s68 _ _ f26)⟩, _, rfl, _, rfl, (by show 2 ≤ sizeLine; decide), fun t2 nt2 => ?_⟩
          have u3 := same_upd (o := .tup [V.int (i : Nat), V.int (t : Nat)]) nt2
          have hk2 : L2.upd H8 t2 (.tup [V.int (i : Nat), V.int (t : Nat)]) t2 = some (.tup ((kk i t).map kV)) := upd_same
          generalize L2.upd H8 t2 (.tup [V.int (i : Nat), V.int (t : Nat)]) = H9 at u3 hk2 ⊢
          refine ⟨_, DGet.t (k := kk i t) (u3 _ _ (s68 _ _ f26)) hk2, ?_⟩
          rw [c2]
          have cd1 := cd_of (most := most) L1
          have cd2 := cd_of (most := most) L2'
          simp only [Bool.false_eq_true, if_false, if_true] at cd1 cd2
          generalize (((upW gens.length most).find? fun u => decide (Mon.actB false rows i u = t)).map wv).getD .non = o1 at cd1 hT1 ⊢
          generalize (((upW gens.length most).find? fun u => decide (Mon.actB true (Mon.leftTab rows m) i u = t)).map wv).getD .non = o2 at cd2 ⊢
          refine ⟨(by show 2 ≤ sizeLine; decide), fun T2 nT2 => ?_⟩
          have u4 := same_upd (o := .tup [a2, o2]) nT2
          have hT2 : L2.upd H9 T2 (.tup [a2, o2]) T2 = some (.tup [a2, o2]) := upd_same
          generalize L2.upd H9 T2 (.tup [a2, o2]) = H10 at u4 hT2 ⊢
          have s80 := u3.trans u4
          refine ⟨(by show 2 ≤ sizeLine; decide), fun TO nTO => ⟨TO, rfl, ⟨_, SqT.of upd_same⟩, ?_⟩⟩
          have u5 := same_upd (o := .tup [V.ref T1, V.ref T2]) nTO
          have hTO : L2.upd H10 TO (.tup [V.ref T1, V.ref T2]) TO = some (.tup [V.ref T1, V.ref T2]) := upd_same
          generalize L2.upd H10 TO (.tup [V.ref T1, V.ref T2]) = H11 at u5 hTO ⊢
          have s611 := s68.trans (s80.trans u5)
          have se11 := se6.trans s611
          refine for_tup (K := K) (a := TO) (xs := [V.ref T1, V.ref T2]) (fun c σ Hf => ∃ v13 v14 : Option V, σ = [some (.ref x), some (.ref pp), some (.str (ws (List.range gens.length))), some (.int (most : Nat)), some (.ref d1), some (.ref d2), v6, v7, v8, some (.int (i : Nat)), some (.int (t : Nat)), some a1, some a2, v13, v14] ∧ Same H11 Hf)
            ⟨v13, v14, rfl, L2.Same.refl _⟩ (fun c σ Hf _ ⟨_, _, _, z⟩ => SqT.of (z _ _ hTO)) (fun c y σ Hf hy ⟨v13, v14, eσ, sf⟩ => ?_) (fun σ Hf ⟨v13, v14, eσ, sf⟩ => ?_)
          · subst eσ
            obtain ⟨T', told, due, rfl, hT', cd⟩ : ∃ T' told due, y = V.ref T' ∧ Hf T' = some (.tup [told, due]) ∧ Cd most told due := by
              have hm := List.mem_of_getElem? hy
              simp only [List.mem_cons, List.not_mem_nil, or_false] at hm
              rcases hm with rfl | rfl
              · exact ⟨T1, a1, o1, rfl, sf _ _ (u5 _ _ (s80 _ _ hT1)), cd1⟩
              · exact ⟨T2, a2, o2, rfl, sf _ _ (u5 _ _ hT2), cd2⟩
            refine ⟨T', _, rfl, SqT.of hT', rfl, _, _, rfl, _, _, rfl, rfl, ?_⟩
            rcases cd with ⟨w0, rfl, rfl⟩ | ⟨rfl, rfl | ⟨w0, rfl, wl, wm⟩⟩
            · refine ⟨_, rfl, rfl, _, rfl, ?_⟩
              refine ifT rfl ?_
              refine ⟨_, rfl, _, rfl, rfl, _, rfl, ?_⟩
              refine ifF (by rw [decide_eq_true rfl]; rfl) ?_
              refine ⟨_, rfl, rfl, _, rfl, ?_⟩
              exact ifF rfl ⟨_, _, rfl, sf⟩
            · refine ⟨_, rfl, rfl, _, rfl, ?_⟩
              refine ifF rfl ?_
              refine ⟨_, rfl, rfl, _, rfl, ?_⟩
              refine ifT rfl ?_
              refine ⟨_, rfl, rfl, _, rfl, ?_⟩
              exact ifF rfl ⟨_, _, rfl, sf⟩
            · refine ⟨_, rfl, rfl, _, rfl, ?_⟩
              refine ifF rfl ?_
              refine ⟨_, rfl, rfl, _, rfl, ?_⟩
              refine ifT rfl ?_
              refine ⟨_, rfl, rfl, _, rfl, ?_⟩
              refine ifT rfl ?_
              refine ⟨_, rfl, ws w0, rfl, (by rw [ws_len]; show w0.length ≤ 16777216; omega), _, rfl, _, _, rfl, rfl, _, rfl, ?_⟩
              refine ifF (decide_eq_false (by rw [ws_len]; omega)) ?_
              exact ⟨_, _, rfl, sf⟩
          · subst eσ
            exact ⟨_, _, _, _, _, rfl, se11.trans sf, sf _ _ (s611 _ _ f16), sf _ _ (s611 _ _ f26)⟩
        · subst eσ
          exact ⟨_, _, _, _, _, _, _, _, _, rfl, se, f1, f2⟩
      · exact fin Hd sd
end
end K15

set_option Elab.async false
set_option linter.all false
set_option maxRecDepth 100000
set_option maxHeartbeats 4000000
/-! A head by three kernel runs: the looks, the view, the facts; the facts over the objects at the addresses as. -/
namespace Lf
open PySem PySem.W PySem.Calls PyProof.Rows
/-- classes, dicts, functions and the rest, in this order -/
def isCl : Obj → Bool
  | ⟨_, _, .cls _, _⟩ => true
  | _ => false
def isDi : Obj → Bool
  | ⟨_, _, .dict _ _, _⟩ => true
  | _ => false
def isFu : Obj → Bool
  | ⟨_, _, .func _, _⟩ => true
  | _ => false
def isFi : Obj → Bool
  | ⟨_, _, .fields vs, _⟩ => !vs.isEmpty
  | _ => false
/-- tuples: the defaults of defs -/
def isTu : Obj → Bool
  | ⟨.type "tuple", _, .seq _ _, _⟩ => true
  | _ => false
def sorted4 (l : Frag) : Frag := l.filter (fun q => isCl q.2) ++ (l.filter (fun q => isDi q.2) ++ (l.filter (fun q => isFu q.2) ++ (l.filter (fun q => isFi q.2) ++ l.filter fun q => isTu q.2)))
theorem sorted4_sub {l : Frag} {q : Addr × Obj} (h : q ∈ sorted4 l) : q ∈ l := by
  unfold sorted4 at h
  simp only [List.mem_append, List.mem_filter] at h
  rcases h with h | h | h | h | h <;> exact h.1
def frR (g : Addr → Option Obj) (as : List Addr) : Frag := sorted4 (He.frG g as)
theorem frR_in {as : List Addr} {h : Heap} : (frR h.get? as).In h := fun _ _ e => He.frG_mem (sorted4_sub (He.lookup_mem e))
theorem frR_none {g : Addr → Option Obj} {as : List Addr} {a : Addr} {o : Obj} (h : g a = some o) (ht : He.emptyTab o = true) : (frR g as).lookup a = none := by
  cases e : (frR g as).lookup a with
  | none => rfl
  | some u =>
    have m := He.lookup_mem e
    have z := He.frG_mem (sorted4_sub m)
    rw [h] at z
    obtain rfl := Option.some.inj z
    rw [He.emptyTab_eq ht] at m
    unfold frR sorted4 at m
    simp only [List.mem_append, List.mem_filter] at m
    rcases m with m | m | m | m | m <;> exact absurd m.2 (by decide)
/-- what is told: the facts, the Bool, the defs' code tables: empty, not among the objects looked at -/
structure SaysR (fa : List He.Fa) (fn : List He.DefD) (tf : List He.Defn) (ex : Frag → Bool) (h : Heap) (K : Frag) : Prop where
  d : He.SaysD fa fn K
  m : ex K = true
  hd : ∀ p ∈ tf, codeHdIn K (He.cT K p).1 (He.cT K p).2 = true
  out : ∀ p ∈ tf, K.lookup (He.cT K p).2 = none
  empty : ∀ p ∈ tf, h.get? (He.cT K p).2 = some { cls := .none, data := .fields #[] }
def obsR (as : List Addr) (fa : List He.Fa) (fn : List He.DefD) (tf : List He.Defn) (ex : Frag → Bool) (g : Addr → Option Obj) : He.AlD × Bool :=
  (He.obsD fa fn (frR g as), ex (frR g as) && He.tabsB g tf (frR g as))
theorem saysR_of {as : List Addr} {fa : List He.Fa} {fn : List He.DefD} {tf : List He.Defn} {ex : Frag → Bool} {h : Heap} (e : obsR as fa fn tf ex h.get? = (He.valD fn, true)) : SaysR fa fn tf ex h (frR h.get? as) := by
  obtain ⟨h1, h2⟩ := He.ba (show (ex (frR h.get? as) && He.tabsB h.get? tf (frR h.get? as)) = true from congrArg Prod.snd e)
  have key : ∀ p ∈ tf, codeHdIn (frR h.get? as) (He.cT (frR h.get? as) p).1 (He.cT (frR h.get? as) p).2 = true ∧ ∃ o, h.get? (He.cT (frR h.get? as) p).2 = some o ∧ He.emptyTab o = true := fun p hp => by
    obtain ⟨k1, k2⟩ := He.ba (List.all_eq_true.mp h2 p hp)
    refine ⟨k1, ?_⟩
    cases q : h.get? (He.cT (frR h.get? as) p).2 with
    | none => rw [q] at k2; cases k2
    | some o => rw [q] at k2; exact ⟨o, rfl, k2⟩
  refine ⟨congrArg Prod.fst e, h1, fun p hp => (key p hp).1, fun p hp => ?_, fun p hp => ?_⟩
  · obtain ⟨_, o, q, z⟩ := key p hp
    exact frR_none q z
  · obtain ⟨_, o, q, z⟩ := key p hp
    rw [q, He.emptyTab_eq z]
def hookR (as : List Addr) (fa : List He.Fa) (fn : List He.DefD) (tf : List He.Defn) (ex : Frag → Bool) : Hook where
  α := He.AlD × Bool
  obs := fun s => obsR as fa fn tf ex s.heap.get?
  val := fun _ => (He.valD fn, true)
  says := fun _ h => ∃ K : Frag, K.In h ∧ SaysR fa fn tf ex h K
  of := fun _ _ e => ⟨_, frR_in, saysR_of e⟩
  keeps := fun _ _ _ ⟨K, hK, c⟩ k => ⟨K, Frag.In.keeps hK k, ⟨c.d, c.m, c.hd, c.out, fun p hp => k _ _ (c.empty p hp)⟩⟩
theorem obsR_eq {as : List Addr} {fa : List He.Fa} {fn : List He.DefD} {tf : List He.Defn} {ex : Frag → Bool} {g : Addr → Option Obj} {s : Shared} (h : ∀ a, g a = s.heap.get? a) : obsR as fa fn tf ex g = (hookR as fa fn tf ex).obs s := by
  have e : g = s.heap.get? := funext h
  rw [e] <;> rfl
theorem three {α A B C : Type} {o : Option α} {f : α → A} {g : α → B} {h : α → C} {a : A} {b : B} {c : C} (x : o.map f = some a) (y : o.map g = some b) (z : o.map h = some c) : o.map (fun s => (f s, g s, h s)) = some (a, b, c) := by
  cases o with
  | none => cases x
  | some s =>
    have x1 : f s = a := Option.some.inj x
    have y1 : g s = b := Option.some.inj y
    have z1 : h s = c := Option.some.inj z
    show some (f s, g s, h s) = _
    rw [x1, y1, z1]
/-- the state behind the top -/
noncomputable def endOf (r : OpenRow) (M : Nat) (w : World) (os : OsState) : Option SharedT := HandSHeadRun.endF (HandSHeadRun.stepQ (HandSHeadRun.denQ HandSHeadRun.tabQ) r.prog w) M r.prog w os
noncomputable def looksOf (r : OpenRow) (w : World) (s : SharedT) : Bool := HandSHeadRun.looksF r.prog (boot_heap w.params) s.abs
noncomputable def viewOf (r : OpenRow) (q : Program) (loose : List PySem.Str) (s : SharedT) := HandSHeadRun.seenQ q loose (importedModules r.prog.main.body) (fun s => xlAt q [] s && recOk r.toRowW.records s) s.abs
theorem run_three {r : OpenRow} {q : Program} {H : Hook} {ob : SharedT → H.α} {M : Nat} {loose : List PySem.Str} {w : World} (a : ∀ os, (endOf r M w os).map (looksOf r w) = some true)
    (b : ∀ os, (endOf r M w os).map (viewOf r q loose) = some (openGood q loose)) (c : ∀ os, (endOf r M w os).map ob = some (H.val w)) : HandSHeadRun.RunEq r q H ob M loose w := fun os => three (a os) (b os) (c os)
end Lf

set_option Elab.async false
set_option linter.all false
set_option maxRecDepth 100000
set_option maxHeartbeats 4000000
/-! sorted(xs, key=lambda p: p[1]) of pairs (a thing, a text) that are in order already. -/
namespace Lf
open PySem PySem.Spec PyProof.Rows L2 LamX
abbrev lamArgs (x : Str) (p : Pos) : Arguments := { posonlyargs := [], args := [{ arg := x, annotation := none, pos := p }], vararg := none, kwonlyargs := [], kw_defaults := [], kwarg := none, defaults := [] }
abbrev lamScope (x : Str) : Scope := { kind := .function, names := [(x, .local)], isGenerator := false, isCoroutine := false }
abbrev lamBody (x : Str) (p1 p2 p3 : Pos) (j : Nat) : Expr := .Subscript (.Name x p1) (.Constant (.int 1) j p2) p3
section
variable {prog : Program} {w : World} {A : Around} {s : Shared}
/-- the lambda called on a pair -/
theorem lam_key {f c' t : Addr} {x qual u : Str} {pp p1 p2 p3 : Pos} {j : Nat} {pm ctv v0 : Value} {tk : Tok} (hx : (x == ("__debug__" : Str)) = false) (hd : A.depth < recursionLimit) (lim : s.heap.NoLimit)
    (hf : s.heap.get? f = some (PySem.W.kla_obj "<lambda>" qual (lamArgs x pp) (lamBody x p1 p2 p3 j) (lamScope x) [] pm c' ctv))
    (hb : bindArgs (PySem.W.kla_fn "<lambda>" qual (lamArgs x pp) (lamBody x p1 p2 p3 j) (lamScope x) [] pm (.ref c') ctv) ⟨[.ref t], []⟩ = pure [(x, .ref t)])
    (hc : ∃ (oc : Obj) (vs : Array Value) (t : Tok), s.heap.get? c' = some oc ∧ oc.data = .fields vs ∧ vs[1]? = some (.str qual t)) (ht : IsTup s.heap t #[v0, .str u tk]) :
    wpAny (model prog w) A (call (.ref f) [.ref t]) (PySem.W.KeyPure (.str u) s) (fun _ _ => False) s := by
  obtain ⟨oc, vs, t', hoc, hdc, hvc⟩ := hc
  refine wpAny_call (PySem.W.kla_callFunE hd hf rfl rfl rfl rfl ⟨c', oc, vs, t', rfl, hoc, hdc, hvc⟩ ?_)
  rw [hb]
  refine wpAny_pure (wpAny_newFunctionEnv (fun y hy => ?_) (fun y hy => ?_) (fun h₁ hns hsb => ⟨lim.fresh _ hsb, ?_⟩) rfl)
  · cases List.mem_singleton.mp hy
    intro z
    cases z
  · cases List.mem_singleton.mp hy
    show ([(x, NameKind.local)] : List (Str × NameKind)).lookup x = _
    simp
  · have kp : ∀ b o, s.heap.get? b = some o → h₁.get? b = some o := fun b o e => hsb.extBut b o (Nat.ne_of_lt (Heap.lt_size e)) (Heap.get?_push_of_some _ e)
    refine PySem.W.kla_codeExpr (Subscript_ (wpAny_Name (wpAny_loadName_local (v := .ref t) rfl ?_ hns ?_ ?_) hx))
    · show ([(x, NameKind.local)] : List (Str × NameKind)).lookup x = _
      simp
    · simp
    · refine wpAny_Constant_int ?_
      refine item_tuple (j := 1) (x := .str u tk) (items := #[v0, .str u tk]) ?_ (by decide) (by decide) (by rfl) (by rfl) ?_
      · exact ht.keeps kp
      · exact ⟨h₁, _, rfl, kp, .str u tk⟩
end
/-- a thing and a text, the place of their pair -/
abbrev Pt3 := Addr × V × Str
abbrev keyLe (b c : Pt3) : Prop := b.2.2.cps.toList ≤ c.2.2.cps.toList
def tSrtLam (K : PySem.W.Frag) (T : List (Addr × Str)) (te : TE) : TE := fun σ H Q => te σ H fun v H1 => ∃ (a : Addr) (bs : List Pt3), v = .ref a ∧ SqL K H1 a (bs.map fun b => V.ref b.1) ∧ (∀ b ∈ bs, H1 b.1 = some (.tup [b.2.1, .str b.2.2])) ∧ bs.Pairwise keyLe ∧ Tabs T H1 ∧
  ∀ p H2, ExtN H1 H2 → Tabs T H2 → (∀ o, H1 p = some o → ∃ ps, o = .tbl ps) → H2 p = some (.lst (bs.map fun b => V.ref b.1)) → Q (.ref p) H2
theorem vals_refs3 : ∀ {bs : List Pt3} {its : List Value}, Vals (bs.map fun b => V.ref b.1) its → PySem.W.EachIs (fun (v : Value) (b : Pt3) => v = Value.ref b.1) its bs
  | [], _, .nil => .nil
  | b :: bs, _ :: _, .cons r t => .cons r (vals_refs3 t)
theorem refs3_vals : ∀ {bs : List Pt3} {its : List Value}, PySem.W.EachIs (fun (v : Value) (b : Pt3) => v = Value.ref b.1) its bs → Vals (bs.map fun b => V.ref b.1) its
  | [], _, .nil => .nil
  | b :: bs, _ :: _, .cons r t => .cons r (refs3_vals t)
section
variable {X : Cx}
theorem sqL_extN {K : PySem.W.Frag} {H H' : Hp} {a : Addr} {xs : List V} (e : ExtN H H') (h : SqL K H a xs) : SqL K H' a xs := by
  rcases h with (h | ⟨o, h⟩) | h
  · exact .inl (.inl (e _ _ h (fun ps z => by cases z)))
  · exact .inl (.inr ⟨o, e _ _ h (fun ps z => by cases z)⟩)
  · exact .inr h
theorem sqT_extN {K : PySem.W.Frag} {H H' : Hp} {a : Addr} {xs : List V} (e : ExtN H H') (h : SqT K H a xs) : SqT K H' a xs := by
  rcases h with (h | ⟨o, h⟩) | h
  · exact .inl (.inl (e _ _ h (fun ps z => by cases z)))
  · exact .inl (.inr ⟨o, e _ _ h (fun ps z => by cases z)⟩)
  · exact .inr h
theorem pe_sortedLam {T : List (Addr × Str)} {c P : Addr} {k : Nat} {x y : Str} {te : TE} {py pp p p1 p2 p3 lpos kpos pos : Pos} {j : Nat} (hr : Room (k + 2) X.A) (hg : Gl X "sorted") (hm : X.mg "sorted" = none) (hx : (x == ("__debug__" : Str)) = false)
    (TB : TabB X.base X.mg c P) (hcode : X.env.code = .ref c) (hmT : (P, X.env.qual ++ "<lambda>") ∈ T) (hu : ∀ p ∈ T, p.1 = P → p.2 = X.env.qual ++ "<lambda>") (ha : PE X (.Name y py) te)
    (hbind : ∀ (q : Str) (pm cv ctv u : Value), bindArgs (PySem.W.kla_fn "<lambda>" q (lamArgs x pp) (lamBody x p1 p2 p3 j) (lamScope x) [] pm cv ctv) ⟨[u], []⟩ = pure [(x, u)]) :
    PE X (.Call (.Name "sorted" p) [.Name y py] [⟨some "key", .Lambda (lamArgs x pp) (lamBody x p1 p2 p3 j) (lamScope x) lpos, kpos⟩] pos) (tSrtLam X.K T te) := by
  refine ⟨fun pins s σ H Q I h => ?_⟩
  have hv : bootBuiltins "sorted" = some (.builtin "sorted") := by kernel_rfl
  refine wpAny_Call_Name_kw (ld_blt I hg hm hv ?_)
  refine PyProof.Rows.callWith_kw (Calls.spliced_cons (thn (ha.run pins s σ H _ I h) fun u s1 hq => Calls.spliced_nil ?_))
  obtain ⟨v, H1, I1, r1, a, bs, rfl, hs, hbs, hord, hT, q⟩ := hq
  obtain rfl : u = Value.ref a := r1
  show wpAny _ _ (evalAll ((do let v ← eval (.Lambda (lamArgs x pp) (lamBody x p1 p2 p3 j) (lamScope x) lpos) X.env; standAt pos; pure v) :: [])) _ _ s1
  refine wpAny_evalAll_cons (wpAny_bind (lam_make2 I1 TB hcode hmT hu hT (by rfl) (fun y hy e => ?_) fun f c' pm ctv H2 s2 I2 eN T2 hf hfn hfr hco => wpAny_bind (wpAny_standAt (wpAny_pure (wpAny_evalAll_nil ?_)))))
  · cases List.mem_singleton.mp hy
    cases e
  show wpAny _ _ (call (.builtin "sorted") [.ref a] [(Str.ofString "key", .ref f)]) _ _ s2
  obtain ⟨its, rv, hl, hz⟩ := I2.list (sqL_extN eN hs)
  rw [List.length_map] at hz
  have hbs2 : ∀ b ∈ bs, H2 b.1 = some (.tup [b.2.1, .str b.2.2]) := fun b hb => eN _ _ (hbs b hb) (fun ps z => by cases z)
  refine PySem.W.sorted_key_data (R := fun (v : Value) (b : Pt3) => v = Value.ref b.1) (bs := bs) (b := false) (fun b => .str b.2.2) hl.isList (vals_refs3 rv) (fun d hd d' hd' => ?_) (.inr fun d hd => ?_) hz (fun b hb => ?_) (ksk_s1 _ _) (fun _ => ksk_l1 _ _) (fun x => ksk_t1 f x) (fun v b e hb h tk kp => ?_) (fun out c1 h' tk kp nf hout lo eo => ?_)
  · obtain ⟨b, _, rfl⟩ := List.mem_map.mp hd
    obtain ⟨b', _, rfl⟩ := List.mem_map.mp hd'
    rfl
  · obtain ⟨b, _, rfl⟩ := List.mem_map.mp hd
    exact ⟨(fun z => by cases z), (fun xs z => by cases z)⟩
  · have := hr.un
    have e : (PyData.str b.2.2).depth ≤ 1 := by simp [PyData.depth]
    omega
  · subst e
    obtain ⟨its2, rv2, ht2, _⟩ := I2.tuple (.inl (.inl (hbs2 b hb)))
    obtain ⟨v0, v1, rfl, e0, e1⟩ := vals2 rv2
    obtain ⟨tk1, rfl⟩ := e1
    obtain ⟨oc, vs, t, e1, e2, e3⟩ := (I2.hok c' _ hco).1
    refine lam_key (s := { s2 with heap := h, toks := tk }) hx ?_ (I2.nolimit.keeps kp) (kp _ _ hf) (hbind _ _ _ _ _) ⟨oc, vs, t, kp _ _ e1, e2, e3⟩ (ht2.keeps kp)
    have := hr.dp
    show X.A.depth < _
    omega
  · have em : bs.mergeSort (PySem.W.dataLe false fun b : Pt3 => .str b.2.2) = bs := by
      rw [PySem.W.dataLe_str]
      exact List.mergeSort_of_pairwise (hord.imp fun h => decide_eq_true h)
    rw [em] at eo
    have np : H2 (s2.heap.objs.size + 1) = none := I2.hok.fresh (Nat.le_succ _)
    have hlen : (bs.map fun b : Pt3 => V.ref b.1).length ≤ sizeLine := by rw [List.length_map]; exact hz
    refine ⟨.ref _, upd H2 (s2.heap.objs.size + 1) (.lst (bs.map fun b => V.ref b.1)), I2.laid kp (Nat.le_succ _) ⟨hlen, out, c1, refs3_vals eo, hout⟩, rfl, q _ _ (eN.trans (ExtN.of fun b o e => by rw [upd_ne (ne_of_none e np)]; exact e)) (T2.ext fun b o e => by rw [upd_ne (ne_of_none e np)]; exact e) (fun o ho => ?_) upd_same⟩
    cases hq : H1 (s2.heap.objs.size + 1) with
    | none => rw [hq] at ho; cases ho
    | some u =>
      rw [hq] at ho
      cases ho
      by_cases ht : ∃ ps, o = .tbl ps
      · exact ht
      · have := eN _ _ hq (fun ps z => ht ⟨ps, z⟩)
        rw [np] at this
        cases this
end
end Lf
namespace Lf
open PySem PySem.Spec PyProof.Rows L2 LamX
section
variable {P : Program} {w : World} {K : PySem.W.Frag} {mg : Str → Option Value} {base : Heap} {x qual : Str} {params : Arguments} {body : List Stmt} {scope : Scope} {dvs : List V} {kws : List (Str × V)} {fd : FuncData} {a : He.Defn}
/-- a def's promise, its code object told -/
theorem okC {CX : CXT} {N ps : List Str} {k : Nat} {sp : Sp} (F : FunD K x qual params body scope dvs kws (He.fAd K a) fd) (S : FnScope N ps scope) (len : ∀ vs H Q E, sp vs H Q E → vs.length = ps.length)
    (hb : ∀ (A : Around) (outer : List Env) (s : Shared) (H : Hp) (vs : List V) (Q : VK) (E : XK), Room k (A.deeper (envOfC qual scope s.heap.objs.size (He.fAd K a) (.ref (He.codeOf K a)))) → sp vs H Q E →
      ∃ t, PSs (cxOf CX P w K mg base N qual scope (He.fAd K a) (.ref (He.codeOf K a)) A outer s H E) body t ∧ t { nx := fun _ H' => Q .non H', rt := Q } (L2.start N vs) H) : FnOk P w K mg base CX (k + 1) (He.fAd K a) fd ps sp := by
  obtain ⟨oc, od, dV, kV, doc, pm, an, cdv, ct, osl, rfl, lk, hcd, _, _⟩ := F.ex
  obtain ⟨c, rfl⟩ := He.codeIn_ref hcd
  have e := He.codeOf_eq lk rfl
  subst e
  exact fn_of lk hcd S len hb
end
end Lf

set_option Elab.async false
set_option linter.all false
set_option maxRecDepth 100000
set_option maxHeartbeats 8000000
namespace K15
open PySem PySem.Spec PyProof.Rows L2 Lf LamX
/-- the table of the lambda's code object -/
abbrev TT (K : PySem.W.Frag) : List (Addr × Str) := [((He.cT K ("_law_steps", none)).2, (("_law_steps" : Str) ++ (".<locals>." : Str)) ++ ("<lambda>" : Str))]
/-- at a stands nothing, or a table -/
def Nt (H : Hp) (a : Addr) : Prop := ∀ o, H a = some o → ∃ ps, o = .tbl ps
theorem Nt.of {H : Hp} {a : Addr} (h : H a = none) : Nt H a := fun o e => by rw [h] at e; cases e
theorem nt_ext {H H' : Hp} {a : Addr} (e : ExtN H H') (h : Nt H' a) : Nt H a := fun o ho => by
  by_cases ht : ∃ ps, o = .tbl ps
  · exact ht
  · exact h o (e _ _ ho (fun ps z => ht ⟨ps, z⟩))
theorem extN_upd {H H' : Hp} {a : Addr} {o : HO} (e : ExtN H H') (n : Nt H a) : ExtN H (L2.upd H' a o) := fun b u hb hn => by
  rw [upd_ne (fun z => by
    subst z
    obtain ⟨ps, z⟩ := n u hb
    exact hn ps z)]
  exact e b u hb hn
theorem tabs_upd {T : List (Addr × Str)} {H : Hp} {a : Addr} {o o' : HO} (t : Tabs T H) (h : H a = some o') (h1 : ∀ ps, o' ≠ .tbl ps) (h2 : ∀ φ, o' ≠ .ext φ) : Tabs T (L2.upd H a o) := fun p hp => by
  obtain ⟨ps, e1, e2, e3⟩ := t p hp
  have ne : ∀ b u, H b = some u → u ≠ o' → b ≠ a := fun b u hb hu z => by
    rw [z, h] at hb
    exact hu (Option.some.inj hb).symm
  refine ⟨ps, by rw [upd_ne (ne _ _ e1 (fun z => h1 ps z.symm))]; exact e1, e2, fun pos cv hc => ?_⟩
  obtain ⟨c, e4, e5⟩ := e3 pos cv hc
  refine ⟨c, e4, ?_⟩
  rw [upd_ne (ne _ _ e5 (fun z => h2 _ z.symm))]
  exact e5
/-- pairs of number and word, as they lie -/
structure Prs (H : Hp) (D : Addr) (prs : List Addr) (qs : List (Nat × List Nat)) : Prop where
  at' : H D = some (.lst (prs.map V.ref))
  len : prs.length = qs.length
  el : ∀ (j : Nat) a q, prs[j]? = some a → qs[j]? = some q → H a = some (.tup [nv q.1, wv q.2])
theorem Prs.ext {H H' : Hp} {D : Addr} {prs : List Addr} {qs : List (Nat × List Nat)} (h : Prs H D prs qs) (e : ExtN H H') : Prs H' D prs qs :=
  ⟨e _ _ h.at' (fun ps z => by cases z), h.len, fun j a q h1 h2 => e _ _ (h.el j a q h1 h2) (fun ps z => by cases z)⟩
theorem Prs.same {H H' : Hp} {D : Addr} {prs : List Addr} {qs : List (Nat × List Nat)} (h : Prs H D prs qs) (e : Same H H') : Prs H' D prs qs := h.ext (ExtN.of e)
theorem Prs.nil {H : Hp} {D : Addr} (h : H D = some (.lst [])) : Prs H D [] [] := ⟨h, rfl, fun j a q h => by simp at h⟩
theorem Prs.cat {H : Hp} {D : Addr} {ps rs : List Addr} {qs us : List (Nat × List Nat)} (h : Prs H D ps qs) (l : rs.length = us.length) (e : ∀ (j : Nat) a q, rs[j]? = some a → us[j]? = some q → H a = some (.tup [nv q.1, wv q.2])) :
    Prs (L2.upd H D (.lst (ps.map V.ref ++ rs.map V.ref))) D (ps ++ rs) (qs ++ us) := by
  refine ⟨by rw [upd_same, List.map_append], by rw [List.length_append, List.length_append, h.len, l], fun j a q h1 h2 => ?_⟩
  have f : H a = some (.tup [nv q.1, wv q.2]) := by
    by_cases hj : j < ps.length
    · rw [List.getElem?_append_left hj] at h1
      rw [List.getElem?_append_left (by rw [← h.len]; exact hj)] at h2
      exact h.el j a q h1 h2
    · rw [List.getElem?_append_right (by omega)] at h1
      rw [List.getElem?_append_right (by rw [← h.len]; omega), ← h.len] at h2
      exact e _ a q h1 h2
  rw [upd_ne (fun z => by rw [z, h.at'] at f; cases f)]
  exact f
theorem Prs.add {H : Hp} {D t : Addr} {ps : List Addr} {qs : List (Nat × List Nat)} {q : Nat × List Nat} (h : Prs H D ps qs) (ht : H t = some (.tup [nv q.1, wv q.2])) : Prs (L2.upd H D (.lst (ps.map V.ref ++ [.ref t]))) D (ps ++ [t]) (qs ++ [q]) :=
  h.cat (rs := [t]) (us := [q]) rfl fun j a r h1 h2 => by
    cases j with
    | zero => cases h1; cases h2; exact ht
    | succ j => simp at h1
/-- texts in their order -/
theorem llt_key : ∀ {x y : List Nat}, Mon.llt x y → (x.map fun c => 97 + c) < (y.map fun c => 97 + c)
  | [], _, h => h.elim
  | _ :: _, [], h => h.elim
  | a :: x, b :: y, h => by
    rw [List.map_cons, List.map_cons, List.cons_lt_cons_iff]
    rcases h with h | ⟨rfl, h⟩
    · exact .inl (by omega)
    · exact .inr ⟨rfl, llt_key h⟩
abbrev b3 (prs : List Addr) (qs : List (Nat × List Nat)) : List Pt3 := (prs.zip qs).map fun z => (z.1, nv z.2.1, ws z.2.2)
theorem b3_refs {prs : List Addr} {qs : List (Nat × List Nat)} (l : prs.length = qs.length) : (b3 prs qs).map (fun b => V.ref b.1) = prs.map V.ref := by
  rw [List.map_map]
  show (prs.zip qs).map (V.ref ∘ Prod.fst) = _
  rw [← List.map_map, List.map_fst_zip (by omega)]
theorem b3_el {H : Hp} {D : Addr} {prs : List Addr} {qs : List (Nat × List Nat)} (h : Prs H D prs qs) : ∀ b ∈ b3 prs qs, H b.1 = some (.tup [b.2.1, .str b.2.2]) := fun b hb => by
  obtain ⟨z, hz, rfl⟩ := List.mem_map.mp hb
  obtain ⟨j, hj⟩ := List.getElem?_of_mem hz
  obtain ⟨h1, h2⟩ := List.getElem?_zip_eq_some.mp hj
  exact h.el j _ _ h1 h2
theorem b3_ord {prs : List Addr} {qs : List (Nat × List Nat)} (l : prs.length = qs.length) (h : qs.Pairwise fun p q => Mon.llt p.2 q.2) : (b3 prs qs).Pairwise keyLe := by
  rw [List.pairwise_map]
  have e : ((prs.zip qs).map Prod.snd).Pairwise fun p q => Mon.llt p.2 q.2 := by
    rw [List.map_snd_zip (by omega)]
    exact h
  rw [List.pairwise_map] at e
  exact e.imp fun {a b} z => by
    have := llt_key z
    show (ws a.2.2).cps.toList ≤ (ws b.2.2).cps.toList
    unfold ws
    exact List.le_of_lt this
end K15

set_option Elab.async false
set_option linter.all false
set_option maxRecDepth 100000
set_option maxHeartbeats 8000000
namespace K15
open PySem PySem.Spec PyProof.Rows L2 Lf LamX
def spSteps (K : PySem.W.Frag) : Sp := fun vs H Q _ => ∃ pt rows wd s, vs = [.ref pt, .int (s : Nat)] ∧ RowsL K H pt rows ∧ Form rows wd ∧ wd ≤ 3 ∧ rows.length ≤ 14 ∧ s < rows.length ∧ Tabs (TT K) H ∧
  ∀ d l H', ExtN H H' → Tabs (TT K) H' → H' d = some (.dK (wT l)) → (∀ t, Mon.Ways false rows wd s t l) → Q (.ref d) H'
abbrev NST : List Str := ["_law_rows", "_law_first", "_law_found", "_law_layer", "_law_turn", "_law_longer", "_law_number", "_law_word", "_law_letter", "_law_other"]
abbrev teSt : TE := tTup (tCons (tVar 9) (tCons (tOp (fun x y H Q => ∃ i j, x = .str i ∧ y = .str j ∧ i.length + j.length ≤ sizeLine ∧ Q (.str (i ++ j)) H) (tVar 7) (tVar 8)) tNil))
section
variable {P : Program} {w : World} {K : PySem.W.Frag} {mg : Str → Option Value} {base : Heap}
theorem scSteps : FnScope NST ["_law_rows", "_law_first"] (defScope s_L_steps) := ⟨rfl, rfl, rfl, by decide +kernel, rfl, by decide +kernel, by decide +kernel⟩
theorem ok_steps {fd : FuncData} (F : FunD K "_law_steps" "_law_steps" (defArgs s_L_steps) (defBody s_L_steps) (defScope s_L_steps) [] [] (He.fAd K ("_law_steps", none)) fd) (TB : TabB base mg (He.cT K ("_law_steps", none)).1 (He.cT K ("_law_steps", none)).2)
    (zr : mg "range" = none) (zn : mg "len" = none) (zz : mg "zip" = none) (zs : mg "sorted" = none) :
    FnOk P w K mg base CX0 4 (He.fAd K ("_law_steps", none)) fd ["_law_rows", "_law_first"] (spSteps K) := by
  refine okC F scSteps (fun vs H Q E h => ?_) (fun A outer s H vs Q E hr h => ?_)
  · obtain ⟨pt, rows, wd, s, rfl, _⟩ := h
    rfl
  · obtain ⟨pt, rows, wd, s0, rfl, R, FO, w3, r14, hs, hT, k⟩ := h
    have hu : (A.deeper (envOfC "_law_steps" (defScope s_L_steps) s.heap.objs.size (He.fAd K ("_law_steps", none)) (.ref (He.codeOf K ("_law_steps", none))))).units + 1 < cLine := by have := hr.units; omega
    refine ⟨_, PSs.nox (pss_cons (ps_par (i := 2) (j := 3) rfl scSteps.nd rfl rfl (by decide) rfl rfl (pa_cons (pe_disp (pps_cons (pv 1) pe_str pps_nil) (by rfl) (by rfl) (fun z => by cases z) (by decide)) (pa_cons (pe_lst (pa_cons (pe_tup (pa_cons (pv 1) (pa_cons pe_str pa_nil))) pa_nil)) pa_nil)) (by rfl))
      (pss_cons (ps_for PassesOwn.never rfl (pi_range1 rfl zr (pa_cons (pe_callB call_len_seq rfl zn boot_len (pa_cons (pv 0) pa_nil)) pa_nil)) (pg_name (i := 4) scSteps.nd rfl (.inl rfl))
        (pss_cons (ps_set (i := 5) scSteps.nd rfl (.inl rfl) (pe_lst pa_nil))
        (pss_cons (ps_for PassesOwn.never rfl (pi_list (pv 3)) (pg_tup rfl (pgs_cons (pg_name (i := 6) scSteps.nd rfl (.inl rfl)) (pgs_cons (pg_name (i := 7) scSteps.nd rfl (.inr rfl)) pgs_nil)))
          (pss_one (ps_expr (pe_bm PySem.F.plainAttrs_list PySem.F.slot_list_extend PySem.F.type_list_extend mt_extend (pv 5) (pa_cons (pe_lc (own := [("_law_letter", 8), ("_law_other", 9)]) (g := gTup K 2 (gCons (gName 8) (gCons (gName 9) gNil))) (te := teSt) (by rfl) scSteps.nd (pi_zips rfl zz (pa_cons pe_str (pa_cons (pe_ix ix_list (pv 0) (pv 6) (fun _ _ => rfl)) pa_nil))) (blkOk_by (own := [("_law_letter", 8), ("_law_other", 9)]) (N := NST) (sc := defScope s_L_steps) (by decide +kernel))
              (fun _ _ _ _ _ => pg_tup rfl (pgs_cons (pg_name (i := 8) scSteps.nd rfl (Or.inl rfl)) (pgs_cons (pg_name (i := 9) scSteps.nd rfl (Or.inl rfl)) pgs_nil))) (fun _ _ _ _ _ => pts_nil)
            (fun _ _ _ _ _ => by exact pe_tup (pa_cons (pv 9) (pa_cons (pe_op op_add_str (pv 7) (pv 8)) pa_nil)))) pa_nil)))))
        (pss_cons (ps_set (i := 3) scSteps.nd rfl (.inl rfl) (pe_lst pa_nil))
        (pss_one (ps_for PassesOwn.never rfl (pi_list (pe_sortedLam (k := 1) (T := TT K) hr rfl zs rfl TB rfl List.mem_cons_self (fun p hp _ => by rw [List.mem_singleton.mp hp]; rfl) (pv 5) (fun _ _ _ _ _ => rfl))) (pg_tup rfl (pgs_cons (pg_name (i := 6) scSteps.nd rfl (.inl rfl)) (pgs_cons (pg_name (i := 7) scSteps.nd rfl (.inr rfl)) pgs_nil)))
          (pss_one (ps_if (pt_cmp (pc_dnotin hu (pv 6) (pv 2)) (by rfl))
            (pss_cons (ps_dput hu (pv 2) (pv 6) (pv 7) rfl)
            (pss_one (ps_expr (pe_bm PySem.F.plainAttrs_list PySem.F.slot_list_append PySem.F.type_list_append mt_append (pv 3) (pa_cons (pe_tup (pa_cons (pv 6) (pa_cons (pv 7) pa_nil))) pa_nil))))) pss_nil))))))))
      (pss_one (ps_ret (pv 2))))), ?_⟩
    have f5 := FO.2.2.2.2
    have n1 := FO.1
    obtain ⟨as, hrow, la, erow⟩ := R.ex
    refine fun d nd => ⟨_, rfl, upd_same, [(ik s0, .str ("" : Str))], rfl, (by show 1 ≤ 15; decide), ?_⟩
    rw [L2.upd_upd]
    have s1 := same_upd (o := .dK (mergeK [] [(ik s0, V.str ("" : Str))])) nd
    have hd1 : L2.upd H d (.dK (mergeK [] [(ik s0, V.str ("" : Str))])) d = some (.dK (wT [(s0, [])])) := upd_same
    generalize L2.upd H d (.dK (mergeK [] [(ik s0, V.str ("" : Str))])) = H1 at s1 hd1 ⊢
    refine ⟨_, rfl, (by show 2 ≤ sizeLine; decide), fun t0 nt0 => ?_⟩
    have u2 := same_upd (o := .tup [V.int (s0 : Nat), V.str ("" : Str)]) nt0
    have ht2 : L2.upd H1 t0 (.tup [V.int (s0 : Nat), V.str ("" : Str)]) t0 = some (.tup [nv s0, wv []]) := upd_same
    generalize L2.upd H1 t0 (.tup [V.int (s0 : Nat), V.str ("" : Str)]) = H2 at u2 ht2 ⊢
    refine ⟨(by show 1 ≤ sizeLine; decide), fun ly nly => ?_⟩
    have u3 := same_upd (o := .lst [V.ref t0]) nly
    have s3 := s1.trans (u2.trans u3)
    have hd3 := u3 _ _ (u2 _ _ hd1)
    have P3 : Prs (L2.upd H2 ly (.lst [V.ref t0])) ly [t0] [(s0, [])] := ⟨upd_same, rfl, fun j a q h1 h2 => by
      cases j with
      | zero => cases h1; cases h2; exact u3 _ _ ht2
      | succ j => simp at h1⟩
    generalize L2.upd H2 ly (.lst [V.ref t0]) = H3 at s3 hd3 P3 ⊢
    clear s1 u2 u3 hd1 ht2 nt0 nly
    have ndl : ly ≠ d := fun z => by have := P3.at'; rw [z, hd3] at this; cases this
    refine ⟨_, _, rfl, ?_⟩
    refine ⟨_, rfl, pt, _, rfl, .inl (L2.Same.seq s3 hrow), ((rows.length : Nat) : Int), by rw [List.length_map, la], by omega, by omega, ?_⟩
    refine for_range (lo := 0) (n := rows.length) (fun i σ Hn => ∃ (v4 v5 v6 v7 : Option V) (ly : Addr) (prs : List Addr) (Kn L : List (Nat × List Nat)), σ = [some (.ref pt), some (.int (s0 : Nat)), some (.ref d), some (.ref ly), v4, v5, v6, v7, none, none] ∧ ExtN H Hn ∧ Tabs (TT K) Hn ∧ Hn d = some (.dK (wT Kn)) ∧ Prs Hn ly prs L ∧
        Mon.Lev wd (Mon.actB false rows s0) i Kn L ∧ (Mon.nums Kn).Nodup ∧ (∀ p ∈ Kn, p.1 < rows.length) ∧ (∀ p ∈ Kn, p.2.length < Kn.length) ∧ (L ≠ [] → i + 1 ≤ Kn.length))
      ⟨none, none, none, none, ly, _, _, _, rfl, ExtN.of s3, hT.ext s3, hd3, P3, Mon.Lev.zero Mon.actB_nil, (by simp), (fun p hp => by rw [List.mem_singleton.mp hp]; exact hs), (fun p hp => by rw [List.mem_singleton.mp hp]; exact Nat.one_pos), (fun _ => by simp)⟩
      (fun i σ Hn hi ⟨v4, v5, v6, v7, ly, prs, Kn, L, eσ, sn, hTn, hdn, PL, LV, ndK, ltK, kl, kl2⟩ => ?_) (fun σ Hn ⟨v4, v5, v6, v7, ly, prs, Kn, L, eσ, sn, hTn, hdn, PL, LV, ndK, ltK, kl, kl2⟩ => ?_)
    · subst eσ
      obtain ⟨Kf, Lf'⟩ := lev_few LV ndK ltK
      refine ⟨(by show 0 ≤ sizeLine; decide), fun lg nlg => ?_⟩
      have u1 := same_upd (o := .lst []) nlg
      have G1 : Prs (L2.upd Hn lg (.lst [])) lg [] (((L.take 0).flatMap fun p => (List.range wd).map fun c => (p, c)).map (Mon.candB false rows)) := Prs.nil upd_same
      generalize L2.upd Hn lg (.lst []) = H4 at u1 G1 ⊢
      have PL4 := PL.same u1
      refine ⟨_, rfl, ly, rfl, ⟨_, SqL.of PL4.at'⟩, for_list (K := K) (a := ly) (xs := prs.map V.ref) (fun j σ Hc => ∃ (v6 v7 : Option V) (gs : List Addr), σ = [some (.ref pt), some (.int (s0 : Nat)), some (.ref d), some (.ref ly), some (.int (0 + (i : Nat))), some (.ref lg), v6, v7, none, none] ∧ Same Hn Hc ∧ Prs Hc lg gs (((L.take j).flatMap fun p => (List.range wd).map fun c => (p, c)).map (Mon.candB false rows)))
        ⟨v6, v7, [], rfl, u1, G1⟩ (fun j σ Hc _ ⟨_, _, _, _, sc, _⟩ => SqL.of (PL.same sc).at') (fun j x σ Hc hx ⟨v6, v7, gs, eσ, sc, G⟩ => ?_) (fun σ Hc ⟨v6, v7, gs, eσ, sc, G⟩ => ?_)⟩
      · subst eσ
        obtain ⟨a, ha, rfl⟩ := map_get hx
        obtain ⟨q, hq⟩ := lt_get (show j < L.length by have := get_lt ha; have := PL.len; omega)
        have qK := (LV.lev q).mp (List.mem_of_getElem? hq)
        have q1 := ltK q qK.1
        obtain ⟨ar, har⟩ := lt_get (show q.1 < as.length by omega)
        obtain ⟨row, hrow'⟩ := lt_get q1
        obtain ⟨l1, l2⟩ := f5 row (List.mem_of_getElem? hrow')
        have sn' : ExtN H Hc := sn.trans (ExtN.of sc)
        refine ⟨a, _, rfl, SqT.of (sc _ _ (PL.el j a q ha hq)), rfl, _, _, rfl, _, _, rfl, rfl, ?_⟩
        refine ⟨_, rfl, .inl ⟨rfl, _, SqL.of G.at'⟩, ?_⟩
        refine ⟨_, rfl, _, rfl, pt, as.map V.ref, _, .ref ar, rfl, rfl, sqL_extN sn' hrow, atI_nat (get_map har), _, ar, row.map nv, rfl, sqL_extN sn' (erow _ ar row har hrow'), fun D nD => ?_⟩
        have c3 : row.length ≤ 6 := by omega
        refine lc_it (walk_zips (x := ("abcdef" : Str)) (ys := row.map nv) (b := ar) (K := K) (by rw [List.length_map]; exact c3)) (fun t Hd => But D Hc Hd ∧ ∃ rs : List Addr, Hd D = some (.lst (rs.map V.ref)) ∧ rs.length = t ∧ ∀ (z : Nat) b e, rs[z]? = some b → row[z]? = some e → Hd b = some (.tup [nv e, wv (q.2 ++ [z])])) ⟨But.upd, [], upd_same, rfl, fun z b e h1 h2 => by simp at h1⟩
          (fun t Hd _ ⟨bd, _⟩ => sqL_extN (sn'.trans (ExtN.of (Same.but (L2.Same.refl _) nD bd))) (erow _ ar row har hrow')) (fun t y Hd H' ht ⟨bd, rs, hD, lr, er⟩ ⟨T, c, y', ey, nT, e', hc, hy⟩ => ?_) (fun Hd ⟨bd, rs, hD, lr, er⟩ => ?_)
        · subst ey e'
          obtain ⟨e, he, rfl⟩ := map_get hy
          have tl := get_lt he
          have cc := letter_at (show t < 6 by omega) hc
          have u8 := same_upd (o := .tup [.str ⟨#[c]⟩, nv e]) nT
          refine ⟨T, _, rfl, SqT.of upd_same, rfl, _, _, rfl, _, _, rfl, rfl, ?_⟩
          refine ⟨rfl, yesT ?_⟩
          have ql := (LV.fst q qK.1).2
          refine ⟨_, rfl, _, rfl, _, rfl, ws q.2, ⟨#[c]⟩, rfl, rfl, (by rw [ws_len]; show q.2.length + 1 ≤ 16777216; omega), ?_⟩
          subst cc
          rw [ws_app]
          have hD8 := u8 _ _ hD
          have er8 : ∀ (z : Nat) b e2, rs[z]? = some b → row[z]? = some e2 → L2.upd Hd T (.tup [.str ⟨#[97 + t]⟩, nv e]) b = some (.tup [nv e2, wv (q.2 ++ [z])]) := fun z b e' h1 h2 => by
            exact u8 _ _ (er z b e' h1 h2)
          generalize L2.upd Hd T (.tup [.str ⟨#[97 + t]⟩, nv e]) = H8 at u8 hD8 er8 ⊢
          refine ⟨(by show 2 ≤ sizeLine; decide), fun T2 nT2 => ?_⟩
          have u9 := same_upd (o := .tup [nv e, V.str (ws (q.2 ++ [t]))]) nT2
          have hT2 : L2.upd H8 T2 (.tup [nv e, V.str (ws (q.2 ++ [t]))]) T2 = some (.tup [nv e, wv (q.2 ++ [t])]) := upd_same
          generalize L2.upd H8 T2 (.tup [nv e, V.str (ws (q.2 ++ [t]))]) = H9 at u9 hT2 ⊢
          refine ⟨_, u9 _ _ hD8, ?_, bd.trans ((But.of (u8.trans u9)).trans But.upd), rs ++ [T2], ?_, by simp [lr], fun z b e' h1 h2 => ?_⟩
          · rw [List.length_map]
            show rs.length < 16777216
            omega
          · rw [upd_same, List.map_append]
            rfl
          · have f : H9 b = some (.tup [nv e', wv (q.2 ++ [z])]) := by
              rcases Mon.snoc_cases h1 with h1 | ⟨e1, rfl⟩
              · exact u9 _ _ (er8 z b e' h1 h2)
              · rw [lr] at e1
                subst e1
                rw [he] at h2
                cases h2
                exact hT2
            rw [upd_ne (fun z => by rw [z, u9 _ _ hD8] at f; cases f)]
            exact f
        · have sd := Same.but (L2.Same.refl _) nD bd
          have Gd := G.same sd
          rw [List.length_map, l1] at lr
          have eq1 : (((L.take (j + 1)).flatMap fun p => (List.range wd).map fun c => (p, c)).map (Mon.candB false rows)) = (((L.take j).flatMap fun p => (List.range wd).map fun c => (p, c)).map (Mon.candB false rows)) ++ (List.range wd).map fun c => Mon.candB false rows (q, c) := by
            rw [take_snoc hq, List.flatMap_append, List.map_append]
            simp
          have nlg0 : lg ≠ D := fun z => by have := G.at'; rw [z, nD] at this; cases this
          refine ⟨lg, D, _, _, rfl, rfl, Gd.at', hD, ?_, ?_⟩
          · have := G.len
            rw [List.length_map, flat_len (mk := fun p c => (p, c)), List.length_take, List.length_range] at this
            have h2 : min j L.length * wd ≤ 14 * 3 := Nat.mul_le_mul (by omega) w3
            rw [List.length_map, List.length_map]
            show gs.length + rs.length ≤ 16777216
            omega
          · refine ⟨_, _, gs ++ rs, rfl, fun b o e => ?_, ?_⟩
            · rw [upd_ne (ne_of_none e nlg)]
              exact sd _ _ (sc b o e)
            · rw [eq1]
              refine Gd.cat (by rw [List.length_map, List.length_range, lr]) fun z b r h1 h2 => ?_
              rw [List.getElem?_map, List.getElem?_range (by have := get_lt h1; omega)] at h2
              cases h2
              obtain ⟨e, he⟩ := lt_get (show z < row.length by have := get_lt h1; omega)
              have es : Mon.stp rows q.1 z = e := by
                unfold Mon.stp
                rw [Mon.getD_of hrow', Mon.getD_of he]
              have := er z b e h1 he
              rw [← es] at this
              exact this
      · subst eσ
        have ell : (prs.map V.ref).length = L.length := by rw [List.length_map, PL.len]
        rw [ell, List.take_length] at G
        change Prs Hc lg gs ((Mon.stepsB false wd L).map (Mon.candB false rows)) at G
        have sn5 : ExtN H Hc := sn.trans (ExtN.of sc)
        have hT5 := hTn.ext sc
        have hd5 := sc _ _ hdn
        have MID := Mon.midB (b := false) (rows := rows) LV
        refine ⟨(by show 0 ≤ sizeLine; decide), fun ly2 nly2 => ?_⟩
        have u2 := same_upd (o := .lst []) nly2
        have nt2 : Nt H ly2 := nt_ext sn5 (.of nly2)
        have sn6 := sn5.trans (ExtN.of u2)
        have hT6 := hT5.ext u2
        have hd6 := u2 _ _ hd5
        have G6 := G.same u2
        have PN : Prs (L2.upd Hc ly2 (.lst [])) ly2 [] [] := Prs.nil upd_same
        generalize L2.upd Hc ly2 (.lst []) = H6 at sn6 hT6 hd6 G6 PN ⊢
        clear u2 nly2 sn5 hT5 hd5 G PL sc
        refine ⟨_, rfl, lg, b3 gs _, rfl, SqL.of (by rw [b3_refs G6.len]; exact G6.at'), b3_el G6, b3_ord G6.len MID.srt, hT6, fun p H7 e7 hT7 ntp hp => ?_⟩
        rw [b3_refs G6.len] at hp
        have npl : p ≠ ly2 := fun z => by
          obtain ⟨ps, e⟩ := ntp _ (by rw [z]; exact PN.at')
          cases e
        have sn7 := sn6.trans e7
        have hd7 := e7 _ _ hd6 (fun ps z => by cases z)
        have PN7 := PN.ext e7
        have G7 : ∀ (j : Nat) a q, gs[j]? = some a → ((Mon.stepsB false wd L).map (Mon.candB false rows))[j]? = some q → H7 a = some (.tup [nv q.1, wv q.2]) := fun j a q h1 h2 => e7 _ _ (G6.el j a q h1 h2) (fun ps z => by cases z)
        have lgs := G6.len
        clear sn6 hd6 PN G6 hT6 ntp e7
        refine ⟨p, rfl, ⟨_, SqL.of hp⟩, for_list (K := K) (a := p) (xs := gs.map V.ref) (fun c σ Hc => ∃ (v6 v7 : Option V) (ns : List Addr) (N : List (Nat × List Nat)), σ = [some (.ref pt), some (.int (s0 : Nat)), some (.ref d), some (.ref ly2), some (.int (0 + (i : Nat))), some (.ref lg), v6, v7, none, none] ∧ ExtN H Hc ∧ Tabs (TT K) Hc ∧ Hc d = some (.dK (wT (Kn ++ N))) ∧ Prs Hc ly2 ns N ∧ Hc p = some (.lst (gs.map V.ref)) ∧
            (∀ (j : Nat) a q, gs[j]? = some a → ((Mon.stepsB false wd L).map (Mon.candB false rows))[j]? = some q → Hc a = some (.tup [nv q.1, wv q.2])) ∧ Mon.New wd (Mon.actB false rows s0) i Kn ((Mon.stepsB false wd L).map (Mon.candB false rows)) c N ∧ (Mon.nums (Kn ++ N)).Nodup ∧ ∀ p ∈ Kn ++ N, p.1 < rows.length)
          ⟨v6, v7, [], [], rfl, sn7, hT7, by rw [List.append_nil]; exact hd7, PN7, hp, G7, Mon.New.zero, by rw [List.append_nil]; exact ndK, by rw [List.append_nil]; exact ltK⟩ (fun c σ Hc _ ⟨_, _, _, _, _, _, _, _, _, h, _⟩ => SqL.of h) (fun c x σ Hc hx ⟨v6, v7, ns, N, eσ, sc, hTc, hdc, PNc, hpc, Gc, NW, ndN, ltN⟩ => ?_) (fun σ Hc ⟨v6, v7, ns, N, eσ, sc, hTc, hdc, PNc, hpc, Gc, NW, ndN, ltN⟩ => ?_)⟩
        · subst eσ
          obtain ⟨a, ha, rfl⟩ := map_get hx
          obtain ⟨q, hq⟩ := lt_get (show c < ((Mon.stepsB false wd L).map (Mon.candB false rows)).length by have := get_lt ha; omega)
          refine ⟨a, _, rfl, SqT.of (Gc c a q ha hq), rfl, _, _, rfl, _, _, rfl, rfl, ?_⟩
          refine ⟨_, rfl, _, rfl, d, valV (wT (Kn ++ N)) (ik q.1), rfl, DGet.k (k := ik q.1) hdc, ?_⟩
          by_cases hin : q.1 ∈ Mon.nums (Kn ++ N)
          · obtain ⟨r, hr', er⟩ := List.mem_map.mp hin
            have e := wT_some ndN hr'
            rw [show r.1 = q.1 from er] at e
            rw [e]
            refine ⟨_, rfl, ifF rfl ?_⟩
            exact ⟨_, _, ns, N, rfl, sc, hTc, hdc, PNc, hpc, Gc, NW.old hq hin, ndN, ltN⟩
          · rw [wT_none hin]
            refine ⟨_, rfl, ifT rfl ?_⟩
            have NW' := Mon.Mid.new MID NW hq hin
            have Nl : N.length ≤ 42 := by
              have := NW.sub.length_le
              rw [List.length_take, List.length_map, steps_len] at this
              have h2 : L.length * wd ≤ 14 * 3 := Nat.mul_le_mul (by omega) w3
              omega
            have zl : (wT (Kn ++ N)).length < sizeLine := by rw [wT_len, List.length_append]; show _ < 16777216; omega
            have q1 : q.1 < rows.length := by
              obtain ⟨r, hr', er⟩ := List.mem_map.mp (List.mem_of_getElem? hq)
              obtain ⟨rL, rw'⟩ := Mon.mem_steps.mp hr'
              have rK := ltK r.1 ((LV.lev r.1).mp rL).1
              obtain ⟨row, hrow'⟩ := lt_get rK
              obtain ⟨l1, l2⟩ := f5 row (List.mem_of_getElem? hrow')
              obtain ⟨e, he⟩ := lt_get (show r.2 < row.length by omega)
              rw [← er]
              show Mon.stp rows r.1.1 r.2 < _
              unfold Mon.stp
              rw [Mon.getD_of hrow', Mon.getD_of he]
              exact l2 e (List.mem_of_getElem? he)
            refine ⟨_, rfl, _, rfl, _, rfl, d, _, rfl, DPut.k (k := ik q.1) hdc zl, ?_⟩
            have ep : putK (wT (Kn ++ N)) (ik q.1) (V.str (ws q.2)) = wT (Kn ++ (N ++ [q])) := by
              rw [← List.append_assoc]
              exact wT_put hin
            rw [ep]
            have nlyd : ly2 ≠ d := fun z => by have := PNc.at'; rw [z, hdc] at this; cases this
            have npd : p ≠ d := fun z => by rw [z, hdc] at hpc; cases hpc
            have sc1 : ExtN H (L2.upd Hc d (.dK (wT (Kn ++ (N ++ [q]))))) := extN_upd sc (.of nd)
            have hT1 : Tabs (TT K) (L2.upd Hc d (.dK (wT (Kn ++ (N ++ [q]))))) := tabs_upd hTc hdc (fun ps z => by cases z) (fun φ z => by cases z)
            have hd1 : L2.upd Hc d (.dK (wT (Kn ++ (N ++ [q])))) d = some (.dK (wT (Kn ++ (N ++ [q])))) := upd_same
            have bd : ∀ b o, b ≠ d → Hc b = some o → L2.upd Hc d (.dK (wT (Kn ++ (N ++ [q])))) b = some o := fun b o n e => by rw [upd_ne n]; exact e
            have tne : ∀ b x y, Hc b = some (.tup [x, y]) → b ≠ d := fun b x y e z => by rw [z, hdc] at e; cases e
            have PN1 : Prs (L2.upd Hc d (.dK (wT (Kn ++ (N ++ [q]))))) ly2 ns N := ⟨bd _ _ nlyd PNc.at', PNc.len, fun j a r h1 h2 => bd _ _ (tne _ _ _ (PNc.el j a r h1 h2)) (PNc.el j a r h1 h2)⟩
            have G1 : ∀ (j : Nat) a r, gs[j]? = some a → ((Mon.stepsB false wd L).map (Mon.candB false rows))[j]? = some r → L2.upd Hc d (.dK (wT (Kn ++ (N ++ [q])))) a = some (.tup [nv r.1, wv r.2]) := fun j a r h1 h2 => bd _ _ (tne _ _ _ (Gc j a r h1 h2)) (Gc j a r h1 h2)
            have hp1 := bd _ _ npd hpc
            generalize L2.upd Hc d (.dK (wT (Kn ++ (N ++ [q])))) = H8 at sc1 hT1 hd1 PN1 G1 hp1 ⊢
            clear bd tne sc hTc hdc PNc Gc hpc
            refine ⟨_, rfl, .inl ⟨rfl, _, SqL.of PN1.at'⟩, _, rfl, _, rfl, (by show 2 ≤ sizeLine; decide), fun t nt => ?_⟩
            have u9 := same_upd (o := .tup [nv q.1, V.str (ws q.2)]) nt
            have ht9 : L2.upd H8 t (.tup [nv q.1, V.str (ws q.2)]) t = some (.tup [nv q.1, wv q.2]) := upd_same
            generalize L2.upd H8 t (.tup [nv q.1, V.str (ws q.2)]) = H9 at u9 ht9 ⊢
            have PN9 := PN1.same u9
            refine ⟨ly2, _, _, rfl, rfl, PN9.at', ?_, ?_⟩
            · rw [List.length_map, PN9.len]
              show N.length < 16777216
              omega
            · refine ⟨_, _, ns ++ [t], N ++ [q], rfl, extN_upd (sc1.trans (ExtN.of u9)) nt2, tabs_upd (hT1.ext u9) PN9.at' (fun ps z => by cases z) (fun φ z => by cases z), ?_, PN9.add ht9, ?_, fun j a r h1 h2 => ?_, NW', ?_, fun r hr' => ?_⟩
              · rw [upd_ne nlyd.symm]
                exact u9 _ _ hd1
              · rw [upd_ne npl]
                exact u9 _ _ hp1
              · have f := u9 _ _ (G1 j a r h1 h2)
                rw [upd_ne (fun z => by rw [z, PN9.at'] at f; cases f)]
                exact f
              · rw [← List.append_assoc, Mon.nums, List.map_append, List.nodup_append]
                exact ⟨ndN, by simp, fun x hx y hy e => hin (by rw [List.mem_singleton.mp hy] at e; rw [show x = q.1 from e] at hx; exact hx)⟩
              · rw [← List.append_assoc] at hr'
                rcases List.mem_append.mp hr' with hr' | hr'
                · exact ltN r hr'
                · rw [List.mem_singleton.mp hr']
                  exact q1
        · subst eσ
          have e1 : gs.length = ((Mon.stepsB false wd L).map (Mon.candB false rows)).length := lgs
          rw [List.length_map, e1] at NW
          have LV' := Mon.Mid.done MID NW
          have NL : N ≠ [] → i + 1 ≤ Kn.length := fun hN => kl2 fun hL => hN (by
            have := NW.sub.length_le
            rw [List.length_take, List.length_map, steps_len, hL, List.length_nil, Nat.zero_mul] at this
            exact List.length_eq_zero_iff.mp (by omega))
          refine ⟨_, some (.ref lg), v6, v7, ly2, ns, Kn ++ N, N, rfl, sc, hTc, hdc, PNc, LV', ndN, ltN, fun p hp => ?_, fun hN => ?_⟩
          · rw [List.length_append]
            rcases List.mem_append.mp hp with hp | hp
            · have := kl p hp
              omega
            · have := (NW.fst p hp).2
              have := NL (List.ne_nil_of_mem hp)
              have := List.length_pos_of_mem hp
              omega
          · have := NL hN
            have := List.length_pos_iff.mpr hN
            rw [List.length_append]
            omega
    · subst eσ
      have kn := (lev_few LV ndK ltK).1
      have L0 : L = [] := by
        cases L with
        | nil => rfl
        | cons a r =>
          have := kl2 (by simp)
          omega
      subst L0
      exact ⟨_, rfl, k d Kn Hn sn hTn hdn fun t => ⟨fun p hp => (LV.fst p hp).1, ndK, fun p hp => (by have := kl p hp; omega), by
        by_cases ht : t ∈ Mon.nums Kn
        · exact .inl ht
        · exact .inr fun v hv e => ht (e ▸ Mon.Lev.all (wd := wd) Mon.wyB Mon.actB_ext LV v.length v (Nat.le_refl _) hv)⟩⟩
end
end K15

set_option Elab.async false
set_option linter.all false
set_option maxRecDepth 100000
set_option maxHeartbeats 8000000
namespace K15
open PySem PySem.Spec PyProof.Rows L2 Lf LamX
theorem RowsL.extN {K : PySem.W.Frag} {H H' : Hp} {r : Addr} {rows : List (List Nat)} (h : RowsL K H r rows) (e : ExtN H H') : RowsL K H' r rows := by
  obtain ⟨as, a, b, c⟩ := h.ex
  exact ⟨as, sqL_extN e a, b, fun i x row h1 h2 => sqL_extN e (c i x row h1 h2)⟩
theorem RowsT.extN {K : PySem.W.Frag} {H H' : Hp} {r : Addr} {rows : List (List Nat)} (h : RowsT K H r rows) (e : ExtN H H') : RowsT K H' r rows := by
  obtain ⟨as, a, b, c⟩ := h.ex
  exact ⟨as, sqT_extN e a, b, fun i x row h1 h2 => sqT_extN e (c i x row h1 h2)⟩
theorem MadeT.extN {K : PySem.W.Frag} {H H' : Hp} {r : Addr} {m : List (Nat × Nat)} (h : MadeT K H r m) (e : ExtN H H') : MadeT K H' r m := by
  obtain ⟨as, a, b, c⟩ := h.ex
  exact ⟨as, sqT_extN e a, b, fun i x row h1 h2 => sqT_extN e (c i x row h1 h2)⟩
theorem Mo.extN {K : PySem.W.Frag} {H H' : Hp} {x : Addr} {rows : List (List Nat)} {m : List (Nat × Nat)} (h : Mo K H x rows m) (e : ExtN H H') : Mo K H' x rows m := by
  obtain ⟨dx, t, u, v, a, b, c, d⟩ := h.ex
  exact ⟨dx, t, u, v, e _ _ a (fun ps z => by cases z), b.extN e, c.extN e, d.extN e⟩
theorem Maps.extN {H H' : Hp} {p : Addr} {gens : List (List Nat)} (h : Maps H p gens) (e : ExtN H H') : Maps H' p gens := by
  obtain ⟨as, a, b, c⟩ := h.ex
  exact ⟨as, e _ _ a (fun ps z => by cases z), b, fun i x row h1 h2 => e _ _ (c i x row h1 h2) (fun ps z => by cases z)⟩
/-- one thing is told of first words -/
theorem lw_uniq {b : Bool} {rows : List (List Nat)} {wd s t : Nat} {v u : V} (h : LW b rows wd s t v) (k : LW b rows wd s t u) : v = u := by
  rcases h with ⟨rfl, h⟩ | ⟨x, rfl, _, h⟩ <;> rcases k with ⟨rfl, k⟩ | ⟨y, rfl, _, k⟩
  · rfl
  · exact absurd k.at' (h y k.ok)
  · exact absurd h.at' (k x h.ok)
  · rw [h.uniq k]
theorem lw_self {b : Bool} {rows : List (List Nat)} {wd s : Nat} (h : 0 < rows.length) : LW b rows wd s s (wv []) :=
  .inr ⟨[], rfl, ⟨Nat.zero_le _, h⟩, ⟨(fun d hd => nomatch hd), Mon.actB_nil, fun v _ _ => by
    cases v with
    | nil => exact .inr ⟨rfl, .inl rfl⟩
    | cons a r => exact .inl (by simp)⟩⟩
theorem lw_scal {b : Bool} {rows : List (List Nat)} {wd s t : Nat} {v : V} (h : LW b rows wd s t v) : scal v v = true := by
  rcases h with ⟨rfl, _⟩ | ⟨x, rfl, _, _⟩ <;> rfl
theorem inV_nv {t : Nat} {l : List Nat} : inV (nv t) (l.map nv) = decide (t ∈ l) := by
  induction l with
  | nil => rfl
  | cons a r ih =>
    unfold inV at ih ⊢
    rw [List.map_cons, List.any_cons, ih]
    show (((a : Nat) : Int) == ((t : Nat) : Int) || decide (t ∈ r)) = _
    rw [Bool.eq_iff_iff]
    simp only [Bool.or_eq_true, beq_iff_eq, decide_eq_true_eq, List.mem_cons]
    constructor
    · rintro (h | h)
      · exact .inl (by omega)
      · exact .inr h
    · rintro (h | h)
      · exact .inl (by omega)
      · exact .inr h
theorem all_nv {l : List Nat} : (l.map nv).all flatV = true := by
  rw [List.all_eq_true]
  intro x hx
  obtain ⟨a, _, rfl⟩ := List.mem_map.mp hx
  rfl
section
variable {n : Nat} {gens found rows : List (List Nat)} {m : List (Nat × Nat)}
def prodCol (rows : List (List Nat)) (m : List (Nat × Nat)) (N y : Nat) : List Nat := (List.range N).map fun x => Mon.walk rows x ((Mon.wordTab m).getD y [])
/-- None exactly if it isn't a product from the right -/
theorem lw_row (T : Mon.Tab n gens found rows) (FO : Form rows gens.length) (hm : Mon.madeTab 0 rows [] = some m) (lm : m.length + 1 = rows.length) {i t : Nat} (hi : i < found.length) {v : V} (h : LW false rows gens.length i t v) :
    decide (v = .non) = !decide (t ∈ prodRow rows m found.length i) := by
  rcases h with ⟨rfl, h⟩ | ⟨x, rfl, _, h⟩
  · rw [decide_eq_true rfl, decide_eq_false]
    · rfl
    · intro hz
      obtain ⟨j, hj, e⟩ := List.mem_map.mp hz
      exact h _ (word_letters FO hm j) e
  · have hj := right_prod T FO hm lm hi h.ok
    rw [decide_eq_true (show t ∈ prodRow rows m found.length i from List.mem_map.mpr ⟨_, List.mem_range.mpr hj.1, hj.2.trans h.at'⟩)]
    rfl
theorem lw_col (T : Mon.Tab n gens found rows) (g1 : gens ≠ []) (FO : Form rows gens.length) (hm : Mon.madeTab 0 rows [] = some m) (lm : m.length + 1 = rows.length) {i t : Nat} (hi : i < found.length) {v : V} (h : LW true (Mon.leftTab rows m) gens.length i t v) :
    decide (v = .non) = !decide (t ∈ prodCol rows m found.length i) := by
  rcases h with ⟨rfl, h⟩ | ⟨x, rfl, _, h⟩
  · rw [decide_eq_true rfl, decide_eq_false]
    · rfl
    · intro hz
      obtain ⟨j, hj, e⟩ := List.mem_map.mp hz
      have jl := List.mem_range.mp hj
      have wj := word_letters FO hm j
      have q := left_prod T g1 FO hm lm hi wj
      rw [Mon.walk_word hm j j (Nat.le_refl _) (by rw [lm, T.len]; exact jl)] at q
      exact h _ wj (q.symm.trans e)
  · have hj := (right_prod T FO hm lm hi h.ok).1
    have q := left_prod T g1 FO hm lm hi h.ok
    rw [decide_eq_true (show t ∈ prodCol rows m found.length i from List.mem_map.mpr ⟨_, List.mem_range.mpr hj, q.trans h.at'⟩)]
    rfl
end
end K15

set_option Elab.async false
set_option linter.all false
set_option maxRecDepth 100000
set_option maxHeartbeats 8000000
namespace K15
open PySem PySem.Spec PyProof.Rows L2 Lf LamX
def spRight (K : PySem.W.Frag) : Sp := fun vs H Q _ => ∃ x pf pt n gens found rows m, vs = [.ref x, .ref pf, .ref pt] ∧ Mo K H x rows m ∧ Accept rows gens.length m ∧ Maps H pf found ∧ RowsL K H pt rows ∧ Mon.Tab n gens found rows ∧ n ≤ 4 ∧ gens.length ≤ 3 ∧ found.length ≤ 14 ∧ Tabs (TT K) H ∧
  ∀ H', ExtN H H' → Tabs (TT K) H' → Q (.bl true) H'
abbrev NRI : List Str := ["_law_monoid", "_law_found", "_law_table_here", "_law_products_here", "_law_many", "_law_one", "_law_steps_here", "_law_other", "_law_word", "_law_row"]
abbrev teRo (K : PySem.W.Frag) : TE := tOp (rIxL K) (tVar 9) (tVar 5)
section
variable {P : Program} {w : World} {K : PySem.W.Frag} {mg : Str → Option Value} {base : Heap}
theorem scRight : FnScope NRI ["_law_monoid", "_law_found", "_law_table_here"] (defScope s_L_right) := ⟨rfl, rfl, rfl, by decide +kernel, rfl, by decide +kernel, by decide +kernel⟩
theorem ok_right {f : Addr} {fd : FuncData} {q : Str} (F : FunD K "_law_right" q (defArgs s_L_right) (defBody s_L_right) (defScope s_L_right) [] [] f fd) (T : Txt P w K mg base)
    (DP : Def P w K mg base CX0 1 "_law_products" ["_law_found", "_law_table_here"] (spProducts K)) (DS : Def P w K mg base CX0 4 "_law_steps" ["_law_rows", "_law_first"] (spSteps K)) (DB : Def P w K mg base CX0 5 "_law_by_words" ["_law_monoid", "_law_products_here", "_law_letters", "_law_most"] (spByW K))
    (DO : DefM P w K mg base CX0 3 "of_word" ["self", "word"] (spOfW K)) (DR : DefM P w K mg base CX0 4 "least_right" ["self", "one", "other"] (spLR false K)) (DL : DefM P w K mg base CX0 4 "least_left" ["self", "one", "other"] (spLR true K)) :
    FnOk P w K mg base CX0 6 f fd ["_law_monoid", "_law_found", "_law_table_here"] (spRight K) := by
  have cl : L2.Cls K (He.ga K "Monoid") := He.cls_ok (T.d.fact 46 (f := .cls "Monoid") rfl)
  have zr : mg "range" = none := T.fr 41 "range" rfl
  have zn : mg "len" = none := T.fr 39 "len" rfl
  obtain ⟨fo, fdo, mo, Fo, bo⟩ := DO.ex
  obtain ⟨fr, fdr, mr, Fr, br⟩ := DR.ex
  obtain ⟨fl, fdl, ml, Fl, bl⟩ := DL.ex
  refine F.ok scRight (fun vs H Q E h => ?_) (fun cdv A outer s H vs Q E hr h => ?_)
  · obtain ⟨x, pf, pt, n, gens, found, rows, m, rfl, _⟩ := h
    rfl
  · obtain ⟨x, pf, pt, n, gens, found, rows, m, rfl, M, AC, MP, RT, Tb, n4, g3, f14, hT, fin⟩ := h
    have r1 : Room 1 _ := hr.mono (by decide)
    have r3 : Room 3 _ := hr.mono (by decide)
    have r4 : Room 4 _ := hr.mono (by decide)
    have hu : (A.deeper (envOfC q (defScope s_L_right) s.heap.objs.size f cdv)).units + 1 < cLine := by have := hr.units; omega
    refine ⟨_, PSs.nox (pss_cons (ps_par (i := 3) (j := 4) rfl scRight.nd rfl rfl (by decide) rfl rfl (pa_cons (pe_def DP r1 pass0 rfl (pa_cons (pv 1) (pa_cons (pv 2) pa_nil))) (pa_cons (pe_callB call_len_seq rfl zn boot_len (pa_cons (pv 1) pa_nil)) pa_nil)) (by rfl))
      (pss_cons (ps_for PassesOwn.never rfl (pi_range1 rfl zr (pa_cons (pv 4) pa_nil)) (pg_name (i := 5) scRight.nd rfl (.inr rfl))
        (pss_cons (ps_set (i := 6) scRight.nd rfl (.inl rfl) (pe_def DS r4 pass0 rfl (pa_cons (pv 2) (pa_cons (pv 5) pa_nil))))
        (pss_cons (ps_for PassesOwn.never rfl (pi_range1 rfl zr (pa_cons (pv 4) pa_nil)) (pg_name (i := 7) scRight.nd rfl (.inl rfl))
          (pss_cons (ps_set (i := 8) scRight.nd rfl (.inl rfl) (pe_meth (pv 0) cl mr Fr r4 br .nil pass0 (pa_cons (pv 5) (pa_cons (pv 7) pa_nil))))
          (pss_cons (ps_if (PW.pt (pw_or (pt_cmpR op_ne (pv 8) (pe_dget1 hu (pv 6) (pv 7) ⟨by rfl, by rfl, by rfl, by rfl⟩) (nomark _)) (pw_or1 (pt_cmpR op_ne (pe_cmpR op_isN (pv 8) pe_non (nomark _)) (pe_cmpR op_notIn_seq (pv 7) (pe_ix ix_list (pv 3) (pv 5) (fun _ _ => rfl)) (by rfl)) (nomark _))))) (pss_one (ps_ret pe_bl)) pss_nil)
          (pss_cons (ps_set (i := 8) scRight.nd rfl (.inl rfl) (pe_meth (pv 0) cl ml Fl r4 bl .nil pass0 (pa_cons (pv 5) (pa_cons (pv 7) pa_nil))))
          (pss_cons (ps_if (pt_cmpR op_ne (pe_cmpR op_isN (pv 8) pe_non (nomark _)) (pe_cmpR op_notIn_seq (pv 7) (pe_lc (own := [("_law_row", 9)]) (g := gName 9) (te := teRo K) (by rfl) scRight.nd (pi_list (pv 3)) (blkOk_by (own := [("_law_row", 9)]) (N := NRI) (sc := defScope s_L_right) (by decide +kernel)) (fun _ _ _ _ _ => pg_name (i := 9) scRight.nd rfl (Or.inl rfl)) (fun _ _ _ _ _ => pts_nil)
              (fun _ _ _ _ _ => by exact pe_ix ix_list (pv 9) (pv 5) (fun _ _ => rfl))) (by rfl)) (nomark _)) (pss_one (ps_ret pe_bl)) pss_nil)
          (pss_one (ps_if (PW.pt (pw_and (pt_cmpR op_notN (pv 8) pe_non (nomark _)) (pw_and1 (pt_cmpR op_ne (pe_ix ix_list (pe_ix ix_list (pv 3) (pe_meth (pv 0) cl mo Fo r3 bo .nil pass0 (pa_cons (pv 8) pa_nil)) (fun _ _ => rfl)) (pv 5) (fun _ _ => rfl)) (pv 7) (nomark _))))) (pss_one (ps_ret pe_bl)) pss_nil)))))))
        (pss_one (ps_if (PW.pt (pw_or (pt_cmpR op_ne (pe_meth (pv 0) cl mr Fr r4 br .nil pass0 (pa_cons (pv 5) (pa_cons (pv 5) pa_nil))) pe_str (nomark _)) (pw_or1 (pt_cmpR op_ne (pe_meth (pv 0) cl ml Fl r4 bl .nil pass0 (pa_cons (pv 5) (pa_cons (pv 5) pa_nil))) pe_str (nomark _))))) (pss_one (ps_ret pe_bl)) pss_nil)))))
      (pss_one (ps_ret (pe_def DB hr pass0 rfl (pa_cons (pv 0) (pa_cons (pv 3) (pa_cons (pe_slice sl_str pe_str po_none (po_some (pe_callB call_len_seq rfl zn boot_len (pa_cons (pe_ix ix_list (pv 2) pe_int (fun _ _ => rfl)) pa_nil)))) (pa_cons (pe_ix ix_list (pe_lst (pa_cons pe_int (pa_cons pe_int (pa_cons pe_int (pa_cons pe_int pa_nil))))) (pe_callB call_len_seq rfl zn boot_len (pa_cons (pe_ix ix_list (pv 2) pe_int (fun _ _ => rfl)) pa_nil)) (fun _ _ => rfl)) pa_nil))))))))), ?_⟩
    have FO := AC.form
    have hm := AC.made
    have lm := AC.len
    have rl := Tb.len
    have g1 : gens ≠ [] := List.ne_nil_of_length_pos FO.2.2.1
    have n1 := FO.1
    obtain ⟨fas, hfas, lfas, _⟩ := id MP.ex
    refine ⟨_, rfl, _, rfl, pf, pt, n, gens, found, rows, m, rfl, MP, Tb, n4, FO, hm, lm, by omega, fun pp H1 s1 npp RP => ?_⟩
    refine ⟨_, rfl, pf, _, rfl, .inl (SqL.of (s1 _ _ hfas)), _, _, rfl, ?_⟩
    have M1 := M.same s1
    have RT1 := RT.same s1
    have hT1 := hT.ext s1
    have e1 : ExtN H H1 := ExtN.of s1
    have pN : (prodTab rows m found.length).length = found.length := by rw [prodTab, List.length_map, List.length_range]
    have prow : ∀ i, i < found.length → (prodTab rows m found.length)[i]? = some (prodRow rows m found.length i) := fun i hi => by
      rw [prodTab, List.getElem?_map, List.getElem?_range hi]
      rfl
    have pent : ∀ i j, j < found.length → (prodRow rows m found.length i)[j]? = some (Mon.walk rows i ((Mon.wordTab m).getD j [])) := fun i j hj => by
      rw [prodRow, List.getElem?_map, List.getElem?_range hj]
      rfl
    refine ⟨_, rfl, ((found.length : Nat) : Int), by rw [List.length_map, lfas], by omega, by omega, ?_⟩
    refine for_range (lo := 0) (n := found.length) (fun i σ Hi => ∃ v5 v6 v7 v8 : Option V, σ = [some (.ref x), some (.ref pf), some (.ref pt), some (.ref pp), some (.int (found.length : Nat)), v5, v6, v7, v8, none] ∧ ExtN H1 Hi ∧ Tabs (TT K) Hi)
      ⟨none, none, none, none, by rw [List.length_map, lfas]; rfl, ExtN.refl _, hT1⟩ (fun i σ Hi hi ⟨v5, v6, v7, v8, eσ, si, hTi⟩ => ?_) (fun σ Hi ⟨v5, v6, v7, v8, eσ, si, hTi⟩ => ?_)
    · subst eσ
      have ei : (0 : Int) + (i : Nat) = (i : Nat) := by omega
      rw [ei]
      refine ⟨_, rfl, _, rfl, pt, rows, gens.length, i, rfl, RT1.extN si, FO, g3, by omega, by omega, hTi, fun d l H2 e2 hT2 hd WY => ?_⟩
      have si2 := si.trans e2
      have M2 := M1.extN si2
      have RP2 := RP.extN si2
      obtain ⟨rs, sp, lp, ep⟩ := id RP2.ex
      refine ⟨_, rfl, ((found.length : Nat) : Int), rfl, by omega, by omega, ?_⟩
      refine for_range (lo := 0) (n := found.length) (fun j σ Hj => ∃ v7 v8 : Option V, σ = [some (.ref x), some (.ref pf), some (.ref pt), some (.ref pp), some (.int (found.length : Nat)), some (.int (i : Nat)), some (.ref d), v7, v8, none] ∧ Same H2 Hj)
        ⟨v7, v8, rfl, L2.Same.refl _⟩ (fun j σ Hj hj ⟨v7, v8, eσ, sj⟩ => ?_) (fun σ Hj ⟨v7, v8, eσ, sj⟩ => ?_)
      · subst eσ
        have ej : (0 : Int) + (j : Nat) = (j : Nat) := by omega
        rw [ej]
        have Mj := M2.same sj
        have hdj := sj _ _ hd
        obtain ⟨dx, _, _, _, hxj, _⟩ := id Mj.ex
        refine ⟨_, rfl, x, dx, _, rfl, hxj, rfl, _, rfl, _, rfl, x, rows, m, gens.length, i, j, rfl, Mj, AC, by omega, by omega, fun a1 H5 s5 L1 => ?_⟩
        simp only [Bool.false_eq_true, if_false] at L1
        have hd5 := s5 _ _ hdj
        have sj5 := sj.trans s5
        refine ⟨_, rfl, ?_⟩
        refine ⟨_, rfl, d, rfl, .inl ⟨_, .inl hd5⟩, _, rfl, _, DGet.k (k := ik j) hd5, ?_⟩
        have eu := lw_uniq L1 (lw_of (WY j))
        rw [← eu]
        refine ⟨lw_scal L1, _, rfl, ?_⟩
        refine ifF (by rw [decide_eq_true rfl]; rfl) ?_
        have sp5 := L2.Same.seq sj5 sp
        obtain ⟨ri, hri⟩ := lt_get (show i < rs.length by omega)
        have eri := L2.Same.seq sj5 (ep i ri _ hri (prow i hi))
        have w1 := lw_row Tb FO hm lm hi L1
        refine ⟨_, rfl, rfl, _, rfl, _, rfl, _, rfl, pp, rs.map V.ref, _, .ref ri, rfl, rfl, sp5, atI_nat (get_map hri), ri, _, rfl, .inl eri, rfl, all_nv, rfl, ?_⟩
        rw [inV_nv, w1]
        refine ⟨_, rfl, ifF (by simp) ?_⟩
        have M5 := Mj.same s5
        have hx5 := s5 _ _ hxj
        clear Mj sj hdj hd5 sp5 eri eu w1 L1 s5
        refine ⟨_, rfl, x, dx, _, rfl, hx5, rfl, _, rfl, _, rfl, x, rows, m, gens.length, i, j, rfl, M5, AC, by omega, by omega, fun a2 H6 s6 L2' => ?_⟩
        simp only [if_true] at L2'
        have sj6 := sj5.trans s6
        have sp6 := L2.Same.seq sj6 sp
        refine ⟨_, rfl, rfl, _, rfl, _, rfl, pp, rfl, ⟨_, sp6⟩, fun D nD => ?_⟩
        refine lc_list (K := K) (a := pp) (xs := rs.map V.ref) (fun t Hd => But D H6 Hd ∧ Hd D = some (.lst (((prodCol rows m found.length i).take t).map nv))) ⟨But.upd, upd_same⟩ (fun t Hd _ ⟨bd, _⟩ => L2.Same.seq (sj6.trans (Same.but (L2.Same.refl _) nD bd)) sp) (fun t y Hd hy ⟨bd, hD⟩ => ?_) (fun Hd ⟨bd, hD⟩ => ?_)
        · obtain ⟨rt, hrt, rfl⟩ := map_get hy
          have tl : t < found.length := by have := get_lt hrt; omega
          have sd := sj6.trans (Same.but (L2.Same.refl _) nD bd)
          have ert := L2.Same.seq sd (ep t rt _ hrt (prow t tl))
          refine ⟨rfl, yesT ?_⟩
          refine ⟨_, rfl, _, rfl, rt, _, _, _, rfl, rfl, ert, atI_nat (get_map (pent t i hi)), _, hD, ?_, bd.trans But.upd, ?_⟩
          · rw [List.length_map, List.length_take, prodCol, List.length_map, List.length_range]
            show min t found.length < 16777216
            omega
          · have ec : (prodCol rows m found.length i)[t]? = some (Mon.walk rows t ((Mon.wordTab m).getD i [])) := by
              rw [prodCol, List.getElem?_map, List.getElem?_range tl]
              rfl
            rw [upd_same, take_snoc ec, List.map_append]
            rfl
        · have e4 : (prodCol rows m found.length i).take (rs.map V.ref).length = prodCol rows m found.length i := List.take_of_length_le (by rw [List.length_map, lp, pN, prodCol, List.length_map, List.length_range]; omega)
          rw [e4] at hD
          have w2 := lw_col Tb g1 FO hm lm hi L2'
          have s7 := sj6.trans (Same.but (L2.Same.refl _) nD bd)
          refine ⟨D, _, rfl, .inl (SqL.of hD), rfl, all_nv, rfl, ?_⟩
          rw [inV_nv, w2]
          refine ⟨_, rfl, ifF (by simp) ?_⟩
          have M7 := M2.same s7
          clear sj6 sj5 s6 sp6 nD bd hD w2 e4
          rcases L2' with ⟨rfl, _⟩ | ⟨u, rfl, ⟨_, ul⟩, F2⟩
          · refine ⟨_, rfl, rfl, _, rfl, ?_⟩
            exact ifF rfl ⟨_, _, rfl, s7⟩
          · refine ⟨_, rfl, rfl, _, rfl, ?_⟩
            refine ifT rfl ?_
            rw [Mon.left_len, lm] at ul
            obtain ⟨dx7, _, _, _, hx7, _⟩ := id M7.ex
            refine ⟨_, rfl, _, rfl, x, dx7, _, rfl, hx7, rfl, _, rfl, x, rows, m, gens.length, u, rfl, M7, FO, F2.ok, by omega, fun H8 s8 => ?_⟩
            have s28 := s7.trans s8
            have hj2 := (right_prod (i := 0) Tb FO hm lm (by omega) F2.ok).1
            have qq := left_prod Tb g1 FO hm lm hi F2.ok
            rw [F2.at'] at qq
            obtain ⟨rb, hrb⟩ := lt_get (show Mon.walk rows 0 u < rs.length by omega)
            have erb := L2.Same.seq s28 (ep _ rb _ hrb (prow _ hj2))
            have pe := pent (Mon.walk rows 0 u) i hi
            rw [qq] at pe
            refine ⟨pp, rs.map V.ref, _, .ref rb, rfl, rfl, L2.Same.seq s28 sp, atI_nat (get_map hrb), _, rfl, rb, _, _, nv j, rfl, rfl, erb, atI_nat (get_map pe), _, rfl, rfl, _, rfl, ?_⟩
            exact ifF (by rw [decide_eq_true rfl]; rfl) ⟨_, _, rfl, s28⟩
      · subst eσ
        have M3 := M2.same sj
        obtain ⟨dx, _, _, _, hx3, _⟩ := id M3.ex
        refine ⟨_, rfl, x, dx, _, rfl, hx3, rfl, _, rfl, _, rfl, x, rows, m, gens.length, i, i, rfl, M3, AC, by omega, by omega, fun a1 H5 s5 L1 => ?_⟩
        simp only [Bool.false_eq_true, if_false] at L1
        have e1 := lw_uniq L1 (lw_self (by omega))
        subst e1
        refine ⟨rfl, _, rfl, ?_⟩
        refine ifF rfl ?_
        have hx5 := s5 _ _ hx3
        refine ⟨_, rfl, x, dx, _, rfl, hx5, rfl, _, rfl, _, rfl, x, rows, m, gens.length, i, i, rfl, M3.same s5, AC, by omega, by omega, fun a2 H6 s6 L2' => ?_⟩
        simp only [if_true] at L2'
        have e2' := lw_uniq L2' (lw_self (by rw [Mon.left_len, lm]; omega))
        subst e2'
        refine ⟨rfl, _, rfl, ?_⟩
        refine ifF rfl ?_
        have s26 := sj.trans (s5.trans s6)
        exact ⟨_, _, _, _, rfl, si2.trans (ExtN.of s26), hT2.ext s26⟩
    · subst eσ
      have RP3 := RP.extN si
      have M3 := M1.extN si
      obtain ⟨as3, st3, la3, er3⟩ := (RT1.extN si).ex
      obtain ⟨a0, ha0⟩ := lt_get (show 0 < as3.length by omega)
      obtain ⟨row0, hrow0⟩ := lt_get (show 0 < rows.length by omega)
      have w0 := (FO.2.2.2.2 row0 (List.mem_of_getElem? hrow0)).1
      refine ⟨_, rfl, _, rfl, _, rfl, pt, _, 0, .ref a0, rfl, rfl, st3, atI_nat (j := 0) (get_map ha0), a0, row0.map nv, rfl, .inl (er3 0 a0 row0 ha0 hrow0), _, rfl, _, rfl, (by decide), (by show 4 ≤ sizeLine; decide), fun l nl => ?_⟩
      have u4 := same_upd (o := .lst [V.int 0, V.int 9, V.int 7, V.int 5]) nl
      have hl4 : L2.upd Hi l (.lst [V.int 0, V.int 9, V.int 7, V.int 5]) l = some (.lst [V.int 0, V.int 9, V.int 7, V.int 5]) := upd_same
      generalize L2.upd Hi l (.lst [V.int 0, V.int 9, V.int 7, V.int 5]) = H5 at u4 hl4 ⊢
      obtain ⟨most, m9, em⟩ : ∃ most : Nat, most ≤ 9 ∧ atI [V.int 0, V.int 9, V.int 7, V.int 5] ((row0.map nv).length : Nat) = some (.int (most : Nat)) := by
        rw [List.length_map, w0]
        have := FO.2.2.1
        have : gens.length = 1 ∨ gens.length = 2 ∨ gens.length = 3 := by omega
        rcases this with e | e | e <;> rw [e]
        · exact ⟨9, by decide, rfl⟩
        · exact ⟨7, by decide, rfl⟩
        · exact ⟨5, by decide, rfl⟩
      have ew : cutS ("abcdef" : Str) none (some ((row0.map nv).length : Nat)) = ws (List.range gens.length) := by
        rw [List.length_map, w0]
        have := FO.2.2.1
        have : gens.length = 1 ∨ gens.length = 2 ∨ gens.length = 3 := by omega
        rcases this with e | e | e <;> rw [e] <;> decide +kernel
      refine ⟨_, rfl, pt, _, 0, .ref a0, rfl, rfl, L2.Same.seq u4 st3, atI_nat (j := 0) (get_map ha0), a0, row0.map nv, rfl, .inl (L2.Same.seq u4 (er3 0 a0 row0 ha0 hrow0)), l, _, _, _, rfl, rfl, SqL.of hl4, em, x, pp, rows, m, n, gens, found, most, by rw [ew], M3.same u4, AC, Tb, g3, m9, f14, RP3.same u4, fun H' s' => fin H' (e1.trans (si.trans (ExtN.of (u4.trans s')))) (hTi.ext (u4.trans s'))⟩
end
end K15

set_option Elab.async false
set_option linter.all false
set_option maxRecDepth 100000
set_option maxHeartbeats 8000000
namespace K15
open PySem PySem.Spec PyProof.Rows L2 Lf LamX
abbrev NL : List Str := ["_law_script", "_law_cell", "_law_source_here", "_law_turn", "_law_found", "_law_words", "_law_table_here"]
def spLaw (K : PySem.W.Frag) : Sp := fun vs H Q _ => ∃ (a : Addr) (ns : List Int), vs = [.ref a] ∧ SqL K H a (ns.map V.int) ∧ ns.length ≤ 63 ∧ Tabs (TT K) H ∧ ∀ H', Q (.bl true) H'
theorem tabs_but {T : List (Addr × Str)} {H H' : Hp} {a : Addr} {o' : HO} (t : Tabs T H) (e : But a H H') (h : H a = some o') (h1 : ∀ ps, o' ≠ .tbl ps) (h2 : ∀ φ, o' ≠ .ext φ) : Tabs T H' := fun p hp => by
  obtain ⟨ps, e1, e2, e3⟩ := t p hp
  have ne : ∀ b u, H b = some u → u ≠ o' → b ≠ a := fun b u hb hu z => by
    rw [z, h] at hb
    exact hu (Option.some.inj hb).symm
  refine ⟨ps, e _ _ (ne _ _ e1 (fun z => h1 ps z.symm)) e1, e2, fun pos cv hc => ?_⟩
  obtain ⟨c, e4, e5⟩ := e3 pos cv hc
  exact ⟨c, e4, e _ _ (ne _ _ e5 (fun z => h2 _ z.symm)) e5⟩
theorem Src.extN {H H' : Hp} {l : Addr} {n : Nat} (h : Src H l n) (e : ExtN H H') : Src H' l n := by
  obtain ⟨a, b, c, h1, h2⟩ := h
  exact ⟨a, b, c, e _ _ h1 (fun ps z => by cases z), h2⟩
section
variable {P : Program} {w : World} {K : PySem.W.Frag} {mg : Str → Option Value} {base : Heap}
theorem scLaw : FnScope NL ["_law_script"] (defScope s_law) := ⟨rfl, rfl, rfl, by decide +kernel, rfl, by decide +kernel, by decide +kernel⟩
theorem ok_law {f : Addr} {fd : FuncData} {q : Str} (F : FunD K "law" q (defArgs s_law) (defBody s_law) (defScope s_law) [] [] f fd) (T : Txt P w K mg base)
    (DS : Def P w K mg base CX0 1 "_law_source" ["_law_cell"] spSource) (DM : Def P w K mg base CX0 2 "_law_maps" ["_law_source_here", "_law_most_points", "_law_most_letters"] spMaps) (DT : Def P w K mg base CX0 1 "_law_table" ["_law_rows"] (spTable K))
    (DR : Def P w K mg base CX0 6 "_law_right" ["_law_monoid", "_law_found", "_law_table_here"] (spRight K))
    {fm : Addr} {fdm : FuncData} (mM : Mk K (He.ga K "Monoid") fm) (FM : FnOk P w K mg base CX0 4 fm fdm ["self", "right"] (spMon K)) (bM : Binds K fdm ["self", "right"] []) :
    FnOk P w K mg base CX0 7 f fd ["_law_script"] (spLaw K) := by
  have zr : mg "range" = none := T.fr 41 "range" rfl
  have zn : mg "len" = none := T.fr 39 "len" rfl
  refine F.ok scLaw (fun vs H Q E h => ?_) (fun cdv A outer s H vs Q E hr h => ?_)
  · obtain ⟨a, ns, rfl, _⟩ := h
    rfl
  · obtain ⟨a, ns, rfl, hS, hlen, hT, fin⟩ := h
    have R1 : Room 1 _ := hr.mono (by decide)
    have R2 : Room 2 _ := hr.mono (by decide)
    have R4 : Room 5 _ := hr.mono (by decide)
    refine ⟨_, PSs.nox (pss_cons (ps_for PassesOwn.never rfl (pi_list (pe_slice sl_list (pe_op op_catL (pv 0) (pe_lst (pa_cons pe_int pa_nil))) po_none (po_some pe_int))) (pg_name (i := 1) scLaw.nd rfl (.inl rfl))
        (pss_cons (ps_set (i := 2) scLaw.nd rfl (.inl rfl) (pe_def DS R1 pass0 rfl (pa_cons (pv 1) pa_nil)))
        (pss_one (ps_for PassesOwn.never rfl (pi_range1 rfl zr (pa_cons pe_int pa_nil)) (pg_name (i := 3) scLaw.nd rfl (.inl rfl))
          (pss_cons (ps_asg (pe_def DT R1 pass0 rfl (pa_cons (pe_def DM R2 pass0 rfl (pa_cons (pv 2) (pa_cons pe_int (pa_cons pe_int pa_nil)))) pa_nil)) (pg_tup rfl (pgs_cons (pg_name (i := 4) scLaw.nd rfl (.inl rfl)) (pgs_cons (pg_name (i := 5) scLaw.nd rfl (.inl rfl)) (pgs_cons (pg_name (i := 6) scLaw.nd rfl (.inl rfl)) pgs_nil)))))
          (pss_one (ps_if (PW.pt (pw_and (pt_cmpR op_lt (pe_callB call_len_seq rfl zn boot_len (pa_cons (pv 4) pa_nil)) pe_int (nomark _)) (pw_and1 (pt_not (pt_val (pe_def DR hr pass0 rfl (pa_cons (pe_make mM FM R4 rfl (T.gl 4 "Monoid" rfl) bM .nil pass0 (pa_cons (pv 6) pa_nil)) (pa_cons (pv 4) (pa_cons (pv 6) pa_nil))))))))) (pss_one (ps_ret pe_bl)) pss_nil)))))))
      (pss_one (ps_ret pe_bl))), ?_⟩
    refine ⟨_, rfl, (by show 1 ≤ sizeLine; decide), fun z hz => ⟨a, z, _, _, rfl, rfl, L2.Same.seq (same_upd hz) hS, SqL.of upd_same, ?_, fun l0 h0 => ?_⟩⟩
    · rw [List.length_map]
      show ns.length + 1 ≤ 16777216
      omega
    refine ⟨3, rfl, l0, _, rfl, SqL.of upd_same, fun l1 h1 => ⟨l1, rfl, ⟨_, SqL.of upd_same⟩, ?_⟩⟩
    generalize hHs : L2.upd (L2.upd (L2.upd H z _) l0 _) l1 _ = Hs
    have hTs : Tabs (TT K) Hs := by rw [← hHs]; exact ((hT.ext (same_upd hz)).ext (same_upd h0)).ext (same_upd h1)
    have at1 : Hs l1 = some (.lst (cutV (ns.map V.int ++ [.int 0]) none (some 3))) := by rw [← hHs]; exact upd_same
    clear hHs
    refine for_list (K := K) (a := l1) (xs := cutV (ns.map V.int ++ [.int 0]) none (some 3)) (fun i σ H' => ∃ v1 v2 v3 v4 v5 v6 : Option V, σ = [some (.ref a), v1, v2, v3, v4, v5, v6] ∧ ExtN Hs H' ∧ Tabs (TT K) H')
      ⟨none, none, none, none, none, none, rfl, ExtN.refl _, hTs⟩ (fun i σ H' _ ⟨_, _, _, _, _, _, _, e, _⟩ => SqL.of (e _ _ at1 (fun ps z => by cases z))) ?_ (fun σ H' ⟨_, _, _, _, _, _, _, _, _⟩ => ?_)
    · rintro i y σ H1 hi ⟨v1, v2, v3, v4, v5, v6, rfl, e1, hT1⟩
      obtain ⟨nn, rfl⟩ : ∃ n, y = V.int n := by
        have hm := List.mem_of_getElem? hi
        have hm2 := List.mem_of_mem_drop (List.mem_of_mem_take hm)
        rcases List.mem_append.mp hm2 with q | q
        · obtain ⟨n, _, e⟩ := List.mem_map.mp q
          exact ⟨n, e.symm⟩
        · exact ⟨0, List.mem_singleton.mp q⟩
      refine ⟨_, rfl, nn, rfl, fun l H2 nl s2 src2 => ?_⟩
      have e2 := e1.trans (ExtN.of s2)
      have nl0 : Nt Hs l := nt_ext e1 (.of nl)
      refine ⟨3, rfl, by decide, by decide, ?_⟩
      refine for_range (lo := 0) (n := 3) (fun j σ H' => ∃ v3 v4 v5 v6 : Option V, σ = [some (.ref a), some (.int nn), some (.ref l), v3, v4, v5, v6] ∧ ExtN Hs H' ∧ Tabs (TT K) H' ∧ Src H' l (40 * j)) ⟨v3, v4, v5, v6, rfl, e2, hT1.ext s2, src2⟩ (fun j σ H3 hj ⟨v3, v4, v5, v6, eσ, e3, hT3, src3⟩ => ?_) (fun σ H3 ⟨v3, v4, v5, v6, eσ, e3, hT3, src3⟩ => ?_)
      · subst eσ
        refine ⟨_, rfl, l, 40 * j, 3, 3, rfl, src3, by omega, by decide, by decide, by decide, by decide, fun p gens n H4 b4 np M4 ne g3 n1 n4 gv src4 => ?_⟩
        obtain ⟨q1, q2, q3, hl3, _⟩ := id src3
        have e4 : ExtN Hs H4 := fun b o e hn => b4 _ _ (fun z => by
          subst z
          obtain ⟨ps, z⟩ := nl0 o e
          exact hn ps z) (e3 _ _ e hn)
        have hT4 : Tabs (TT K) H4 := tabs_but hT3 b4 hl3 (fun ps z => by cases z) (fun φ z => by cases z)
        clear b4 src3 e3 hT3 hl3
        refine ⟨p, n, gens, rfl, M4, ne, by omega, n1, n4, gv, fun TT' pf pw pt pn as bs found rows m H5 s5 nT hTT L Tb hm lm _ => ?_⟩
        refine ⟨TT', _, rfl, SqT.of hTT, rfl, _, _, rfl, _, _, rfl, _, _, rfl, rfl, ?_⟩
        have e5 := e4.trans (ExtN.of s5)
        have hT5 := hT4.ext s5
        have src5 := src4.same s5
        refine ⟨_, rfl, pf, _, rfl, .inl (SqL.of L.f), _, _, rfl, rfl, _, rfl, ?_⟩
        rw [List.length_map, L.fl]
        by_cases hlt : found.length < 15
        · refine ifT (decide_eq_true (by omega)) ?_
          have rl := Tb.len
          have ac := accept_of Tb ne (by omega) (by omega) hm lm
          refine ⟨_, rfl, fun x dx nx ndx xdx => ?_⟩
          have u1 := same_upd (o := .own x) ndx
          have nx1 : L2.upd H5 dx (.own x) x = none := by rw [upd_ne (Ne.symm xdx)]; exact nx
          have u2 := u1.trans (same_upd (o := .ins (He.ga K "Monoid") dx []) nx1)
          have hx2 : L2.upd (L2.upd H5 dx (.own x)) x (.ins (He.ga K "Monoid") dx []) x = some (.ins (He.ga K "Monoid") dx []) := upd_same
          generalize L2.upd (L2.upd H5 dx (.own x)) x (.ins (He.ga K "Monoid") dx []) = H6 at u2 hx2 ⊢
          have L2' := L.same u2
          refine ⟨x, pt, dx, rows, gens.length, m, rfl, hx2, ⟨bs, SqL.of L2'.t, L2'.tl, fun j b r h1 h2 => SqL.of (L2'.te j b r h1 h2)⟩, ac, fun H7 b7 mo => ⟨rfl, ?_⟩⟩
          have s57 : Same H5 H7 := fun b o e => b7 _ _ (ne_of_none e nx) (u2 _ _ e)
          have L7 := L.same s57
          refine ⟨_, rfl, _, rfl, x, pf, pt, n, gens, found, rows, m, rfl, mo, ac, ⟨as, L7.f, L7.fl, L7.fe⟩, ⟨bs, SqL.of L7.t, L7.tl, fun j b r h1 h2 => SqL.of (L7.te j b r h1 h2)⟩, Tb, n4, g3, by omega, hT5.ext s57, fun H8 e8 hT8 => ?_⟩
          refine ⟨_, rfl, ifF rfl ?_⟩
          exact ⟨_, _, _, _, rfl, (e5.trans (ExtN.of s57)).trans e8, hT8, ((src5.same s57).extN e8).up (by omega)⟩
        · refine ifF (decide_eq_false (by omega)) ?_
          exact ⟨_, _, _, _, rfl, e5, hT5, src5.up (by omega)⟩
      · subst eσ
        exact ⟨_, _, _, _, _, _, rfl, e3, hT3⟩
    · exact fin _
end
end K15

set_option Elab.async false
set_option linter.all false
set_option maxRecDepth 100000
set_option maxHeartbeats 0
namespace K15
open PySem PySem.Spec PyProof.Rows L2
abbrev R : PySem.W.OpenRow := PySem.W.OpenLaw.row PySem.Challenge.rw_letterfolds_k15_least_words_between_two
abbrev vw : Program := PySem.W.view R.prog [35]
def as : List Addr := List.range 1600
abbrev hk : PySem.W.Hook := Lf.hookR as fa fn tf ex
def ob (s : PySem.W.SharedT) : He.AlD × Bool := Lf.obsR as fa fn tf ex (HandSHeadRun.getT s)
theorem ob_eq (s : PySem.W.SharedT) : ob s = hk.obs s.abs := Lf.obsR_eq (HandSHeadRun.getT_eq s)
theorem runA (w : World) (os : OsState) : (Lf.endOf R 20000 w os).map (Lf.looksOf R w) = some true := by kernel_rfl
theorem runB (w : World) (os : OsState) : (Lf.endOf R 20000 w os).map (Lf.viewOf R vw loose) = some (PySem.W.openGood vw loose) := by kernel_rfl
theorem runC (w : World) (os : OsState) : (Lf.endOf R 20000 w os).map ob = some (hk.val w) := by kernel_rfl
theorem run (w : World) : HandSHeadRun.RunEq R vw hk ob 20000 loose w := Lf.run_three (runA w) (runB w) (runC w)
end K15

set_option Elab.async false
set_option linter.all false
set_option maxRecDepth 100000
set_option maxHeartbeats 4000000
/-! Functions that are promised only where no repr is under way; repr of a list of ints. -/
namespace Lf
open PySem PySem.Spec PyProof.Rows L2
/-- a promise of calls from where no repr is under way -/
structure FnG (P : Program) (w : World) (K : PySem.W.Frag) (mg : Str → Option Value) (base : Heap) (CX : CXT) (k : Nat) (f : Addr) (fd : FuncData) (ps : List Str) (sp : Sp) : Prop where
  len : ∀ vs H Q E, sp vs H Q E → vs.length = ps.length
  run : ∀ (A : Around) (outer : List Env) (s : Shared) (H : Hp) (args : Args) (us : List Value) (vs : List V) (Q : VK) (E : XK), A.guards = some [] → Room k A → Env0 P w K mg base A outer s H → BindsTo s fd args (ps.zip us) → Vals vs us → sp vs H Q E →
    codeAny (model P w) A (.call (.ref f) args) (CR CX outer P w H s Q E) s
section
variable {CX : CXT} {P : Program} {w : World} {K : PySem.W.Frag} {mg : Str → Option Value} {base : Heap} {x qual : Str} {params : Arguments} {body : List Stmt} {scope : Scope} {f : Addr} {fd : FuncData}
theorem okG {N ps : List Str} {k : Nat} {sp : Sp} (F : FunD K x qual params body scope [] [] f fd) (S : FnScope N ps scope) (len : ∀ vs H Q E, sp vs H Q E → vs.length = ps.length)
    (hbody : ∀ (cdv : Value) (A : Around) (outer : List Env) (s : Shared) (H : Hp) (vs : List V) (Q : VK) (E : XK), A.guards = some [] → Room k (A.deeper (envOfC qual scope s.heap.objs.size f cdv)) → sp vs H Q E →
      ∃ t, PSs (cxOf CX P w K mg base N qual scope f cdv A outer s H E) body t ∧ t { nx := fun _ H' => Q .non H', rt := Q } (L2.start N vs) H) : FnG P w K mg base CX (k + 1) f fd ps sp := by
  obtain ⟨oc, od, dV, kV, doc, pm, an, cdv, ct, osl, rfl, lk, hcd, _, _⟩ := F.ex
  refine ⟨len, fun A outer s H args us vs Q E hgd hr e0 hb r hsp => ?_⟩
  have hl := len _ _ _ _ hsp
  have KX : K.In s.heap := e0.mod.kin.keeps fun b o e => (e0.bs b o e).1
  have hk : ∀ y ∈ ps.zip us, scope.names.lookup y.1 = some .local ∨ (scope.names.lookup y.1 = some .cell ∧ ((cellsFrom (s.heap.objs.size + 1) scope.names []).lookup y.1).isSome = true) := fun y hy =>
    (S.par y.1 (List.of_mem_zip hy).1).imp id fun q => ⟨q, PySem.W.cellsFrom_some _ _ _ (.inl q)⟩
  refine codeAny_call_function hr.depth (KX _ _ lk) rfl S.co S.gen rfl (PySem.W.codeRec_of KX hcd) (hb _ _ _ _ (wpAny_newFunctionEnv_cells S.kind hk fun env he s1 g => ?_))
  subst he
  refine ⟨(e0.mod.nolimit.keeps fun b o e => (e0.bs b o e).1).keeps g.toInCall.keep, codeAny_func ?_⟩
  obtain ⟨t, ht, hq⟩ := hbody cdv A outer s H vs Q E hgd (hr.deeper _) hsp
  refine wpAny_mono (ht.run [] s1 (L2.start N vs) H _ (inv_start S hr.hd e0 hl r g) hq) (fun fl s' hs => ?_) fun _ _ hs => hs
  cases fl with
  | brk => exact hs.elim fun _ z => z.elim fun _ z => False.elim z.2
  | cont => exact hs.elim fun _ z => z.elim fun _ z => False.elim z.2
  | next =>
    obtain ⟨_, H', J, q⟩ := hs
    exact ⟨V.non, H', J.os, J.bare, J.base, J.hok, rfl, q⟩
  | ret u =>
    obtain ⟨v, _, H', J, rv, q⟩ := hs
    exact ⟨v, H', J.os, J.bare, J.base, J.hok, rv, q⟩
end
/-- a def by its name -/
structure DefG (P : Program) (w : World) (K : PySem.W.Frag) (mg : Str → Option Value) (base : Heap) (CX : CXT) (k : Nat) (x : Str) (ps : List Str) (sp : Sp) : Prop where
  ex : ∃ f fd, mg x = some (.ref f) ∧ PySem.W.keepIn K (.ref f) = true ∧ FnG P w K mg base CX k f fd ps sp ∧ Binds K fd ps []
section
variable {X : Cx} {CX : CXT} {k : Nat} {x : Str} {ps : List Str} {sp : Sp} {E : XK} {e : Expr} {es : List Expr} {t : TA} {p pos : Pos}
theorem pe_defG (D : DefG X.prog X.w X.K X.mg X.base CX k x ps sp) (hgd : X.A.guards = some []) (hr : Room k X.A) (hx : Passes CX X E) (hg : Gl X x) (ha : PA X (e :: es) t)
    (hdb : (x == ("__debug__" : Str)) = false := by decide +kernel) (he : starEach (e :: es) X.env = (false, eval e X.env) :: starEach es X.env := by rfl)
    (hpl : (backTo pos (starEach es X.env)).any (·.1) = false := by rfl) : PE X (.Call (.Name x p) (e :: es) [] pos) (fun σ H Q => t σ H fun vs H1 => sp vs H1 Q E) := by
  obtain ⟨f, fd, g, kp, F, b⟩ := D.ex
  refine ⟨fun pins s σ H Q I h => wpAny_Call_Name_kw (ld_glob I hg g ?_ hdb)⟩
  refine PySem.W.callWith_K (h₀ := X.base) I.ok.mod.kin kp (thn (ha.run pos pins s σ H _ I h) fun us s1 ⟨vs, H1, I1, r, q⟩ => ⟨I1.kIn, ?_⟩) he hpl
  have b' := b s1 us I1.kIn (by rw [List.append_nil, ← r.length]; exact F.len _ _ _ _ q)
  rw [List.append_nil] at b'
  refine wpAny_call (codeAny_mono (F.run X.A X.stack s1 H1 ⟨us, []⟩ us vs Q E hgd hr I1.env0 b' r q) fun r' s' hq => ?_)
  cases r' with
  | error e => exact hx pins σ H1 s1 e s' I1 hq
  | ok fl =>
    cases fl with
    | ret u => exact I1.after hq
    | next => exact False.elim hq
    | brk => exact False.elim hq
    | cont => exact False.elim hq
end
/-! ### repr of a list of ints -/
abbrev reprL (ns : List Int) : Str := (PyData.list (ns.map PyData.int)).shown
theorem reads_ints {h : Heap} : ∀ {ns : List Int} {us : List Value}, Vals (ns.map V.int) us → ReadsAll h us (ns.map PyData.int) []
  | [], _, r => by
    rw [List.map_nil] at r
    cases r
    exact .nil
  | n :: ns, _, r => by
    rw [List.map_cons] at r
    cases r with
    | cons a b =>
      obtain ⟨t, rfl⟩ := (show ∃ t, _ = Value.int n t from a)
      exact .cons (.int n t) (reads_ints b)
theorem ints_noDict : ∀ (ns : List Int), PyData.hasDictAll (ns.map PyData.int) = false
  | [] => rfl
  | n :: ns => by rw [List.map_cons, PyData.hasDictAll, PyData.hasDict, ints_noDict ns]; rfl
theorem ints_depth : ∀ (ns : List Int), PyData.depthAll (ns.map PyData.int) = 0
  | [] => rfl
  | n :: ns => by rw [List.map_cons, PyData.depthAll, PyData.depth, ints_depth ns]; rfl
theorem call_reprInts {X : Cx} (hg : X.A.guards = some []) (hu : X.A.units + 9 < cLine) : CallR X (.builtin "repr") (fun xs H Q => ∃ p ns, xs = [.ref p] ∧ SqL X.K H p (ns.map V.int) ∧ (PyData.list (ns.map PyData.int)).showable = true ∧ (reprL ns).length ≤ sizeLine ∧ Q (.str (reprL ns)) H) := by
  intro pins s σ H xs us Q I r h
  obtain ⟨p, ns, rfl, hq, sh, hz, q⟩ := h
  obtain ⟨u, rfl, e⟩ := vals1 r
  cases e
  obtain ⟨its, rv, ⟨o, n, e1, e2, e3, e4⟩, _⟩ := I.list hq
  refine repr_of_reads' (h₀ := s.heap) (.list e1 e2 e4 (by rw [List.toList_toArray]; exact reads_ints rv)) sh (fun z => ?_) hg ?_ (fun _ _ z => z) (fun h' u tk hk => ?_) hz
  · rw [PyData.hasDict, ints_noDict] at z
    cases z
  · rw [PyData.depth, ints_depth]
    omega
  · exact ⟨.str (reprL ns), H, I.kept hk, ⟨u, rfl⟩, q⟩
theorem small_text : ∀ n : Nat, n < 300 → ((PyData.int (n : Nat)).shown).length ≤ 3 := by decide +kernel
theorem small_show : ∀ n : Nat, n < 300 → (PyData.int (n : Nat)).showable = true := by decide +kernel
theorem repr_small : ∀ {ns : List Nat}, (∀ n ∈ ns, n < 300) → PyData.showableAll ((ns.map fun n => ((n : Nat) : Int)).map PyData.int) = true ∧ ((PyData.shownAll ((ns.map fun n => ((n : Nat) : Int)).map PyData.int)).map (·.length)).sum ≤ 3 * ns.length ∧ (PyData.shownAll ((ns.map fun n => ((n : Nat) : Int)).map PyData.int)).length = ns.length
  | [], _ => ⟨rfl, Nat.le_refl _, rfl⟩
  | n :: ns, h => by
    obtain ⟨a, b, c⟩ := repr_small (ns := ns) fun m hm => h m (List.mem_cons_of_mem _ hm)
    have h1 := small_text n (h n List.mem_cons_self)
    have h2 := small_show n (h n List.mem_cons_self)
    rw [List.map_cons, List.map_cons]
    refine ⟨?_, ?_, ?_⟩
    · rw [PyData.showableAll, h2, a]
      rfl
    · rw [PyData.shownAll, List.map_cons, List.sum_cons, List.length_cons]
      omega
    · rw [PyData.shownAll, List.length_cons, c, List.length_cons]
/-- repr of numbers below 300 -/
theorem reprOk {ns : List Nat} (h : ∀ n ∈ ns, n < 300) (l : ns.length ≤ 100000) : (PyData.list ((ns.map fun n => ((n : Nat) : Int)).map PyData.int)).showable = true ∧ (reprL (ns.map fun n => ((n : Nat) : Int))).length ≤ sizeLine := by
  obtain ⟨a, b, c⟩ := repr_small h
  refine ⟨by rw [PyData.showable]; exact a, ?_⟩
  have := listText_len_le (PyData.shownAll ((ns.map fun n => ((n : Nat) : Int)).map PyData.int))
  unfold reprL
  rw [PyData.shown, sizeLine_eq]
  omega
end Lf

set_option Elab.async false
set_option linter.all false
set_option maxRecDepth 100000
set_option maxHeartbeats 4000000
/-! The end for a law that is promised only where no repr is under way. -/
namespace Lf
open PySem PySem.Spec PyProof.Rows L2
section
variable {P : Program} {w : World} {K : PySem.W.Frag} {mg mb : Str → Option Value} {CX : CXT} {k : Nat} {fa a : Addr} {fd : FuncData} {x : Str} {sp : Sp} {s₁ : Shared} {vs : List Value} {ns : List Int}
/-- the caller's world, with at most the script tracked -/
theorem env_law {H : Hp} (KX : K.In s₁.heap) (hns : s₁.heap.Ns mainGlobals mg) (hb : s₁.heap.Ns builtinsNs mb) (hbb : ∀ x : Str, x ≠ "__name__" → mb x = bootBuiltins x) (hlim : s₁.heap.NoLimit) (hg : s₁.gens = #[])
    (ha : s₁.heap.get? a = some { cls := .type "list", data := .seq vs.toArray }) (hok : HOk P w H s₁.heap) (hA : ∀ b, H b ≠ none → b = a ∧ K.lookup a = none) :
    K.In (hidT s₁.heap H) ∧ (hidT s₁.heap H).Ns mainGlobals mg ∧ Env0 P w K mg (hidT s₁.heap H) callerA [] s₁ H := by
  have free : ∀ {b : Addr} {o : Obj}, s₁.heap.get? b = some o → o.data ≠ .seq vs.toArray → H b = none := fun {b o} e d => by
    cases q : H b with
    | none => rfl
    | some u =>
      obtain ⟨rfl, _⟩ := hA b (by rw [q]; simp)
      rw [ha] at e
      cases e
      exact absurd rfl d
  have names : ∀ {b : Addr} {m : Str → Option Value}, s₁.heap.Ns b m → (hidT s₁.heap H).Ns b m := fun {b m} h => by
    obtain ⟨o, es, ep, e, d, r⟩ := h
    exact ⟨o, es, ep, hidT_get e (free e (by rw [d]; simp)), d, r⟩
  have kin : K.In (hidT s₁.heap H) := fun b o e => hidT_get (KX b o e) (by
    cases q : H b with
    | none => rfl
    | some u =>
      obtain ⟨rfl, z⟩ := hA b (by rw [q]; simp)
      rw [z] at e
      cases e)
  obtain ⟨mc, l1, l2⟩ := hlim
  exact ⟨kin, names hns, rfl, ⟨kin, names hns, ⟨mb, names hb, hbb⟩, mc, names l1, l2⟩, fun b o e => of_hidT e, Nat.le_of_eq (hidT_size _ _), trivial, fun b hb => absurd (show b ∈ ([] : List Addr) from hb) (by simp), hok, .of_eq hg⟩
theorem law_callG (KX : K.In s₁.heap) (hns : s₁.heap.Ns mainGlobals mg) (hb : s₁.heap.Ns builtinsNs mb) (hbb : ∀ x : Str, x ≠ "__name__" → mb x = bootBuiltins x) (hlim : s₁.heap.NoLimit) (hg : s₁.gens = #[])
    (ha : s₁.heap.get? a = some { cls := .type "list", data := .seq vs.toArray }) (hi : IntsAre vs ns) (hl : ns.length ≤ sizeLine) (hr : Room k callerA)
    (F : ∀ base : Heap, K.In base → base.Ns mainGlobals mg → FnG P w K mg base CX k fa fd [x] sp) (hbind : ∀ (s : Shared) (u : Value), BindsTo s fd ⟨[u], []⟩ [(x, u)])
    (hsp : ∀ H : Hp, Only H → SqL K H a (ns.map V.int) → sp [.ref a] H (fun v _ => v = .bl true) fun _ _ _ => False)
    (hCX : ∀ H e s', CX [] H s₁ (fun _ _ _ => False) e s' → False) :
    codeAny (model P w) callerA (.call (.ref fa) ⟨[.ref a], []⟩) (fun r s' => r = .ok (.ret (.bool true)) ∧ OldK s₁.heap s'.heap ∧ s'.os = s₁.os ∧ AllBare s'.gens) s₁ := by
  obtain ⟨H, hO, hS, hok, hA⟩ : ∃ H : Hp, Only H ∧ SqL K H a (ns.map V.int) ∧ HOk P w H s₁.heap ∧ ∀ b, H b ≠ none → b = a ∧ K.lookup a = none := by
    have rv := vals_ints hi
    cases hk : K.lookup a with
    | some o =>
      have e := KX a o hk
      rw [ha] at e
      cases e
      exact ⟨fun _ => none, fun _ => .inl rfl, .inr ⟨_, vs.toArray, _, hk, rfl, rfl, rfl, by rw [List.size_toArray, hi.length]; exact hl, by simpa using rv⟩, (fun b u z => by cases (show (none : Option HO) = some u from z)), fun b z => absurd rfl z⟩
    | none =>
      refine ⟨L2.upd (fun _ => none) a (.frz { cls := .type "list", data := .seq vs.toArray } (.lst (ns.map V.int))), fun b => ?_, .inl (.inr ⟨_, upd_same⟩), fun b u z => ?_, fun b z => ?_⟩
      · by_cases e : b = a
        · subst e
          exact .inr ⟨_, _, upd_same⟩
        · exact .inl (upd_ne e)
      · by_cases e : b = a
        · subst e
          rw [upd_same] at z
          cases z
          exact ⟨ha, by rw [List.length_map]; exact hl, vs, _, rv, ha⟩
        · rw [upd_ne e] at z
          cases z
      · by_cases e : b = a
        · exact ⟨e, rfl⟩
        · exact absurd (upd_ne e) z
  obtain ⟨kin, nm, e0⟩ := env_law KX hns hb hbb hlim hg ha hok hA
  refine codeAny_mono ((F _ kin nm).run callerA [] s₁ H ⟨[.ref a], []⟩ [.ref a] [.ref a] _ _ rfl hr e0 (hbind s₁ (.ref a)) (.cons rfl .nil) (hsp H hO hS)) fun r s' h => ?_
  cases r with
  | error e => exact (hCX H e s' h).elim
  | ok fl =>
    cases fl with
    | next => exact False.elim h
    | brk => exact False.elim h
    | cont => exact False.elim h
    | ret u =>
      obtain ⟨v, H', os, bare, un, hok', r', q⟩ := h
      cases (show v = .bl true from q)
      cases (show u = Value.bool true from r')
      refine ⟨rfl, OldK.of_keep fun b o e => ?_, os, bare⟩
      cases q : H b with
      | none => exact un.keep b o e q (by intro z; exact absurd (show b ∈ ([] : List Addr) from z) (by simp)) (by simp)
      | some u =>
        rcases hO b with z | ⟨ob, xs, z⟩
        · rw [q] at z
          cases z
        · have e1 := (hok b _ z).1
          rw [e] at e1
          cases e1
          exact (hok' b _ (un.frzs b _ _ z)).1
end
theorem walk_ofG {l : PySem.W.OpenLaw} {n k : Nat} {q : Program} {loose : List Str} {XP : (Str → Option Value) → Heap → Prop} {YP : World → Heap → Prop} {d : DefRec} {CX : CXT} {x : Str}
    (hn : l.most = some n) (hn2 : n ≤ sizeLine) (hdf : d.params.defaults = []) (hr : Room k callerA)
    (F : ∀ (w : World) (mg : Str → Option Value) (fa : Addr) (h : Heap), YP w h → h.Ns mainGlobals mg → mg d.name = some (.ref fa) →
      ∃ (K : PySem.W.Frag) (fd : FuncData) (sp : Sp), K.In h ∧ (∀ (s : Shared) (u : Value), BindsTo s fd ⟨[u], []⟩ [(x, u)]) ∧
        (∀ (H : Hp) (a : Addr) (ns : List Int), ns.length ≤ n → Only H → SqL K H a (ns.map V.int) → sp [.ref a] H (fun v _ => v = .bl true) fun _ _ _ => False) ∧
        ∀ base : Heap, K.In base → base.Ns mainGlobals mg → FnG l.prog w K mg base CX k fa fd [x] sp)
    (hCX : ∀ (H : Hp) (s : Shared) (e : Value) (s' : Shared), CX [] H s (fun _ _ _ => False) e s' → False) :
    PySem.W.WalkO q loose XP YP l.row.toRowW d [] (fun f vs => PySem.call f vs) := by
  refine Att.attach_call hn hdf fun w s₀ s₁ mg mb fa o pm cd doc a vs ns G Y ho hd hcd hmg hobj hints hlen hg => ?_
  obtain ⟨K, fd, sp, KX, hb, hsp, hF⟩ := F w mg fa _ Y G.T.g hmg
  exact law_callG KX G.T.g G.T.b G.T.builtins G.T.nolimit hg hobj hints (Nat.le_trans hlen hn2) hr hF hb (fun H hO hS => hsp H a ns hlen hO hS) fun H e s' => hCX H s₁ e s'
end Lf

set_option Elab.async false
set_option linter.all false
set_option maxRecDepth 100000
set_option maxHeartbeats 8000000
namespace K15
open PySem PySem.Spec PyProof.Rows L2 Lf
theorem facts {P : Program} {w : World} {K : PySem.W.Frag} {h : Heap} {mg : Str → Option Value} {f : Addr} (X : K.In h) (G : h.Ns mainGlobals mg) (hfa : mg ("law" : Str) = some (.ref f)) (c : He.SaysD fa fn K) (m : ex K = true) :
    ∃ fd : FuncData, (∀ (s : Shared) (v : Value), BindsTo s fd ⟨[v], []⟩ [("_law_script", v)]) ∧ ∀ base : Heap, K.In base → base.Ns mainGlobals mg → LamX.TabB base mg (He.cT K ("_law_steps", none)).1 (He.cT K ("_law_steps", none)).2 → FnOk P w K mg base CX0 7 f fd ["_law_script"] (spLaw K) := by
  obtain ⟨fd_is_number, F_is_number⟩ := c.def_ 0 (d := d_is_number) rfl
  obtain ⟨fd_is_between, F_is_between⟩ := c.def_ 1 (d := d_is_between) rfl
  obtain ⟨fd_is_sequence, F_is_sequence⟩ := c.def_ 2 (d := d_is_sequence) rfl
  obtain ⟨fd_is_word, F_is_word⟩ := c.def_ 3 (d := d_is_word) rfl
  obtain ⟨fd_Monoid_init, F_Monoid_init⟩ := c.def_ 11 (d := d_Monoid_init) rfl
  obtain ⟨fd_Monoid_size, F_Monoid_size⟩ := c.def_ 13 (d := d_Monoid_size) rfl
  obtain ⟨fd_Monoid_of_word, F_Monoid_of_word⟩ := c.def_ 16 (d := d_Monoid_of_word) rfl
  obtain ⟨fd_Monoid_check_number, F_Monoid_check_number⟩ := c.def_ 20 (d := d_Monoid_check_number) rfl
  obtain ⟨fd_Monoid_check_word, F_Monoid_check_word⟩ := c.def_ 21 (d := d_Monoid_check_word) rfl
  obtain ⟨fd_check_form, F_check_form⟩ := c.def_ 22 (d := d_check_form) rfl
  obtain ⟨fd_made_by, F_made_by⟩ := c.def_ 23 (d := d_made_by) rfl
  obtain ⟨fd_left_table, F_left_table⟩ := c.def_ 24 (d := d_left_table) rfl
  obtain ⟨fd_check_products, F_check_products⟩ := c.def_ 25 (d := d_check_products) rfl
  obtain ⟨fd_end, F_end⟩ := c.def_ 27 (d := d_end) rfl
  obtain ⟨fd_L_source, F_L_source⟩ := c.def_ 29 (d := d_L_source) rfl
  obtain ⟨fd_L_draw, F_L_draw⟩ := c.def_ 30 (d := d_L_draw) rfl
  obtain ⟨fd_L_maps, F_L_maps⟩ := c.def_ 32 (d := d_L_maps) rfl
  obtain ⟨fd_L_table, F_L_table⟩ := c.def_ 33 (d := d_L_table) rfl
  obtain ⟨fd_Monoid_least_right, F_Monoid_least_right⟩ := c.def_ 18 (d := d_Monoid_least_right) rfl
  obtain ⟨fd_Monoid_least_left, F_Monoid_least_left⟩ := c.def_ 19 (d := d_Monoid_least_left) rfl
  obtain ⟨fd_least_ways, F_least_ways⟩ := c.def_ 28 (d := d_least_ways) rfl
  obtain ⟨fd_L_steps, F_L_steps⟩ := c.def_ 34 (d := d_L_steps) rfl
  obtain ⟨fd_L_products, F_L_products⟩ := c.def_ 35 (d := d_L_products) rfl
  obtain ⟨fd_L_all_words, F_L_all_words⟩ := c.def_ 36 (d := d_L_all_words) rfl
  obtain ⟨fd_L_by_words, F_L_by_words⟩ := c.def_ 37 (d := d_L_by_words) rfl
  obtain ⟨fd_L_right, F_L_right⟩ := c.def_ 38 (d := d_L_right) rfl
  obtain ⟨fd, F⟩ := c.def_ 39 (d := d_law) rfl
  have gl : ∀ (i : Nat) (x : Str), fa[i]? = some (.glo x) → mg x = some (.ref (He.ga K x)) := fun i x e => He.glo_ok X G (c.fact i e)
  have fr : ∀ (i : Nat) (x : Str), fa[i]? = some (.free x) → mg x = none := fun i x e => He.free_ok X G (c.fact i e)
  have it : ∀ (i : Nat) (x : Str) (v : Int), fa[i]? = some (.int x v) → ∃ t, mg x = some (.int v t) := fun i x v e => He.int_ok X G (c.fact i e)
  have st : ∀ (i : Nat) (x v : Str), fa[i]? = some (.str x v) → ∃ t, mg x = some (.str v t) := fun i x v e => He.str_ok X G (c.fact i e)
  have e := hfa.symm.trans (gl 26 "law" rfl)
  cases e
  have b := FunD.bindsA (ps := ["_law_script"]) F fun _ _ _ _ _ _ us hl => match us, hl with | [_], _ => rfl
  refine ⟨fd, fun s v => b s [v] rfl, fun base _ _ TB => ?_⟩
  have T : Txt P w K mg base := ⟨c, m, gl, fr, it, st⟩
  have z_ValueError : mg "ValueError" = none := T.fr 31 "ValueError" rfl
  have z_abs : mg "abs" = none := T.fr 32 "abs" rfl
  have z_all : mg "all" = none := T.fr 33 "all" rfl
  have z_bool : mg "bool" = none := T.fr 34 "bool" rfl
  have z_dict : mg "dict" = none := T.fr 35 "dict" rfl
  have z_enumerate : mg "enumerate" = none := T.fr 36 "enumerate" rfl
  have z_int : mg "int" = none := T.fr 37 "int" rfl
  have z_isinstance : mg "isinstance" = none := T.fr 38 "isinstance" rfl
  have z_len : mg "len" = none := T.fr 39 "len" rfl
  have z_list : mg "list" = none := T.fr 40 "list" rfl
  have z_range : mg "range" = none := T.fr 41 "range" rfl
  have z_sorted : mg "sorted" = none := T.fr 42 "sorted" rfl
  have z_str : mg "str" = none := T.fr 43 "str" rfl
  have z_tuple : mg "tuple" = none := T.fr 44 "tuple" rfl
  have z_zip : mg "zip" = none := T.fr 45 "zip" rfl
  obtain ⟨t_LETTERS, g_LETTERS⟩ := T.st 29 "LETTERS" "abcdef" rfl
  obtain ⟨t_SIGNS, g_SIGNS⟩ := T.st 30 "SIGNS" "abcdefghijklmnopqrst" rfl
  have D_is_number : Def P w K mg base CX0 1 "is_number" ["thing"] spNum := ⟨_, fd_is_number, T.gl 5 "is_number" rfl, F_is_number.kp, ok_num F_is_number z_isinstance z_int z_bool, F_is_number.bindsN fun _ _ _ _ _ _ us hl => match us, hl with | [_], _ => rfl⟩
  have D_is_between : Def P w K mg base CX0 2 "is_between" ["thing", "least", "most"] spBtw := ⟨_, fd_is_between, T.gl 6 "is_between" rfl, F_is_between.kp, ok_btw F_is_between D_is_number, F_is_between.bindsN fun _ _ _ _ _ _ us hl => match us, hl with | [_, _, _], _ => rfl⟩
  have D_is_sequence : Def P w K mg base CX0 1 "is_sequence" ["thing", "least", "most"] (spSeq K) := ⟨_, fd_is_sequence, T.gl 7 "is_sequence" rfl, F_is_sequence.kp, ok_seq F_is_sequence z_isinstance z_list z_tuple z_len, F_is_sequence.bindsN fun _ _ _ _ _ _ us hl => match us, hl with | [_, _, _], _ => rfl⟩
  obtain ⟨ds_w, vs_w, bs_w⟩ := F_is_word.binds1 (ps := ["thing", "letters", "most"]) 3 1 (by intro z; cases z) rfl fun T kV doc pm an cdv ct us its hl hi => match us, its, hl, hi with | [_, _, _], [_], _, _ => ⟨_, rfl, rfl⟩
  cases vs_w
  have D_is_word : Def P w K mg base CX0 1 "is_word" ["thing", "letters", "most"] spWord := ⟨_, fd_is_word, T.gl 8 "is_word" rfl, F_is_word.kp, ok_word F_is_word g_LETTERS z_isinstance z_str z_len z_all, bs_w⟩
  have D_check_form : Def P w K mg base CX0 3 "_check_form" ["right"] (spForm K) := ⟨_, fd_check_form, T.gl 9 "_check_form" rfl, F_check_form.kp, ok_form F_check_form T D_is_sequence D_is_between, F_check_form.bindsN fun _ _ _ _ _ _ us hl => match us, hl with | [_], _ => rfl⟩
  have D_made_by : Def P w K mg base CX0 1 "_made_by" ["right"] (spMade K) := ⟨_, fd_made_by, T.gl 10 "_made_by" rfl, F_made_by.kp, ok_made F_made_by T, F_made_by.bindsN fun _ _ _ _ _ _ us hl => match us, hl with | [_], _ => rfl⟩
  have D_left_table : Def P w K mg base CX0 1 "_left_table" ["right", "made"] (spLeft K) := ⟨_, fd_left_table, T.gl 11 "_left_table" rfl, F_left_table.kp, ok_left F_left_table T, F_left_table.bindsN fun _ _ _ _ _ _ us hl => match us, hl with | [_, _], _ => rfl⟩
  have D_check_products : Def P w K mg base CX0 1 "_check_products" ["right", "left"] (spProds K) := ⟨_, fd_check_products, T.gl 12 "_check_products" rfl, F_check_products.kp, ok_prods F_check_products T, F_check_products.bindsN fun _ _ _ _ _ _ us hl => match us, hl with | [_, _], _ => rfl⟩
  have D_end : Def P w K mg base CX0 1 "_end" ["right", "start", "letters"] (spEnd K) := ⟨_, fd_end, T.gl 14 "_end" rfl, F_end.kp, ok_end F_end, F_end.bindsN fun _ _ _ _ _ _ us hl => match us, hl with | [_, _, _], _ => rfl⟩
  have mM : L2.Mk K (He.ga K "Monoid") (He.ma K (He.ga K "Monoid") "__init__") := He.mkr_ok (T.d.fact 47 (f := .mkr "Monoid") rfl)
  have FM := ok_mon F_Monoid_init T D_check_form D_made_by D_left_table D_check_products
  have bM : L2.Binds K fd_Monoid_init ["self", "right"] [] := F_Monoid_init.bindsN fun _ _ _ _ _ _ us hl => match us, hl with | [_, _], _ => rfl
  have M_size : DefM P w K mg base CX0 1 "size" ["self"] (spSize K) := ⟨_, fd_Monoid_size, He.meth_ok (T.d.fact 49 (f := .meth "Monoid" "size") rfl), ok_size F_Monoid_size T, F_Monoid_size.bindsN fun _ _ _ _ _ _ us hl => match us, hl with | [_], _ => rfl⟩
  have M_check_number : DefM P w K mg base CX0 3 "_check_number" ["self", "number"] (spCkN K) := ⟨_, fd_Monoid_check_number, He.meth_ok (T.d.fact 56 (f := .meth "Monoid" "_check_number") rfl), ok_ckn F_Monoid_check_number T D_is_between M_size, F_Monoid_check_number.bindsN fun _ _ _ _ _ _ us hl => match us, hl with | [_, _], _ => rfl⟩
  have M_check_word : DefM P w K mg base CX0 2 "_check_word" ["self", "word", "most"] (spCkW K) := ⟨_, fd_Monoid_check_word, He.meth_ok (T.d.fact 57 (f := .meth "Monoid" "_check_word") rfl), ok_ckw F_Monoid_check_word T D_is_word, F_Monoid_check_word.bindsN fun _ _ _ _ _ _ us hl => match us, hl with | [_, _, _], _ => rfl⟩
  have M_of_word : DefM P w K mg base CX0 3 "of_word" ["self", "word"] (spOfW K) := ⟨_, fd_Monoid_of_word, He.meth_ok (T.d.fact 52 (f := .meth "Monoid" "of_word") rfl), ok_ofw F_Monoid_of_word T M_check_word D_end, F_Monoid_of_word.bindsN fun _ _ _ _ _ _ us hl => match us, hl with | [_, _], _ => rfl⟩
  have D_L_source : Def P w K mg base CX0 1 "_law_source" ["_law_cell"] spSource := ⟨_, fd_L_source, T.gl 16 "_law_source" rfl, F_L_source.kp, ok_source F_L_source z_abs z_int, F_L_source.bindsN fun _ _ _ _ _ _ us hl => match us, hl with | [_], _ => rfl⟩
  have D_L_draw : Def P w K mg base CX0 1 "_law_draw" ["_law_source_here", "_law_many"] spDraw := ⟨_, fd_L_draw, T.gl 17 "_law_draw" rfl, F_L_draw.kp, ok_draw F_L_draw z_int, F_L_draw.bindsN fun _ _ _ _ _ _ us hl => match us, hl with | [_, _], _ => rfl⟩
  have D_L_maps : Def P w K mg base CX0 2 "_law_maps" ["_law_source_here", "_law_most_points", "_law_most_letters"] spMaps := ⟨_, fd_L_maps, T.gl 19 "_law_maps" rfl, F_L_maps.kp, ok_maps F_L_maps z_range z_tuple D_L_draw, F_L_maps.bindsN fun _ _ _ _ _ _ us hl => match us, hl with | [_, _, _], _ => rfl⟩
  have D_L_table : Def P w K mg base CX0 1 "_law_table" ["_law_rows"] (spTable K) := ⟨_, fd_L_table, T.gl 20 "_law_table" rfl, F_L_table.kp, ok_table F_L_table z_range z_tuple z_len z_zip, F_L_table.bindsN fun _ _ _ _ _ _ us hl => match us, hl with | [_], _ => rfl⟩
  obtain ⟨dsy, vsy, bsy⟩ := F_least_ways.binds1 (ps := ["table", "one", "is_front", "last"]) 4 1 (by intro z; cases z) rfl fun T kV doc pm an cdv ct us its hl hi => match us, its, hl, hi with | [_, _, _, _], [_], _, _ => ⟨_, rfl, rfl⟩
  cases vsy
  have D_least_ways : Def P w K mg base CX0 1 "least_ways" ["table", "one", "is_front", "last"] (spWays K) := ⟨_, fd_least_ways, T.gl 15 "least_ways" rfl, F_least_ways.kp, ok_ways F_least_ways g_SIGNS z_list z_range z_len, bsy⟩
  have M_least_right : DefM P w K mg base CX0 4 "least_right" ["self", "one", "other"] (spLR false K) := ⟨_, fd_Monoid_least_right, He.meth_ok (T.d.fact 54 (f := .meth "Monoid" "least_right") rfl), ok_lr F_Monoid_least_right T M_check_number D_least_ways, F_Monoid_least_right.bindsN fun _ _ _ _ _ _ us hl => match us, hl with | [_, _, _], _ => rfl⟩
  have M_least_left : DefM P w K mg base CX0 4 "least_left" ["self", "one", "other"] (spLR true K) := ⟨_, fd_Monoid_least_left, He.meth_ok (T.d.fact 55 (f := .meth "Monoid" "least_left") rfl), ok_ll F_Monoid_least_left T M_check_number D_least_ways, F_Monoid_least_left.bindsN fun _ _ _ _ _ _ us hl => match us, hl with | [_, _, _], _ => rfl⟩
  have D_L_steps : Def P w K mg base CX0 4 "_law_steps" ["_law_rows", "_law_first"] (spSteps K) := ⟨_, fd_L_steps, T.gl 21 "_law_steps" rfl, F_L_steps.kp, ok_steps F_L_steps TB z_range z_len z_zip z_sorted, F_L_steps.bindsN fun _ _ _ _ _ _ us hl => match us, hl with | [_, _], _ => rfl⟩
  have D_L_products : Def P w K mg base CX0 1 "_law_products" ["_law_found", "_law_table_here"] (spProducts K) := ⟨_, fd_L_products, T.gl 22 "_law_products" rfl, F_L_products.kp, ok_products F_L_products z_range z_tuple z_len z_dict z_zip, F_L_products.bindsN fun _ _ _ _ _ _ us hl => match us, hl with | [_, _], _ => rfl⟩
  have D_L_all_words : Def P w K mg base CX0 1 "_law_all_words" ["_law_letters", "_law_most"] spAllW := ⟨_, fd_L_all_words, T.gl 23 "_law_all_words" rfl, F_L_all_words.kp, ok_allW F_L_all_words z_range, F_L_all_words.bindsN fun _ _ _ _ _ _ us hl => match us, hl with | [_, _], _ => rfl⟩
  have D_L_by_words : Def P w K mg base CX0 5 "_law_by_words" ["_law_monoid", "_law_products_here", "_law_letters", "_law_most"] (spByW K) := ⟨_, fd_L_by_words, T.gl 24 "_law_by_words" rfl, F_L_by_words.kp, ok_byW F_L_by_words T D_L_all_words M_of_word M_least_right M_least_left, F_L_by_words.bindsN fun _ _ _ _ _ _ us hl => match us, hl with | [_, _, _, _], _ => rfl⟩
  have D_L_right : Def P w K mg base CX0 6 "_law_right" ["_law_monoid", "_law_found", "_law_table_here"] (spRight K) := ⟨_, fd_L_right, T.gl 25 "_law_right" rfl, F_L_right.kp, ok_right F_L_right T D_L_products D_L_steps D_L_by_words M_of_word M_least_right M_least_left, F_L_right.bindsN fun _ _ _ _ _ _ us hl => match us, hl with | [_, _, _], _ => rfl⟩
  exact ok_law F T D_L_source D_L_maps D_L_table D_L_right mM FM bM
end K15
open PySem PySem.W PySem.Calls PyProof.Rows
theorem PySem.Challenge.cw_letterfolds_k15_least_words_between_two_holds : PySem.Challenge.rw_letterfolds_k15_least_words_between_two.Holds := by
  w_on; o_law
  refine HandSHeadRun.head_any (r := K15.R) (q := K15.vw) (H := K15.hk) (ob := K15.ob) (M := 20000) (loose := K15.loose) (d := HandSHeadRun.topDef K15.R.prog 35) (kwd := []) K15.ob_eq
    (by kernel_rfl) (fun s => by kernel_rfl) K15.run (by kernel_rfl) (by kernel_rfl) (by kernel_rfl) (by rfl) (by first | assumption | decide +kernel) (by decide +kernel) ⟨rfl, rfl, rfl, rfl, rfl, by decide +kernel⟩ ?hw ?hc
  case hw => w_witness2
  case hc =>
    refine LamX.walk_ofTsE (l := PySem.Challenge.rw_letterfolds_k15_least_words_between_two) (n := 63) (k := 7) (x := "_law_script") (CX := fun _ => L2.CX0) rfl (by decide) (by kernel_rfl) ⟨rfl, by decide, by decide⟩ ?F (fun _ _ _ _ _ z => z)
    intro w mg fa h Y G hmg0
    obtain ⟨K, KX, S⟩ := Y
    have hmg : mg ("law" : PySem.Str) = some (.ref fa) := by
      have e : (HandSHeadRun.topDef K15.R.prog 35).name = ("law" : PySem.Str) := by kernel_rfl
      rw [← e]
      exact hmg0
    obtain ⟨fd, hb, hF⟩ := K15.facts (P := PySem.Challenge.rw_letterfolds_k15_least_words_between_two.prog) (w := w) KX G hmg S.d S.m
    have one : ∀ {C : PySem.Addr × PySem.Addr → Prop}, C (He.cT K ("_law_steps", none)) → ∀ p ∈ [He.cT K ("_law_steps", none)], C p := fun h p hp => by rw [List.mem_singleton.mp hp]; exact h
    refine ⟨K, KX, fd, [He.cT K ("_law_steps", none)], K15.spLaw K, one (S.empty _ List.mem_cons_self), one (S.out _ List.mem_cons_self), one (PySem.W.codeHd_of_K KX (S.hd _ List.mem_cons_self)), hb, fun H a ns hl _ hH hS => ⟨a, ns, rfl, hS, hl, fun p hp => ?_, fun _ => rfl⟩, fun base k1 k2 k3 => hF base k1 k2 (k3 _ List.mem_cons_self)⟩
    rw [List.mem_singleton.mp hp]
    exact LamX.TabS.nil (hH _ List.mem_cons_self)
