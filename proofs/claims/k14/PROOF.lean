import PyProof.Rows.All
import Wide.All
import OpenK.AllK
import Wide.FinOn
import KE.KExcIs
import KE.KExcMore
import HandS.ForMost
import HandS.ForExc
import HandS.ExcInit
import HandS.ExcField
import HandS.ExcIs
import HandS.ExcValue
import HandS.IsInst
import HandS.HeadHook4
import HandS.Strs
import KE.GoesEnum
import HandS.Walk
import KE.KOpsOwn
import HandS.OwnEq
import HandS.Wide
import HandS.Dict
import KE.GoesMore
import KE.GoesZip
import HandS.Style
import HandS.Conv
import HandS.Text
import KE.KEqDeep
import HandS.Deep
import PyProof.ListStr
import PyProof.StrOps2
import HandS.WordsDict
import HandS.Replace
import PyProof.ReprRoads
import PyProof.ReprLen
import PyProof.Rows.FactsT3
import HandS.Defaults
import HandS.HotCalls
import HandS.TryMany
import PyProof.CallFns
import HandS.RaiseMore
import KE.KDictZip
import HandS.RepeatKit
import PyProof.StrLawsRepr
import KE.KStateDown
import HandS.Head2
import HandS.HeadEnd
import PySem.Challenge.RW_letterfolds_k14_words_and_products
set_option Elab.async false
set_option linter.all false
set_option maxRecDepth 100000
set_option maxHeartbeats 2000000
/-! Maps of points, tables of monoids: plain mathematics. -/
namespace Mon
/-- first x, then y -/
def comp (x y : List Nat) : List Nat := x.map fun i => y.getD i 0
def Valid (n : Nat) (x : List Nat) : Prop := x.length = n ∧ ∀ i ∈ x, i < n
theorem getD_at {α : Type} {l : List α} {i : Nat} {d : α} (h : i < l.length) : l.getD i d = l[i] := by simp [List.getD, h]
theorem getD_of {α : Type} {l : List α} {i : Nat} {d v : α} (h : l[i]? = some v) : l.getD i d = v := by simp [List.getD, h]
theorem comp_valid {n : Nat} {x y : List Nat} (hx : Valid n x) (hy : Valid n y) : Valid n (comp x y) := by
  refine ⟨by rw [comp, List.length_map, hx.1], fun i hi => ?_⟩
  obtain ⟨j, hj, rfl⟩ := List.mem_map.mp hi
  rw [getD_at (by rw [hy.1]; exact hx.2 j hj)]
  exact hy.2 _ (List.getElem_mem _)
theorem comp_assoc {n : Nat} {x y z : List Nat} (hx : Valid n x) (hy : Valid n y) : comp (comp x y) z = comp x (comp y z) := by
  unfold comp
  rw [List.map_map]
  refine List.map_congr_left fun i hi => ?_
  have h : i < y.length := by rw [hy.1]; exact hx.2 i hi
  show z.getD (y.getD i 0) 0 = (y.map fun j => z.getD j 0).getD i 0
  rw [getD_at h, getD_at (l := y.map fun j => z.getD j 0) (by rw [List.length_map]; exact h), List.getElem_map]
def idm (n : Nat) : List Nat := List.range n
theorem idm_valid {n : Nat} : Valid n (idm n) := ⟨List.length_range, fun i hi => List.mem_range.mp hi⟩
theorem id_comp {n : Nat} {y : List Nat} (hy : Valid n y) : comp (idm n) y = y := by
  apply List.ext_getElem
  · rw [comp, List.length_map, idm, List.length_range, hy.1]
  · intro i h1 h2
    simp only [comp, idm, List.getElem_map, List.getElem_range]
    exact getD_at h2
theorem comp_id {n : Nat} {x : List Nat} (hx : Valid n x) : comp x (idm n) = x := by
  conv => rhs; rw [← List.map_id x]
  refine List.map_congr_left fun i hi => ?_
  have h : i < (idm n).length := by rw [idm, List.length_range]; exact hx.2 i hi
  rw [getD_at h]
  simp [idm]
/-! ### how many -/
theorem nodup_lt : ∀ (N : Nat) (l : List Nat), l.Nodup → (∀ x ∈ l, x < N) → l.length ≤ N
  | 0, l, _, h => by
    cases l with
    | nil => exact Nat.le_refl _
    | cons x r => exact absurd (h x List.mem_cons_self) (Nat.not_lt_zero _)
  | N + 1, l, nd, h => by
    by_cases hm : N ∈ l
    · have q := nodup_lt N (l.erase N) (nd.erase N) fun x hx => by
        have h1 := h x (List.mem_of_mem_erase hx)
        have h2 : x ≠ N := fun e => by
          rw [e] at hx
          exact (List.Nodup.not_mem_erase nd) hx
        omega
      rw [List.length_erase_of_mem hm] at q
      omega
    · have q := nodup_lt N l nd fun x hx => by
        have h1 := h x hx
        have h2 : x ≠ N := fun e => hm (e ▸ hx)
        omega
      omega
/-- the number that a list of digits tells -/
def enc (n : Nat) : List Nat → Nat
  | [] => 0
  | i :: r => i + n * enc n r
theorem enc_lt {n : Nat} : ∀ {x : List Nat}, (∀ i ∈ x, i < n) → enc n x < n ^ x.length
  | [], _ => by simp [enc]
  | i :: r, h => by
    have a := h i List.mem_cons_self
    have b := enc_lt (x := r) fun j hj => h j (List.mem_cons_of_mem _ hj)
    have c : n * (enc n r + 1) ≤ n * n ^ r.length := Nat.mul_le_mul_left _ b
    rw [Nat.mul_add, Nat.mul_one] at c
    simp only [enc, List.length_cons, Nat.pow_succ]
    rw [Nat.mul_comm (n ^ r.length) n]
    omega
theorem enc_inj {n : Nat} : ∀ {x y : List Nat}, x.length = y.length → (∀ i ∈ x, i < n) → (∀ i ∈ y, i < n) → enc n x = enc n y → x = y
  | [], [], _, _, _, _ => rfl
  | [], _ :: _, e, _, _, _ => by cases e
  | _ :: _, [], e, _, _, _ => by cases e
  | i :: r, j :: q, e, hx, hy, h => by
    have a := hx i List.mem_cons_self
    have b := hy j List.mem_cons_self
    simp only [enc] at h
    have m1 : (i + n * enc n r) % n = i := by rw [Nat.add_mul_mod_self_left, Nat.mod_eq_of_lt a]
    have m2 : (j + n * enc n q) % n = j := by rw [Nat.add_mul_mod_self_left, Nat.mod_eq_of_lt b]
    have e1 : i = j := by rw [← m1, ← m2, h]
    subst e1
    have e2 : enc n r = enc n q := by
      have z : n * enc n r = n * enc n q := by omega
      exact Nat.eq_of_mul_eq_mul_left (by omega) z
    rw [enc_inj (by simpa using e) (fun k hk => hx k (List.mem_cons_of_mem _ hk)) (fun k hk => hy k (List.mem_cons_of_mem _ hk)) e2]
theorem maps_few {n : Nat} {f : List (List Nat)} (nd : f.Nodup) (v : ∀ x ∈ f, Valid n x) : f.length ≤ n ^ n := by
  have q := nodup_lt (n ^ n) (f.map (enc n)) ?_ ?_
  · rwa [List.length_map] at q
  · rw [List.Nodup, List.pairwise_map]
    refine nd.imp_of_mem fun {a b} ha hb ne e => ne ?_
    exact enc_inj (by rw [(v a ha).1, (v b hb).1]) (v a ha).2 (v b hb).2 e
  · intro x hx
    obtain ⟨y, hy, rfl⟩ := List.mem_map.mp hx
    have := enc_lt (v y hy).2
    rwa [(v y hy).1] at this
/-! ### the order in which numbers are met -/
def madeRow (i : Nat) : Nat → List Nat → List (Nat × Nat) → Option (List (Nat × Nat))
  | _, [], m => some m
  | c, t :: r, m => if m.length + 1 < t then none else if t = m.length + 1 then madeRow i (c + 1) r (m ++ [(i, c)]) else madeRow i (c + 1) r m
def madeTab : Nat → List (List Nat) → List (Nat × Nat) → Option (List (Nat × Nat))
  | _, [], m => some m
  | i, row :: rest, m => if m.length + 1 ≤ i then none else (madeRow i 0 row m).bind (madeTab (i + 1) rest)
theorem madeRow_snoc {i t : Nat} : ∀ {row : List Nat} {c : Nat} {m : List (Nat × Nat)}, madeRow i c (row ++ [t]) m = (madeRow i c row m).bind fun m' => if m'.length + 1 < t then none else if t = m'.length + 1 then some (m' ++ [(i, c + row.length)]) else some m'
  | [], c, m => by simp [madeRow]
  | u :: r, c, m => by
    simp only [List.cons_append, madeRow]
    split
    · rfl
    · split
      · rw [madeRow_snoc, List.length_cons, Nat.add_assoc, Nat.add_comm 1]
      · rw [madeRow_snoc, List.length_cons, Nat.add_assoc, Nat.add_comm 1]
theorem madeTab_snoc {row : List Nat} : ∀ {rows : List (List Nat)} {i : Nat} {m : List (Nat × Nat)}, madeTab i (rows ++ [row]) m = (madeTab i rows m).bind fun m' => if m'.length + 1 ≤ i + rows.length then none else madeRow (i + rows.length) 0 row m'
  | [], i, m => by
    simp only [List.nil_append, madeTab, List.length_nil, Nat.add_zero, Option.bind_some]
    split
    · rfl
    · cases madeRow i 0 row m <;> rfl
  | u :: r, i, m => by
    simp only [List.cons_append, madeTab]
    split
    · rfl
    · cases h : madeRow i 0 u m with
      | none => rfl
      | some m' =>
        simp only [Option.bind_some]
        rw [madeTab_snoc, List.length_cons]
        rw [show i + 1 + r.length = i + (r.length + 1) by omega]
/-- what was met: each number at a place of the table before it -/
theorem madeRow_ok {i : Nat} : ∀ {row : List Nat} {c : Nat} {m m' : List (Nat × Nat)}, madeRow i c row m = some m' → ∃ e, m' = m ++ e ∧ ∀ k p, e[k]? = some p → p.1 = i ∧ c ≤ p.2 ∧ row[p.2 - c]? = some (m.length + k + 1)
  | [], c, m, m', h => by
    simp only [madeRow, Option.some.injEq] at h
    exact ⟨[], by simp [h], fun k p hp => by simp at hp⟩
  | t :: r, c, m, m', h => by
    simp only [madeRow] at h
    split at h
    · cases h
    · split at h
      · rename_i ht
        obtain ⟨e, he, q⟩ := madeRow_ok h
        refine ⟨(i, c) :: e, by rw [he, List.append_assoc]; rfl, fun k p hp => ?_⟩
        cases k with
        | zero =>
          have := Option.some.inj hp
          subst this
          refine ⟨rfl, Nat.le_refl _, ?_⟩
          rw [Nat.sub_self]
          simp [ht]
        | succ k =>
          obtain ⟨q1, q2, q3⟩ := q k p (by simpa using hp)
          refine ⟨q1, by omega, ?_⟩
          rw [show p.2 - c = (p.2 - (c + 1)) + 1 by omega, List.getElem?_cons_succ, q3, List.length_append]
          congr 1
          show m.length + 1 + k + 1 = m.length + (k + 1) + 1
          omega
      · obtain ⟨e, he, q⟩ := madeRow_ok h
        refine ⟨e, he, fun k p hp => ?_⟩
        obtain ⟨q1, q2, q3⟩ := q k p hp
        refine ⟨q1, by omega, ?_⟩
        rw [show p.2 - c = (p.2 - (c + 1)) + 1 by omega, List.getElem?_cons_succ, q3]
theorem madeTab_ok : ∀ {rows : List (List Nat)} {i : Nat} {m m' : List (Nat × Nat)}, madeTab i rows m = some m' → ∃ e, m' = m ++ e ∧ ∀ k p, e[k]? = some p → i ≤ p.1 ∧ p.1 < m.length + k + 1 ∧ ∃ row, rows[p.1 - i]? = some row ∧ row[p.2]? = some (m.length + k + 1)
  | [], i, m, m', h => by
    simp only [madeTab, Option.some.injEq] at h
    exact ⟨[], by simp [h], fun k p hp => by simp at hp⟩
  | u :: r, i, m, m', h => by
    simp only [madeTab] at h
    split at h
    · cases h
    · rename_i hi
      cases h1 : madeRow i 0 u m with
      | none => rw [h1] at h; cases h
      | some m1 =>
        rw [h1, Option.bind_some] at h
        obtain ⟨e1, he1, q1⟩ := madeRow_ok h1
        obtain ⟨e2, he2, q2⟩ := madeTab_ok h
        refine ⟨e1 ++ e2, by rw [he2, he1, List.append_assoc], fun k p hp => ?_⟩
        by_cases hk : k < e1.length
        · rw [List.getElem?_append_left hk] at hp
          obtain ⟨a, b, c⟩ := q1 k p hp
          refine ⟨by omega, by omega, u, by rw [a, Nat.sub_self]; rfl, ?_⟩
          rwa [Nat.sub_zero] at c
        · rw [List.getElem?_append_right (by omega)] at hp
          obtain ⟨a, b, row, c, d⟩ := q2 _ p hp
          have le : m1.length = m.length + e1.length := by rw [he1, List.length_append]
          refine ⟨by omega, by omega, row, ?_, ?_⟩
          · rw [show p.1 - i = (p.1 - (i + 1)) + 1 by omega, List.getElem?_cons_succ, c]
          · rw [d, le]
            congr 1
            omega
theorem madeTab_app {b : List (List Nat)} : ∀ {a : List (List Nat)} {i : Nat} {m : List (Nat × Nat)}, madeTab i (a ++ b) m = (madeTab i a m).bind (madeTab (i + a.length) b)
  | [], i, m => by simp [madeTab]
  | u :: r, i, m => by
    simp only [List.cons_append, madeTab]
    split
    · rfl
    · cases madeRow i 0 u m with
      | none => rfl
      | some m' =>
        simp only [Option.bind_some]
        rw [madeTab_app, List.length_cons, show i + 1 + r.length = i + (r.length + 1) by omega]
theorem take_cons {α : Type} {l : List α} {i : Nat} {x : α} (h : l[i]? = some x) : l = l.take i ++ x :: l.drop (i + 1) ∧ l.take (i + 1) = l.take i ++ [x] ∧ (l.take i).length = i := by
  obtain ⟨hi, e⟩ := List.getElem?_eq_some_iff.mp h
  refine ⟨?_, ?_, by rw [List.length_take]; omega⟩
  · rw [← e, ← List.drop_eq_getElem_cons hi, List.take_append_drop]
  · rw [← e, List.take_succ_eq_append_getElem hi]
theorem madeTab_at {rows : List (List Nat)} {i : Nat} {row : List Nat} {m : List (Nat × Nat)} (h : madeTab 0 rows [] = some m) (hr : rows[i]? = some row) :
    ∃ m', madeTab 0 (rows.take i) [] = some m' ∧ i < m'.length + 1 ∧ ∃ m'', madeRow i 0 row m' = some m'' ∧ madeTab 0 (rows.take (i + 1)) [] = some m'' := by
  obtain ⟨e1, e2, e3⟩ := take_cons hr
  rw [e1, madeTab_app, e3, Nat.zero_add] at h
  cases h1 : madeTab 0 (rows.take i) [] with
  | none => rw [h1] at h; cases h
  | some m' =>
    rw [h1, Option.bind_some] at h
    simp only [madeTab] at h
    split at h
    · cases h
    · rename_i hi
      cases h2 : madeRow i 0 row m' with
      | none => rw [h2] at h; cases h
      | some m'' =>
        refine ⟨m', rfl, by omega, m'', h2, ?_⟩
        rw [e2, madeTab_app, h1, e3, Nat.zero_add, Option.bind_some]
        simp only [madeTab]
        rw [if_neg hi, h2]
        rfl
theorem madeRow_app {i : Nat} {b : List Nat} : ∀ {a : List Nat} {c : Nat} {m : List (Nat × Nat)}, madeRow i c (a ++ b) m = (madeRow i c a m).bind (madeRow i (c + a.length) b)
  | [], c, m => by simp [madeRow]
  | u :: r, c, m => by
    simp only [List.cons_append, madeRow, List.length_cons]
    split
    · rfl
    · split
      · rw [madeRow_app, show c + 1 + r.length = c + (r.length + 1) by omega]
      · rw [madeRow_app, show c + 1 + r.length = c + (r.length + 1) by omega]
theorem madeRow_at {row : List Nat} {i c t : Nat} {m m2 : List (Nat × Nat)} (h : madeRow i 0 row m = some m2) (hr : row[c]? = some t) :
    ∃ m', madeRow i 0 (row.take c) m = some m' ∧ t ≤ m'.length + 1 ∧ madeRow i 0 (row.take (c + 1)) m = some (if t = m'.length + 1 then m' ++ [(i, c)] else m') := by
  obtain ⟨e1, e2, e3⟩ := take_cons hr
  rw [e1, madeRow_app, e3, Nat.zero_add] at h
  cases h1 : madeRow i 0 (row.take c) m with
  | none => rw [h1] at h; cases h
  | some m' =>
    rw [h1, Option.bind_some] at h
    simp only [madeRow] at h
    split at h
    · cases h
    · rename_i hi
      refine ⟨m', rfl, by omega, ?_⟩
      rw [e2, madeRow_app, h1, e3, Nat.zero_add, Option.bind_some]
      simp only [madeRow]
      rw [if_neg hi]
      split <;> rfl
theorem madeTab_lt {rows : List (List Nat)} {m : List (Nat × Nat)} (h : madeTab 0 rows [] = some m) {k : Nat} {p : Nat × Nat} (hp : m[k]? = some p) : p.1 < k + 1 ∧ ∃ row, rows[p.1]? = some row ∧ row[p.2]? = some (k + 1) := by
  obtain ⟨e, he, q⟩ := madeTab_ok h
  rw [List.nil_append] at he
  subst he
  obtain ⟨_, a, row, b, c⟩ := q k p hp
  refine ⟨by simpa using a, row, by simpa using b, by simpa using c⟩
/-! ### a table that maps act by -/
structure Tab (n : Nat) (gens found rows : List (List Nat)) : Prop where
  nd : found.Nodup
  val : ∀ x ∈ found, Valid n x
  gval : ∀ g ∈ gens, Valid n g
  head : found[0]? = some (idm n)
  len : rows.length = found.length
  wid : ∀ (i : Nat) row, rows[i]? = some row → row.length = gens.length
  ent : ∀ (i : Nat) row, rows[i]? = some row → ∀ (c t : Nat), row[c]? = some t → ∃ x g, found[i]? = some x ∧ gens[c]? = some g ∧ found[t]? = some (comp x g)
def leftStep (rows : List (List Nat)) (L : List (List Nat)) (p : Nat × Nat) : List (List Nat) := L ++ [(L.getD p.1 []).map fun x => (rows.getD x []).getD p.2 0]
def leftTab (rows : List (List Nat)) (made : List (Nat × Nat)) : List (List Nat) := made.foldl (leftStep rows) [rows.getD 0 []]
/-- row k of the left table tells what letters in front of element k are -/
def LeftOk (gens found : List (List Nat)) (k : Nat) (l : List Nat) : Prop := l.length = gens.length ∧ ∀ (a e : Nat), l[a]? = some e → ∃ g x, gens[a]? = some g ∧ found[k]? = some x ∧ found[e]? = some (comp g x)
theorem nodup_at {α : Type} {l : List α} (nd : l.Nodup) {i j : Nat} {x : α} (h1 : l[i]? = some x) (h2 : l[j]? = some x) : i = j := by
  obtain ⟨a, ha⟩ := List.getElem?_eq_some_iff.mp h1
  obtain ⟨b, hb⟩ := List.getElem?_eq_some_iff.mp h2
  have pw := List.pairwise_iff_getElem.mp nd
  rcases Nat.lt_trichotomy i j with h | h | h
  · exact absurd (ha.trans hb.symm) (pw i j a b h)
  · exact h
  · exact absurd (hb.trans ha.symm) (pw j i b a h)
section
variable {n : Nat} {gens found rows : List (List Nat)}
theorem Tab.at (T : Tab n gens found rows) {i : Nat} {x : List Nat} (h : found[i]? = some x) : ∃ row, rows[i]? = some row := by
  have := (List.getElem?_eq_some_iff.mp h).1
  exact ⟨_, List.getElem?_eq_getElem (by rw [T.len]; exact this)⟩
/-- the entry of row i at letter c -/
theorem Tab.get (T : Tab n gens found rows) {i c : Nat} {x g : List Nat} (h : found[i]? = some x) (hg : gens[c]? = some g) : found[(rows.getD i []).getD c 0]? = some (comp x g) := by
  obtain ⟨row, hr⟩ := T.at h
  have hc : c < row.length := by rw [T.wid i row hr]; exact (List.getElem?_eq_some_iff.mp hg).1
  obtain ⟨x', g', h1, h2, h3⟩ := T.ent i row hr c row[c] (List.getElem?_eq_getElem hc)
  rw [h] at h1
  rw [hg] at h2
  cases h1
  cases h2
  rw [getD_of hr, getD_at hc]
  exact h3
theorem left_len {made : List (Nat × Nat)} : (leftTab rows made).length = made.length + 1 := by
  unfold leftTab
  suffices h : ∀ (m : List (Nat × Nat)) (L : List (List Nat)), (m.foldl (leftStep rows) L).length = L.length + m.length by
    rw [h, List.length_singleton, Nat.add_comm]
  intro m
  induction m with
  | nil => intro L; simp
  | cons p r ih => intro L; rw [List.foldl_cons, ih, leftStep, List.length_append, List.length_singleton, List.length_cons]; omega
theorem left_snoc {made : List (Nat × Nat)} {p : Nat × Nat} : leftTab rows (made ++ [p]) = leftStep rows (leftTab rows made) p := by
  unfold leftTab
  rw [List.foldl_append]
  rfl
theorem left_ok (T : Tab n gens found rows) (hz : gens ≠ []) : ∀ (made : List (Nat × Nat)), (∀ k p, made[k]? = some p → p.1 < k + 1 ∧ ∃ row, rows[p.1]? = some row ∧ row[p.2]? = some (k + 1)) → ∀ k l, (leftTab rows made)[k]? = some l → LeftOk gens found k l := by
  intro made
  have base : ∀ l, rows.getD 0 [] = l → LeftOk gens found 0 l := fun l hl => by
    obtain ⟨row, hr⟩ := T.at T.head
    rw [getD_of hr] at hl
    subst hl
    refine ⟨T.wid 0 row hr, fun a e he => ?_⟩
    obtain ⟨x, g, h1, h2, h3⟩ := T.ent 0 row hr a e he
    rw [T.head] at h1
    cases h1
    have gv := T.gval g (List.mem_of_getElem? h2)
    refine ⟨g, idm n, h2, T.head, ?_⟩
    rw [comp_id gv, h3, id_comp gv]
  suffices h : ∀ (r : List (Nat × Nat)) (m : List (Nat × Nat)), (∀ k p, (m ++ r)[k]? = some p → p.1 < k + 1 ∧ ∃ row, rows[p.1]? = some row ∧ row[p.2]? = some (k + 1)) → (∀ k l, (leftTab rows m)[k]? = some l → LeftOk gens found k l) →
      ∀ k l, (leftTab rows (m ++ r))[k]? = some l → LeftOk gens found k l by
    intro hm
    have := h made [] (by simpa using hm) (fun k l hl => by
      unfold leftTab at hl
      cases k with
      | zero => exact base l (Option.some.inj hl)
      | succ k => simp at hl)
    simpa using this
  intro r
  induction r with
  | nil => intro m _ h; simpa using h
  | cons p r ih =>
    intro m hm h
    rw [List.append_cons]
    refine ih (m ++ [p]) (by rw [← List.append_cons]; exact hm) fun k l hl => ?_
    rw [left_snoc, leftStep] at hl
    by_cases hk : k < (leftTab rows m).length
    · rw [List.getElem?_append_left hk] at hl
      exact h k l hl
    · have hk2 : k = (leftTab rows m).length := by
        have := (List.getElem?_eq_some_iff.mp hl).1
        rw [List.length_append, List.length_singleton] at this
        omega
      rw [List.getElem?_append_right (by omega), hk2, Nat.sub_self] at hl
      have el := Option.some.inj hl
      have kl : k = m.length + 1 := by rw [hk2, left_len]
      obtain ⟨b1, row, hrow, hent⟩ := hm m.length p (by rw [List.getElem?_append_right (Nat.le_refl _), Nat.sub_self]; rfl)
      obtain ⟨xb, gp, hxb, hgp, hfk⟩ := T.ent p.1 row hrow p.2 _ hent
      have hb : p.1 < (leftTab rows m).length := by rw [left_len]; exact b1
      have hL := h p.1 ((leftTab rows m)[p.1]) (List.getElem?_eq_getElem hb)
      rw [getD_at hb] at el
      refine ⟨by rw [← el, List.length_map]; exact hL.1, fun a e he => ?_⟩
      rw [← el, List.getElem?_map] at he
      cases q : ((leftTab rows m)[p.1])[a]? with
      | none => rw [q] at he; cases he
      | some e0 =>
        rw [q] at he
        have ee := Option.some.inj he
        obtain ⟨g, x, h1, h2, h3⟩ := hL.2 a e0 q
        rw [hxb] at h2
        cases h2
        have z := T.get h3 hgp
        have gv := T.gval g (List.mem_of_getElem? h1)
        have xv := T.val xb (List.mem_of_getElem? hxb)
        refine ⟨g, comp xb gp, h1, by rw [kl]; exact hfk, ?_⟩
        rw [← ee, z, comp_assoc gv xv]
theorem prod_ok (T : Tab n gens found rows) (hz : gens ≠ []) {L : List (List Nat)} (hL : ∀ k l, L[k]? = some l → LeftOk gens found k l) {i c t : Nat} {row li lt : List Nat} (h1 : rows[i]? = some row) (h2 : row[c]? = some t) (h3 : L[i]? = some li) (h4 : L[t]? = some lt) :
    lt = li.map fun x => (rows.getD x []).getD c 0 := by
  obtain ⟨x, g, hx, hg, ht⟩ := T.ent i row h1 c t h2
  have a := hL i li h3
  have b := hL t lt h4
  apply List.ext_getElem
  · rw [List.length_map, a.1, b.1]
  · intro k k1 k2
    rw [List.length_map] at k2
    rw [List.getElem_map]
    obtain ⟨ga, y, e1, e2, e3⟩ := b.2 k lt[k] (List.getElem?_eq_getElem k1)
    obtain ⟨gb, z, e4, e5, e6⟩ := a.2 k li[k] (List.getElem?_eq_getElem k2)
    rw [e1] at e4
    cases e4
    rw [ht] at e2
    cases e2
    rw [hx] at e5
    cases e5
    have q := T.get e6 hg
    have gv := T.gval ga (List.mem_of_getElem? e1)
    have xv := T.val x (List.mem_of_getElem? hx)
    rw [comp_assoc gv xv] at q
    exact nodup_at T.nd e3 q
end
end Mon

set_option Elab.async false
set_option linter.all false
set_option maxRecDepth 100000
set_option maxHeartbeats 4000000
/-! Facts of error classes. -/
namespace Lf
open PySem PySem.Spec PyProof.Rows L2
/-- what isinstance of an error of the class at C wants -/
structure IsC (K : PySem.W.Frag) (C : Addr) : Prop where
  cl : (PySem.W.clsIn K C).isSome = true
  ga : PySem.W.findIn K (.ref C) "__getattribute__" = some (some (.builtin "BaseException.__getattribute__"))
  gg : PySem.W.findIn K (.ref C) "__getattr__" = some none
  sb : PySem.W.subIn K (.ref C) (.type "BaseException") = some true
  ca : PySem.W.findIn K (.ref C) "__class__" = some (some (.builtin "object.__class__"))
  sg : PySem.W.specialIn K (.builtin "object.__class__") "__get__" = some (some (.builtin "getset_descriptor.__get__"))
  tk : PySem.W.takesIn K (.builtin "object.__class__") = some true
  ob : PySem.W.mroIn K C (.type "object") = some true
/-! ### the classes by one look at the written part -/
/-- an exception class over ValueError -/
def oexB (K : PySem.W.Frag) (C : Addr) : Bool := match K.lookup C with
  | some ⟨.type t, _, .cls cd, sl⟩ => (match cd.mro, sl.toList with
    | .ref D :: bm, [_, _, _, _, some (.builtin n), _] => decide (t = "type") && (decide (D = C) && (decide (n = "ValueError.__new__") && (!cd.hasDel && (cd.hasDict && PySem.HandSPX.refsVE bm))))
    | _, _ => false)
  | _ => false
theorem oexB_ok {K : PySem.W.Frag} {C : Addr} (h : oexB K C = true) : ∃ nm q N bs bm sn sub ab col dd k0 k1 k2 k3 k5,
    K.lookup C = some (excClassObj nm q C N bs bm true sn sub ab col dd k0 k1 k2 k3 k5 "ValueError.__new__") ∧ PySem.HandSPX.refsVE bm = true := by
  unfold oexB at h
  split at h
  · rename_i t dd cd sl lk
    split at h
    · rename_i D bm k0 k1 k2 k3 n k5 hm hs
      simp only [Bool.and_eq_true, decide_eq_true_eq, Bool.not_eq_true'] at h
      obtain ⟨rfl, rfl, rfl, h4, h5, h6⟩ := h
      obtain ⟨nm, bs, mro, ns, qn, hd, sn, sub, ab, col, del⟩ := cd
      dsimp only at hm h4 h5
      subst hm h4 h5
      obtain ⟨l⟩ := sl
      dsimp only at hs
      subst hs
      exact ⟨nm, qn, ns, bs, bm, sn, sub, ab, col, dd, k0, k1, k2, k3, k5, lk, h6⟩
    · cases h
  · cases h
def errB (K : PySem.W.Frag) (C : Addr) : Bool :=
  oexB K C && (decide (PySem.W.findIn K (.ref C) "__setattr__" = some (some (.builtin "object.__setattr__"))) && (decide (PySem.W.subIn K (.ref C) (.type "BaseException") = some true) &&
  (decide (PySem.W.typeIn K (.ref C) = some (.type "type")) && (PySem.W.keepIn K (.ref C) && (PySem.W.hasDictIn K C &&
  (decide (PySem.W.findIn K (.ref C) "__getattribute__" = some (some (.builtin "BaseException.__getattribute__"))) && (decide (PySem.W.findIn K (.ref C) "__getattr__" = some none) &&
  (decide (PySem.W.findIn K (.ref C) "__class__" = some (some (.builtin "object.__class__"))) && (decide (PySem.W.specialIn K (.builtin "object.__class__") "__get__" = some (some (.builtin "getset_descriptor.__get__"))) &&
  (decide (PySem.W.takesIn K (.builtin "object.__class__") = some true) && decide (PySem.W.mroIn K C (.type "object") = some true)))))))))))
structure ErrC (K : PySem.W.Frag) (C : Addr) : Prop where
  o : OexC K C
  x : XfC K C
  i : IsC K C
theorem errB_ok {K : PySem.W.Frag} {C : Addr} (h : errB K C = true) : ErrC K C := by
  unfold errB at h
  simp only [Bool.and_eq_true, decide_eq_true_eq] at h
  obtain ⟨h1, h2, h3, h4, h5, h6, h7, h8, h9, h10, h11, h12⟩ := h
  have hc : (PySem.W.clsIn K C).isSome = true := by
    obtain ⟨nm, q, N, bs, bm, sn, sub, ab, col, dd, k0, k1, k2, k3, k5, lk, _⟩ := oexB_ok h1
    unfold PySem.W.clsIn
    rw [lk] <;> rfl
  exact ⟨⟨oexB_ok h1, h2, h3, h4, h5⟩, ⟨h7, h8, h3, h6⟩, ⟨hc, h7, h8, h3, h9, h10, h11, h12⟩⟩
end Lf

set_option Elab.async false
set_option linter.all false
set_option maxRecDepth 100000
set_option maxHeartbeats 4000000
/-! Errors of the program's own as values: made, read, asked, told. -/
namespace Lf
open PySem PySem.Spec PyProof.Rows L2

/-! ### made -/
/-- C(e, ..) as a value, C's own __init__ keeping sp -/
def tNew (C : Addr) (sp : Sp) (ta : TA) : TE := fun σ H Q => ta σ H fun vs H1 =>
  vs.length ≤ 1000 ∧ ∀ a, H1 a = none → sp (.ref a :: vs) (upd H1 a (exo a C none)) (fun v H2 => v = .non ∧ Q (.ref a) H2) E0
section
variable {X : Cx} {CX : CXT} {x : Str} {C fI : Addr} {k : Nat} {fd : FuncData} {ps : List Str} {sp : Sp} {e : Expr} {es : List Expr} {ta : TA} {p pos : Pos}
theorem pe_new (T : OexC X.K C) (iC : PySem.W.findIn X.K (.ref C) "__init__" = some (some (.ref fI)))
    (tI : PySem.W.typeIn X.K (.ref fI) = some (.type "function"))
    (F1 : FnOk X.prog X.w X.K X.mg X.base CX k fI fd ps sp) (hr : Room (k + 1) X.A) (hb : Binds X.K fd ps [])
    (hx : Passes CX X E0) (hg : Gl X x) (hm : X.mg x = some (.ref C)) (ha : PA X (e :: es) ta)
    (hdb : (x == ("__debug__" : Str)) = false := by decide +kernel)
    (he : starEach (e :: es) X.env = (false, eval e X.env) :: starEach es X.env := by rfl)
    (hpl : (backTo pos (starEach es X.env)).any (·.1) = false := by rfl) :
    PE X (.Call (.Name x p) (e :: es) [] pos) (tNew C sp ta) := by
  refine ⟨fun pins s σ H Q I h => ?_⟩
  obtain ⟨nm, q, N, bs, bm, sn, sub, ab, col, dd, k0, k1, k2, k3, k5, hC, hbm⟩ := T.cls
  refine wpAny_Call_Name_kw (ld_glob I hg hm ?_ hdb)
  refine PySem.W.callWith_K (h₀ := X.base) I.ok.mod.kin T.kC
    (thn (ha.run pos pins s σ H _ I h) fun us s1 hh => ?_) he hpl
  obtain ⟨vs, H1, I1, r1, hz, q1⟩ := hh
  refine ⟨I1.kIn, ?_⟩
  show wpAny _ _ (call (.ref C) us) _ _ _
  obtain ⟨hp, g, dr, tk, os⟩ := s1
  let a := hp.objs.size + 1
  have hsz : hp.objs.size ≤ a := Nat.le_succ _
  have hq := q1 a (I1.hok.fresh hsz)
  let hp' := (hp.push (PySem.W.kdv_tup us)).push (PySem.HandSPX.excO C hp.objs.size)
  have kk : ∀ b o, hp.get? b = some o → hp'.get? b = some o := fun b o z =>
    Heap.get?_push_of_some _ (Heap.get?_push_of_some _ z)
  have hget : ((hp.push (PySem.W.kdv_tup us)).push (PySem.HandSPX.excO C hp.objs.size)).get? (hp.objs.size + 1) =
    some (PySem.HandSPX.excO C hp.objs.size) := by heap_get
  have I2 : Inv X pins σ (upd H1 a (exo a C none)) ⟨hp', g, dr, tk, os⟩ :=
    I1.laid (t' := tk) (a := a) (o := exo a C none) (h' := hp') kk hsz (exo_ok (show hp'.get? a = _ from hget))
  have r2 : Vals (V.ref a :: vs) (Value.ref a :: us) := .cons rfl r1
  have hl : (Value.ref a :: us).length = ps.length := by
    have z := r2.length
    rw [F1.len _ _ _ _ hq] at z
    exact z.symm
  have hus : us.length ≤ sizeLine := by
    rw [← Paired.length r1, sizeLine_eq]
    omega
  have hb2 := hb ⟨hp', g, dr, tk, os⟩ (Value.ref a :: us) I2.kIn (by simpa using hl)
  rw [List.append_nil] at hb2
  refine wpAny_call (PySem.HandSPX.call_own F.excBase_ValueError (fun Y => PySem.HandSPX.refsVE_contains Y bm hbm) (I1.kIn _ _ hC)
    (PySem.W.looks_findIn I1.kIn iC) (fun self => PySem.W.bind_fn I1.kIn self tI) hus
    (codeAny_mono (F1.run _ X.stack _ _ ⟨Value.ref a :: us, []⟩ (Value.ref a :: us) _ _ E0 (hr.make C us []) (I2.env0.make C us []) hb2 r2 hq) fun r s' hq' => ?_))
  cases r with
  | error er => exact hx pins σ _ _ er s' I2 hq'
  | ok fl =>
    cases fl with
    | ret u =>
      obtain ⟨v, H2, os2, bare2, un2, hok2, rv, ev, q2⟩ := hq'
      subst ev
      exact ⟨rv, .ref a, H2, I2.call' (ch := []) os2 un2 hok2 bare2 (fun b z => nomatch z), rfl, q2⟩
    | next => exact False.elim hq'
    | brk => exact False.elim hq'
    | cont => exact False.elim hq'
end

/-! ### an error that stands -/
/-- at a an error of the class at C: its dict d, if it has one -/
def XAt (H : Hp) (a C : Addr) (d : Option Addr) : Prop := H a = some (exo a C d) ∨ (d = none ∧ H a = some (ExO (.ref C) a))
theorem XAt.obj {X : Cx} {pins : List (Addr × Obj)} {σ : L2.St} {H : Hp} {s : Shared} {a C : Addr} {d : Option Addr} (I : Inv X pins σ H s) (h : XAt H a C d) :
    ∃ oe vs, s.heap.get? a = some oe ∧ Zc (.ref C) d oe ∧ oe.data = .fields vs := by
  rcases h with h | ⟨rfl, h⟩
  · obtain ⟨t1, ho⟩ := exo_at I.hok h
    exact ⟨_, _, ho, ⟨rfl, rfl⟩, rfl⟩
  · obtain ⟨⟨oe, vs, ho, hz, hd, _⟩, _, _⟩ := I.hok a _ h
    exact ⟨oe, vs, ho, hz, hd⟩
theorem XAt.mono {H H' : Hp} {a C : Addr} {d : Option Addr} (h : XAt H a C d) (e : Same H H') : XAt H' a C d := by
  rcases h with h | ⟨z, h⟩
  · exact .inl (e _ _ h)
  · exact .inr ⟨z, e _ _ h⟩

/-! ### a field -/
def tXo (K : PySem.W.Frag) (f : Str) (te : TE) : TE := fun σ H Q => te σ H fun x H1 => ∃ (a C d : Addr) (fs : List (Str × V)) (v : V),
  x = .ref a ∧ XfC K C ∧ PySem.W.findIn K (.ref C) f = some none ∧ XAt H1 a C (some d) ∧ H1 d = some (exd d fs) ∧ fs.lookup f = some v ∧ Q v H1
theorem pe_xo {X : Cx} {e : Expr} {te : TE} {pos : Pos} {n : Str} (he : PE X e te)
    (hb : attributeBase e n X.env (eval e X.env) = eval e X.env := by rfl) : PE X (.Attribute e n pos) (tXo X.K n te) := by
  refine ⟨fun pins s σ H Q I h => ?_⟩
  refine attr_of hb (thn (he.run pins s σ H _ I h) fun u s1 hh => ?_)
  obtain ⟨x, H1, I1, rx, a, C, d, fs, v, ex, T, hno, ea, ed, l, q⟩ := hh
  subst ex
  obtain rfl : u = Value.ref a := rx
  obtain ⟨oe, vs, ho, hz, hd⟩ := ea.obj I1
  obtain ⟨mA, hns, hr⟩ := exd_at I1.hok ed
  obtain ⟨od, ho2, hl⟩ := lookIn_ns hns
  obtain ⟨u, hu, ru⟩ := RelO.some_of (v := v) (o := mA n) (by rw [← l]; exact hr n)
  have J : PySem.W.InstAt s1.heap a oe C (some od) := ⟨ho, hz.1, by unfold PySem.W.notCls; rw [hd] <;> rfl, by rw [hz.2]; exact ho2⟩
  exact HandSPX.exc_get I1.kIn J T.ga T.gg T.exC (PySem.W.findObj_own T.hdC hno rfl (by rw [hl, hu])) (handed_of ru)
    ⟨v, H1, I1.tok _, ru, q⟩

/-! ### isinstance -/
/-- its dict, if it has one, is an error's -/
def XDict (H : Hp) (d : Option Addr) : Prop := ∀ dx, d = some dx → ∃ fs, H dx = some (exd dx fs)
theorem XAt.inst {X : Cx} {pins : List (Addr × Obj)} {σ : L2.St} {H : Hp} {s : Shared} {a C : Addr} {d : Option Addr} (I : Inv X pins σ H s) (h : XAt H a C d) (hd : XDict H d) :
    ∃ ox od, PySem.W.InstAt s.heap a ox C od := by
  obtain ⟨oe, vs, ho, hz, hv⟩ := h.obj I
  have nc : PySem.W.notCls oe = true := by unfold PySem.W.notCls; rw [hv] <;> rfl
  cases d with
  | none => exact ⟨oe, none, ho, hz.1, nc, by rw [hz.2]; trivial⟩
  | some dx =>
    obtain ⟨fs, e⟩ := hd dx rfl
    obtain ⟨mA, hns, _⟩ := exd_at I.hok e
    obtain ⟨od, ho2, _⟩ := lookIn_ns hns
    exact ⟨oe, some od, ho, hz.1, nc, by rw [hz.2]; exact ho2⟩
def rIsX (K : PySem.W.Frag) : List V → Hp → VK → Prop := fun xs H Q => ∃ (a C : Addr) (d : Option Addr) (c : V) (cv : Value) (b : Bool),
  xs = [.ref a, c] ∧ ClsV c cv ∧ IsC K C ∧ XAt H a C d ∧ XDict H d ∧ PySem.W.kitOne K (.ref C) cv = some b ∧ Q (.bl b) H
theorem call_isX {X : Cx} : CallR X (.builtin "isinstance") (rIsX X.K) := by
  intro pins s σ H xs us Q I r h
  obtain ⟨a, C, d, c, cv, b, rfl, k, T, ha, hd, e, q⟩ := h
  obtain ⟨u1, u2, rfl, r1, r2⟩ := vals2 r
  obtain rfl := k.eq r2
  obtain rfl : u1 = Value.ref a := r1
  obtain ⟨ox, od, J⟩ := ha.inst I hd
  exact PySem.W.kia_one (PySem.W.kitx_exc (od := od) T.cl T.ga T.gg T.sb T.ca T.sg T.tk T.ob) I.kIn J e (fun z => nomatch z)
    fun tk => ⟨.bl b, H, I.tok tk, rfl, q⟩
def rIsXT (K : PySem.W.Frag) : List V → Hp → VK → Prop := fun xs H Q => ∃ (a C : Addr) (d : Option Addr) (tp : Addr) (cs : List V) (us : List Value) (b : Bool),
  xs = [.ref a, .ref tp] ∧ H tp = some (.tup cs) ∧ Paired ClsV cs us ∧ IsC K C ∧ XAt H a C d ∧ XDict H d ∧ PySem.W.kitAny K (.ref C) us = some b ∧ Q (.bl b) H
theorem call_isXT {X : Cx} : CallR X (.builtin "isinstance") (rIsXT X.K) := by
  intro pins s σ H xs us Q I r h
  obtain ⟨a, C, d, tp, cs, ws, b, rfl, htp, k, T, ha, hd, e, q⟩ := h
  obtain ⟨u1, u2, rfl, r1, r2⟩ := vals2 r
  obtain rfl : u1 = Value.ref a := r1
  obtain rfl : u2 = Value.ref tp := r2
  obtain ⟨ox, od, J⟩ := ha.inst I hd
  obtain ⟨_, its, rv, ⟨oc, dd, dt, sl⟩, h1, h2, n, h3⟩ := (show ObjOk X.prog X.w H s.heap tp (.tup cs) from I.hok tp _ htp)
  obtain rfl := ClsV.all k rv
  dsimp only at h2 h3
  subst h2 h3
  exact PySem.W.kia_tup (PySem.W.kitx_exc (od := od) T.cl T.ga T.gg T.sb T.ca T.sg T.tk T.ob) I.kIn J h1 e (fun z => nomatch z)
    fun tk => ⟨.bl b, H, I.tok tk, rfl, q⟩

/-! ### told() -/
/-- e.m() of an error e, by what stands of its class -/
def tTold (X : Cx) (m : Str) (te : TE) : TE := fun σ H Q => te σ H fun x H1 => ∃ (a C f : Addr) (d : Option Addr) (fd : FuncData) (sp : Sp),
  x = .ref a ∧ IsC X.K C ∧ Meth X.K C m f ∧ XAt H1 a C d ∧ (∀ dx, d = some dx → ∃ fs, H1 dx = some (exd dx fs) ∧ fs.lookup m = none) ∧
    FnOk X.prog X.w X.K X.mg X.base CX0 1 f fd ["self"] sp ∧ Binds X.K fd ["self"] [] ∧ sp [.ref a] H1 Q E0
theorem pe_told {X : Cx} {o : Expr} {m : Str} {te : TE} {pos apos : Pos} {pl : Sem Bool} (he : PE X o te) (hr : Room 1 X.A)
    (ht : eval (.Call (.Attribute o m apos) [] [] pos) X.env = (do
      let ov ← eval o X.env
      standAt apos.atName
      let (f, first) ← holding [ov] (getMethod ov m pl)
      callWith pos f first (backTo pos (starEach [] X.env)) (backToKw pos (keywordEach [] X.env))) := by rfl) :
    PE X (.Call (.Attribute o m apos) [] [] pos) (tTold X m te) := by
  refine ⟨fun pins s σ H Q I h => ?_⟩
  refine PySem.W.methodCall_KW (pl := pl) (thn (he.run pins s σ H _ I h) fun u s1 hh => ?_) ht
  obtain ⟨x, H1, I1, rx, a, C, f, d, fd, sp, rfl, T, M, ha, hd, FO, hb, q⟩ := hh
  obtain rfl : u = Value.ref a := rx
  obtain ⟨mm, fr⟩ := I1.fr
  obtain ⟨oe, vs, ho, hz, hv⟩ := ha.obj I1
  have nc : PySem.W.notCls oe = true := by unfold PySem.W.notCls; rw [hv] <;> rfl
  have go : wpAny (model X.prog X.w) X.A (callWith pos (Value.ref f) [Value.ref a] (backTo pos (starEach [] X.env)) []) (EP X pins σ Q) X.xe s1 :=
    PySem.W.callWith_K0 (first := [.ref a]) I1.kIn M.kp (run_fn (us := [.ref a]) (vs := [.ref a]) FO hr hb .nil pass0 I1 (.cons rfl .nil) q)
  cases d with
  | none =>
    have J : PySem.W.InstAt s1.heap a oe C none := ⟨ho, hz.1, nc, by rw [hz.2]; trivial⟩
    exact PySem.W.method_exc fr I1.ok.mod.kin J T.ga T.gg M.at_ M.fn rfl go
  | some dx =>
    obtain ⟨fs, e, hl⟩ := hd dx rfl
    obtain ⟨mA, hns, rel⟩ := exd_at I1.hok e
    obtain ⟨od, ho2, hk⟩ := lookIn_ns hns
    have J : PySem.W.InstAt s1.heap a oe C (some od) := ⟨ho, hz.1, nc, by rw [hz.2]; exact ho2⟩
    have hm : mA m = none := by
      have z := rel m
      rw [hl] at z
      cases y : mA m with
      | none => rfl
      | some v => rw [y] at z; exact z.elim
    exact PySem.W.method_exc fr I1.ok.mod.kin J T.ga T.gg M.at_ M.fn (by show (PySem.W.lookIn m od).map _ = _; rw [hk, hm]; rfl) go

/-! ### made without own __init__, of nothing -/
theorem pe_bare {X : Cx} {C : Addr} {bmB : List Value} {B newId initId : String} {x : Str} {p pos : Pos} (F : ExcBaseFacts B newId initId bmB)
    (q : PySem.W.excIn X.K C bmB newId = true) (gC : X.mg x = some (.ref C)) (kC : PySem.W.keepIn X.K (.ref C) = true) (hg : Gl X x)
    (hdb : (x == ("__debug__" : Str)) = false := by decide +kernel) :
    PE X (.Call (.Name x p) [] [] pos) (fun _ H Q => ∀ a, H a = none → Q (.ref a) (upd H a (ExO (.ref C) a))) := by
  refine ⟨fun pins s σ H Q I h => ?_⟩
  refine wpAny_Call_Name_kw (ld_glob I hg gC ?_ hdb)
  refine PySem.W.callWith_K0 I.kIn kC ?_
  show wpAny _ _ (call (.ref C) []) _ _ _
  obtain ⟨bm, N, nm, qn, bs, hdct, sn, sub, ab, col, dd, k0, k1, k2, k3, k5, mN, hC, hN, hni, T⟩ := exc_obj I.kIn q
  refine wpAny_call_exc_subT F T hC hN hni (fun h' a hm => ?_) (Nat.zero_le _)
  have hn : H a = none := I.hok.gone hm.new
  obtain ⟨t, ht, _, _⟩ := hm.there
  exact ⟨.ref a, _, I.laidN hm.keeps hm.new hn (exO_ok ht ⟨rfl, rfl⟩ rfl rfl rfl (show 4 < 6 by decide)), rfl, h a hn⟩

/-! ### by a weaker reading -/
theorem PE.imp {X : Cx} {e : Expr} {t t' : TE} (h : PE X e t) (f : ∀ σ H Q, t' σ H Q → t σ H Q) : PE X e t' := ⟨fun pins s σ H Q I q => h.run pins s σ H Q I (f σ H Q q)⟩
theorem PSs.imp {X : Cx} {e : List Stmt} {t t' : TS} (h : PSs X e t) (f : ∀ D σ H, t' D σ H → t D σ H) : PSs X e t' := ⟨fun pins s σ H D I q => h.run pins s σ H D I (f D σ H q)⟩
/-- a reading that may be weakened -/
def up (t : TE) : TE := fun σ H Q => ∃ Q0, t σ H Q0 ∧ ∀ v H', Q0 v H' → Q v H'
theorem PE.up {X : Cx} {e : Expr} {t : TE} (h : PE X e t) : PE X e (Lf.up t) := ⟨fun pins s σ H Q I q => by
  obtain ⟨Q0, q, k⟩ := q
  exact thn (h.run pins s σ H Q0 I q) fun u s1 r => by
    obtain ⟨v, H', I', rv, z⟩ := r
    exact ⟨v, H', I', rv, k v H' z⟩⟩
/-- a class (or another thing) of the module by its name -/
theorem pe_cl {X : Cx} {x : Str} {a : Addr} {pos : Pos} (hg : Gl X x) (hm : X.mg x = some (.ref a)) (hd : (x == ("__debug__" : Str)) = false := by decide +kernel) : PE X (.Name x pos) (tC (.ref a)) := pe_glob hg hm rfl hd
/-- an int of the module by its name -/
theorem pe_gint {X : Cx} {x : Str} {i : Int} {t : Tok} {pos : Pos} (hg : Gl X x) (hm : X.mg x = some (.int i t)) (hd : (x == ("__debug__" : Str)) = false := by decide +kernel) : PE X (.Name x pos) (tC (.int i)) := pe_glob hg hm ⟨t, rfl⟩ hd
theorem same_upd {H : Hp} {p : Addr} {o : HO} (n : H p = none) : Same H (upd H p o) := fun b u e => by rw [upd_ne (ne_of_none e n)]; exact e

/-! ### a def of the module, called by its name -/
structure Def (P : Program) (w : World) (K : PySem.W.Frag) (mg : Str → Option Value) (base : Heap) (CX : CXT) (k : Nat) (x : Str) (ps : List Str) (sp : Sp) : Prop where
  ex : ∃ f fd, mg x = some (.ref f) ∧ PySem.W.keepIn K (.ref f) = true ∧ FnOk P w K mg base CX k f fd ps sp ∧ Binds K fd ps []
section
variable {X : Cx} {CX : CXT} {k : Nat} {x : Str} {ps : List Str} {sp : Sp} {E : XK} {e : Expr} {es : List Expr} {t : TA} {p pos : Pos}
theorem pe_def (D : Def X.prog X.w X.K X.mg X.base CX k x ps sp) (hr : Room k X.A) (hx : Passes CX X E) (hg : Gl X x) (ha : PA X (e :: es) t)
    (hdb : (x == ("__debug__" : Str)) = false := by decide +kernel) (he : starEach (e :: es) X.env = (false, eval e X.env) :: starEach es X.env := by rfl)
    (hpl : (backTo pos (starEach es X.env)).any (·.1) = false := by rfl) : PE X (.Call (.Name x p) (e :: es) [] pos) (fun σ H Q => t σ H fun vs H1 => sp vs H1 Q E) := by
  obtain ⟨f, fd, g, kp, F, b⟩ := D.ex
  exact PE.imp (pe_call F hr hg g kp b .nil hx ha hdb he hpl) fun σ H Q h => by
    show t σ H fun vs H1 => sp (vs ++ []) H1 Q E
    simpa only [List.append_nil] using h
theorem pe_def0 (D : Def X.prog X.w X.K X.mg X.base CX k x ps sp) (hr : Room k X.A) (hx : Passes CX X E) (hg : Gl X x)
    (hdb : (x == ("__debug__" : Str)) = false := by decide +kernel) : PE X (.Call (.Name x p) [] [] pos) (fun _ H Q => sp [] H Q E) := by
  obtain ⟨f, fd, g, kp, F, b⟩ := D.ex
  exact pe_call0 F hr hg g kp b .nil hx hdb
end

/-! ### told, __init__ -/
def spTold (t : Str) : Sp := fun vs H Q _ => ∃ v, vs = [v] ∧ Q (.str t) H
def spIni1 (C : Addr) (f : Str) : Sp := fun vs H Q _ => ∃ a v, vs = [.ref a, v] ∧ H a = some (exo a C none) ∧
  ∀ d, H d = none → d ≠ a → Q .non (upd (upd H d (exd d [(f, v)])) a (exo a C (some d)))
def spIni2 (C : Addr) (f g : Str) : Sp := fun vs H Q _ => ∃ a v u, vs = [.ref a, v, u] ∧ H a = some (exo a C none) ∧
  ∀ d, H d = none → d ≠ a → Q .non (upd (upd (upd H d (exd d [(f, v)])) a (exo a C (some d))) d (exd d [(g, u), (f, v)]))
section
variable {P : Program} {w : World} {K : PySem.W.Frag} {mg : Str → Option Value} {base : Heap} {C f : Addr} {fd : FuncData} {q : Str} {a : Arguments} {sc : Scope}
theorem vis_of {N ps : List Str} (S : FnScope N ps sc) {x : Str} (h : x ∈ ps) : Vis sc x := by
  rcases S.par x h with e | e
  · exact .inl e
  · exact .inr (.inl e)
theorem told_ok {t : Str} {j : Nat} {p p2 : Pos} (F : FunD K "told" q a [.Return (some (.Constant (.str t) j p)) p2] sc [] [] f fd) (S : FnScope ["self"] ["self"] sc) :
    FnOk P w K mg base CX0 1 f fd ["self"] (spTold t) := by
  refine F.ok S (fun vs H Q E h => ?_) (fun cdv A outer s H vs Q E hr h => ⟨_, PSs.nox (pss_one (ps_ret pe_str)), ?_⟩)
  · obtain ⟨v, rfl, _⟩ := h
    rfl
  · obtain ⟨v, rfl, k⟩ := h
    exact k
theorem ini1_ok {fl : Str} {p1 p2 p3 p4 : Pos} (T : OexC K C) (no : PySem.W.findIn K (.ref C) fl = some none)
    (F : FunD K "__init__" q a [.Assign [.Attribute (.Name "self" p1) fl p2] (.Name fl p3) p4] sc [] [] f fd) (S : FnScope ["self", fl] ["self", fl] sc)
    (d1 : (fl == ("__debug__" : Str)) = false := by decide +kernel) (d2 : (fl == ("__classdict__" : Str)) = false := by decide +kernel) :
    FnOk P w K mg base CX0 1 f fd ["self", fl] (spIni1 C fl) := by
  refine F.ok S (fun vs H Q E h => ?_) (fun cdv A outer s H vs Q E hr h => ⟨_, PSs.nox (pss_one (ps_ost (pe_var (i := 0) rfl (vis_of S (by simp))) (pe_var (i := 1) rfl (vis_of S (by simp)) d1 d2))), ?_⟩)
  · obtain ⟨a, v, rfl, _⟩ := h
    rfl
  · obtain ⟨a, v, rfl, e, k⟩ := h
    exact ⟨_, rfl, _, rfl, a, C, rfl, T, no, .inl ⟨e, fun dx n ne => k dx n ne⟩⟩
theorem ini2_ok {fl gl : Str} {p1 p2 p3 p4 q1 q2 q3 q4 : Pos} (T : OexC K C) (no : PySem.W.findIn K (.ref C) fl = some none) (no2 : PySem.W.findIn K (.ref C) gl = some none)
    (F : FunD K "__init__" q a [.Assign [.Attribute (.Name "self" p1) fl p2] (.Name fl p3) p4, .Assign [.Attribute (.Name "self" q1) gl q2] (.Name gl q3) q4] sc [] [] f fd) (S : FnScope ["self", fl, gl] ["self", fl, gl] sc)
    (d1 : (fl == ("__debug__" : Str)) = false := by decide +kernel) (d2 : (fl == ("__classdict__" : Str)) = false := by decide +kernel)
    (d3 : (gl == ("__debug__" : Str)) = false := by decide +kernel) (d4 : (gl == ("__classdict__" : Str)) = false := by decide +kernel) :
    FnOk P w K mg base CX0 1 f fd ["self", fl, gl] (spIni2 C fl gl) := by
  refine F.ok S (fun vs H Q E h => ?_) (fun cdv A outer s H vs Q E hr h => ⟨_, PSs.nox (pss_cons (ps_ost (pe_var (i := 0) rfl (vis_of S (by simp))) (pe_var (i := 1) rfl (vis_of S (by simp)) d1 d2))
    (pss_one (ps_ost (pe_var (i := 0) rfl (vis_of S (by simp))) (pe_var (i := 2) rfl (vis_of S (by simp)) d3 d4)))), ?_⟩)
  · obtain ⟨a, v, u, rfl, _⟩ := h
    rfl
  · obtain ⟨a, v, u, rfl, e, k⟩ := h
    exact ⟨_, rfl, _, rfl, a, C, rfl, T, no, .inl ⟨e, fun dx n ne => ⟨_, rfl, _, rfl, a, C, rfl, T, no2, .inr ⟨dx, _, upd_same, by rw [upd_ne ne]; exact upd_same, (by show 1 ≤ 900; decide), k dx n ne⟩⟩⟩⟩
end

/-! ### an error class with all that is told of it -/
section
variable (P : Program) (w : World) (K : PySem.W.Frag) (mg : Str → Option Value) (base : Heap)
structure Tells (C : Addr) (t : Str) : Prop where
  ex : ∃ f fd, Meth K C "told" f ∧ FnOk P w K mg base CX0 1 f fd ["self"] (spTold t) ∧ Binds K fd ["self"] []
/-- the class x, made of one thing, its field -/
structure Err1 (x fl t : Str) : Prop where
  g : mg x = some (.ref (He.ga K x))
  c : ErrC K (He.ga K x)
  no : PySem.W.findIn K (.ref (He.ga K x)) fl = some none
  tl : Tells P w K mg base (He.ga K x) t
  ini : ∃ fI fd, PySem.W.findIn K (.ref (He.ga K x)) "__init__" = some (some (.ref fI)) ∧ PySem.W.typeIn K (.ref fI) = some (.type "function") ∧
    FnOk P w K mg base CX0 1 fI fd ["self", fl] (spIni1 (He.ga K x) fl) ∧ Binds K fd ["self", fl] []
structure Err2 (x fl gl t : Str) : Prop where
  g : mg x = some (.ref (He.ga K x))
  c : ErrC K (He.ga K x)
  no : PySem.W.findIn K (.ref (He.ga K x)) fl = some none
  no2 : PySem.W.findIn K (.ref (He.ga K x)) gl = some none
  tl : Tells P w K mg base (He.ga K x) t
  ini : ∃ fI fd, PySem.W.findIn K (.ref (He.ga K x)) "__init__" = some (some (.ref fI)) ∧ PySem.W.typeIn K (.ref fI) = some (.type "function") ∧
    FnOk P w K mg base CX0 1 fI fd ["self", fl, gl] (spIni2 (He.ga K x) fl gl) ∧ Binds K fd ["self", fl, gl] []
/-- made of nothing -/
structure Err0 (x t : Str) : Prop where
  g : mg x = some (.ref (He.ga K x))
  c : ErrC K (He.ga K x)
  ec : PySem.W.excIn K (He.ga K x) He.veBase "ValueError.__new__" = true
  tl : Tells P w K mg base (He.ga K x) t
end
section
variable {X : Cx} {x fl gl t : Str} {e e2 : Expr} {ta tb : TE} {p pos : Pos}
theorem pe_err1 (E : Err1 X.prog X.w X.K X.mg X.base x fl t) (hr : Room 2 X.A) (hg : Gl X x) (ha : PE X e ta) (hdb : (x == ("__debug__" : Str)) = false := by decide +kernel)
    (hs : starEach [e] X.env = (false, eval e X.env) :: starEach [] X.env := by rfl) :
    PE X (.Call (.Name x p) [e] [] pos) (fun σ H Q => ta σ H fun v H1 => ∀ a d H', H1 a = none → H1 d = none → Same H1 H' → XAt H' a (He.ga X.K x) (some d) → H' d = some (exd d [(fl, v)]) → Q (.ref a) H') := by
  obtain ⟨fI, fd, i1, i2, F, b⟩ := E.ini
  refine PE.imp (pe_new E.c.o i1 i2 F hr b pass0 hg E.g (pa_cons (PE.up ha) pa_nil hs) hdb hs rfl) fun σ H Q h => ?_
  refine ⟨_, h, fun v H1 k => ⟨(by show 1 ≤ 1000; decide), fun a na => ⟨a, v, rfl, upd_same, fun d nd ne => ?_⟩⟩⟩
  have nd1 : H1 d = none := by rw [upd_ne ne] at nd; exact nd
  refine ⟨rfl, k a d _ na nd1 (fun b o q => ?_) (.inl upd_same) (by rw [upd_ne ne]; exact upd_same)⟩
  rw [upd_ne (ne_of_none q na), upd_ne (ne_of_none q nd1), upd_ne (ne_of_none q na)]
  exact q
theorem pe_err2 (E : Err2 X.prog X.w X.K X.mg X.base x fl gl t) (hr : Room 2 X.A) (hg : Gl X x) (ha : PE X e ta) (hb : PE X e2 tb) (hdb : (x == ("__debug__" : Str)) = false := by decide +kernel)
    (hs : starEach [e, e2] X.env = (false, eval e X.env) :: starEach [e2] X.env := by rfl) (hs2 : starEach [e2] X.env = (false, eval e2 X.env) :: starEach [] X.env := by rfl)
    (hp : (backTo pos (starEach [e2] X.env)).any (·.1) = false := by rfl) :
    PE X (.Call (.Name x p) [e, e2] [] pos) (fun σ H Q => ta σ H fun v H0 => Lf.up tb σ H0 fun u H1 => ∀ a d H', H1 a = none → H1 d = none → Same H1 H' → XAt H' a (He.ga X.K x) (some d) → H' d = some (exd d [(gl, u), (fl, v)]) → Q (.ref a) H') := by
  obtain ⟨fI, fd, i1, i2, F, b⟩ := E.ini
  refine PE.imp (pe_new E.c.o i1 i2 F hr b pass0 hg E.g (pa_cons (PE.up ha) (pa_cons (PE.up hb) pa_nil hs2) hs) hdb hs hp) fun σ H Q h => ?_
  refine ⟨_, h, fun v H0 h2 => ?_⟩
  obtain ⟨Q0, h3, h4⟩ := h2
  refine ⟨Q0, h3, fun u H1 z => ?_⟩
  have k := h4 u H1 z
  refine ⟨(by show 2 ≤ 1000; decide), fun a na => ⟨a, v, u, rfl, upd_same, fun d nd ne => ?_⟩⟩
  have nd1 : H1 d = none := by rw [upd_ne ne] at nd; exact nd
  refine ⟨rfl, k a d _ na nd1 (fun b o q => ?_) (.inl (by rw [upd_ne ne.symm]; exact upd_same)) upd_same⟩
  rw [upd_ne (ne_of_none q nd1), upd_ne (ne_of_none q na), upd_ne (ne_of_none q nd1), upd_ne (ne_of_none q na)]
  exact q
theorem pe_err0 (E : Err0 X.prog X.w X.K X.mg X.base x t) (hg : Gl X x) (hdb : (x == ("__debug__" : Str)) = false := by decide +kernel) :
    PE X (.Call (.Name x p) [] [] pos) (fun _ H Q => ∀ a H', H a = none → Same H H' → XAt H' a (He.ga X.K x) none → Q (.ref a) H') :=
  PE.imp (pe_bare F.excBase_ValueError E.ec E.g E.c.o.kC hg hdb) fun σ H Q h a na => h a _ na (same_upd na) (.inr ⟨rfl, upd_same⟩)
end
end Lf

set_option Elab.async false
set_option linter.all false
set_option maxRecDepth 100000
set_option maxHeartbeats 4000000
/-! set(xs) of distinct texts, however many; how many there are. -/
namespace Lf
open PySem PySem.Spec PyProof.Rows L2
abbrev HasS (P : Program) (w : World) (h : Heap) (a : Addr) (xs : List Str) (i : Nat) : Prop := h.SetOf (PySem.strKind P w) a (fun y => (xs.take i).any (· == y)) i
theorem take_next {xs : List Str} (nd : xs.Nodup) {i : Nat} (hi : i < xs.length) :
    (xs.take i).any (· == xs.getD i Str.empty) = false ∧ ∀ y, ((xs.take i).any (· == y) || decide (y = xs.getD i Str.empty)) = (xs.take (i + 1)).any (· == y) := by
  have eg : xs.getD i Str.empty = xs[i] := by simp [List.getD, hi]
  rw [eg]
  have split : xs.take (i + 1) = xs.take i ++ [xs[i]] := by simp
  constructor
  · rw [List.any_eq_false]
    intro y hy hb
    have e : y = xs[i] := by simpa using hb
    subst e
    obtain ⟨j, hj, ej⟩ := List.mem_iff_getElem.mp hy
    rw [List.length_take] at hj
    have ej2 : xs[j] = xs[i] := by rw [← ej, List.getElem_take]
    have ji : j < i := by omega
    exact absurd ej2 (List.pairwise_iff_getElem.mp nd j i (by omega) hi ji)
  · intro y
    rw [split, List.any_append]
    congr 1
    by_cases e : y = xs[i]
    · subst e; simp
    · have q : (xs[i] == y) = false := beq_eq_false_iff_ne.mpr fun z => e z.symm
      simp [e, q]
section
variable {P : Program} {w : World} {A : Around} {R : Result → Shared → Prop} {It : Addr} {fp wr : List Addr} {G : Array GenState → Array GenState → Prop} {n : Nat} {Pv : Nat → Value → Prop} {Sv : Nat → Shared → Prop}
/-- the loop that fills a set: distinct texts -/
theorem fillS (W : WalksS P w A.in1 It fp wr G n Pv Sv) {a : Addr} (off : a ∉ fp) {xs : List Str} (nd : xs.Nodup) (len : xs.length = n) (few : n + 1 < scanBound)
    (read : ∀ i v, Pv i v → ∃ t, v = .str (xs.getD i Str.empty) t) : ∀ (m i : Nat) (s : Shared), i + m = n → Sv i s → HasS P w s.heap a xs i →
      (∀ s', Moved (a :: wr) G s s' → HasS P w s'.heap a xs n → R (.ok (.ret .none)) s') →
      codeAny (model P w) A (.builtin "set.update.loop" ⟨[.ref a, .ref It], []⟩) R s := by
  have offw : a ∉ wr := fun z => off (W.sub _ z)
  have keep : ∀ {s s' : Shared} {i : Nat}, Moved wr G s s' → HasS P w s.heap a xs i → HasS P w s'.heap a xs i := fun mv hs => by
    obtain ⟨o, es, ep, t, ho, r⟩ := hs
    exact ⟨o, es, ep, t, mv.heap a _ offw ho, r⟩
  intro m
  induction m with
  | zero =>
    intro i s e st hs fin
    obtain rfl : i = n := by omega
    refine codeAny_builtin PyProof.Rows.F.entry_set_update_loop ?_
    rw [Around.under_plainId PyProof.Rows.F.plain_set_update_loop _]
    show wpAny _ _ (pyNext (.ref It) >>= _) _ _ _
    exact wpAny_bind (W.done s _ _ st fun s' mv => wpAny_pure (fin s' (mv.mono fun b hb => List.mem_cons_of_mem _ hb) (keep mv hs)))
  | succ m ih =>
    intro i s e st hs fin
    have hi : i < n := by omega
    refine codeAny_builtin PyProof.Rows.F.entry_set_update_loop ?_
    rw [Around.under_plainId PyProof.Rows.F.plain_set_update_loop _]
    show wpAny _ _ (pyNext (.ref It) >>= _) _ _ _
    refine wpAny_bind (W.item i s _ _ hi st fun v s' pv st' mv => ?_)
    obtain ⟨t, rfl⟩ := read i v pv
    have hs' := keep mv hs
    obtain ⟨new, grow⟩ := take_next nd (show i < xs.length by omega)
    show wpAny _ _ (holding [Value.str _ t] (setAdd a (.str _ t)) >>= _) _ _ _
    refine wpAny_bind (wpAny_holding ?_)
    unfold setAdd
    refine wpAny_holding (wpAny_bind ((PySem.strKind P w).pyHash (strKind_is _ _ _ _) ?_))
    refine wpAny_setAddHashed_of (knd := PySem.strKind P w) (s := { s' with toks := s'.toks + 1 }) (strKind_is _ _ _ _) rfl hs' (by omega) fun h' sb hs2 => ?_
    have hs3 : HasS P w h' a xs (i + 1) := SetOf_congr hs2 grow (by show (if (xs.take i).any (· == xs.getD i Str.empty) = true then i else i + 1) = i + 1; rw [new]; rfl)
    refine wpAny_pure ⟨plainId_quiet PyProof.Rows.F.plain_set_update_loop _, ih (i + 1) _ (by omega) (W.frame _ s' _ _ st' (Nat.le_succ _) fun b hb o z => ?_) hs3 fun s2 mv2 q => fin s2 ?_ q⟩
    · rw [sb.2 b fun y => off (y ▸ hb)]
      exact z
    · refine Moved.trans W.gtrans ((mv.mono fun b hb => List.mem_cons_of_mem _ hb).then_heap (Nat.le_succ _) fun b o hb z => ?_) mv2
      rw [sb.2 b fun y => hb (by rw [y]; exact List.mem_cons_self)]
      exact z
end
/-- an empty set, newly laid -/
abbrev emptySet (led : Bool) : Obj := { cls := .type "set", dict := none, data := .set #[] 0 (.fresh 0 0 led) }
section
variable {P : Program} {w : World} {A : Around} {E : Value → Shared → Prop} {s : Shared} {l : Addr} {its : Array Value} {xs : List Str}
/-- what is wanted of it: a set at the next place, of these texts; all else as it was -/
abbrev SetMade (P : Program) (w : World) (s : Shared) (xs : List Str) (s' : Shared) : Prop :=
  ∃ h' tk, s' = { s with heap := h', toks := tk } ∧ HasS P w h' s.heap.objs.size xs xs.length ∧ ∀ b o, b < s.heap.objs.size → s.heap.get? b = some o → h'.get? b = some o
theorem setInit {led : Bool} {Q : Fin → Shared → Prop} (calm : A.handled = none) (hl : s.heap.IsList l its) (ht : StrsAre its.toList xs) (nd : xs.Nodup) (few : xs.length + 1 < scanBound)
    (h : ∀ s', SetMade P w s xs s' → Q (.done (.ret .none)) s') :
    wpAny (model P w) A (Builtin.«set.__init__» ⟨[.ref s.heap.objs.size, .ref l], []⟩) Q E { s with heap := s.heap.push (emptySet led) } := by
  obtain ⟨⟨oc, od, odt, osl⟩, hol, hcl, nl, hdl⟩ := hl
  dsimp only at hcl hdl
  subst hcl hdl
  have hS : (s.heap.push (emptySet led)).get? s.heap.objs.size = some (emptySet led) := Heap.get?_push_size _ rfl
  have hT : Shared.TypeIs { s with heap := s.heap.push (emptySet led) } (.ref s.heap.objs.size) "set" := ⟨_, hS, rfl⟩
  have hol' : (s.heap.push (emptySet led)).get? l = some { cls := .type "list", dict := od, data := .seq its nl, slots := osl } := Heap.get?_push_of_some _ hol
  have f1 := F.sub_list_set
  have f2 := F.sub_list_frozenset
  have f3 : (Value.type "list" == Value.type "dict") = false := by decide
  have hl1 : (s.heap.push (emptySet led)).IsList l its := ⟨_, hol', rfl, nl, rfl⟩
  unfold Builtin.«set.__init__» noKeywords Builtin.Frozenset.updateFrom
  generalize hPI : pyIter = PI
  wp_walk
  subst hPI
  refine wpAny_pyIter_list hl1 (wpAny_bind (wpAny_runValue ?_))
  have lS : l < s.heap.objs.size := Heap.lt_size hol
  have calm3 : A.in1.handled = none := by simp [calm]
  have nI : l ≠ (s.heap.push (emptySet led)).objs.size := by
    rw [Heap.size_push]
    exact Nat.ne_of_lt (Nat.lt_succ_of_lt lS)
  have off : s.heap.objs.size ∉ [(s.heap.push (emptySet led)).objs.size, l] := by
    rw [Heap.size_push]
    simp only [List.mem_cons, List.not_mem_nil, or_false, not_or]
    exact ⟨Nat.ne_of_lt (Nat.lt_succ_self _), Nat.ne_of_gt lS⟩
  have sz : xs.length = its.size := by rw [← StrsAre.len_eq ht, Array.length_toList]
  refine fillS ((Walks.list calm3 _ l nI its).toS) off nd sz (by omega) (fun i v hv => SS.strs_at ht i v (by rw [Array.getElem?_toList]; exact hv)) its.size 0 _ (Nat.zero_add _) ?_ ?_ fun s' mv q => ?_
  · exact ⟨⟨_, Heap.get?_push_size _ rfl, rfl, rfl⟩, hl1.push _⟩
  · exact SetOf_congr ((setObjOf_fresh (knd := PySem.strKind P w) led).setOf (Heap.get?_push_of_some _ hS) (by unfold scanBound; omega)) (fun _ => rfl) rfl
  · obtain ⟨h', g', d', tk', os'⟩ := s'
    obtain rfl : g' = s.gens := mv.gens
    obtain rfl : d' = s.drawn := mv.drawn
    obtain rfl : os' = s.os := mv.os
    show wpAny _ _ _ _ _ _
    refine wpAny_pure ?_
    show wpAny _ _ (ret Value.none) _ _ _
    refine wpAny_pure (h _ ⟨h', tk', rfl, by rw [sz]; exact q, fun b o hb z => mv.heap b o ?_ (Heap.get?_push_of_some _ (Heap.get?_push_of_some _ z))⟩)
    simp only [List.mem_cons, List.not_mem_nil, or_false, not_or]
    rw [Heap.size_push]
    exact ⟨Nat.ne_of_lt hb, Nat.ne_of_lt (Nat.lt_succ_of_lt hb)⟩
theorem setOfTexts {Q : Value → Shared → Prop} (calm : A.handled = none) (hl : s.heap.IsList l its) (ht : StrsAre its.toList xs) (nd : xs.Nodup) (few : xs.length + 1 < scanBound)
    (h : ∀ s', SetMade P w s xs s' → Q (.ref s.heap.objs.size) s') : wpAny (model P w) A (call (.type "set") [.ref l]) Q E s := by
  obtain ⟨c, tl, mro⟩ := F.called_set.mro
  have g1 := F.called_set.made
  have g2 := F.called_set.sub
  refine wpAny_call (codeAny_of_tree ?_)
  show wpAny _ _ (callAny (.type "set") _) _ _ _
  refine wpAny_pure ⟨Code.quiet_builtin _ (by decide +kernel), codeAny_builtin F.entry_type_call ?_⟩
  rw [Around.under_plain (weight_type_call_type "set" [.ref l] []) rfl]
  have g3 := F.called_set.notType
  have g4 := F.called_set.canCreate
  have g5 := F.typeCall_set_1 (.ref l)
  repeat (any_goals (first | assumption | wp_step))
  refine codeAny_mono (code_set_new_1 (.ref l) (E := E) (Q₁ := fun o s1 => ∃ led : Bool, o = .ref s.heap.objs.size ∧ s1 = { s with heap := s.heap.push (emptySet led) }) fun led => ⟨led, rfl, rfl⟩) fun r s1 hr => ?_
  cases r with
  | error e => exact hr
  | ok fl =>
    cases fl with
    | ret o =>
      obtain ⟨led, rfl, rfl⟩ := hr
      have hT : Shared.TypeIs { s with heap := s.heap.push (emptySet led) } (.ref s.heap.objs.size) "set" := ⟨_, Heap.get?_push_size _ rfl, rfl⟩
      have g6 := F.called_set.init.lookup
      have g7 := F.called_set.init.bind (.ref s.heap.objs.size)
      repeat (any_goals (first | assumption | wp_step))
      refine codeAny_mono (codeAny_call_builtin (R := wants (fun r s2 => r = .none ∧ SetMade P w s xs s2) E) F.called_set.init.plain F.entry_set_init (check_set_init_1 hT (setInit (by simp [calm]) hl ht nd few fun s2 q => ⟨rfl, q⟩))) fun r2 s2 hr2 => ?_
      cases r2 with
      | error e => exact hr2
      | ok f2 =>
        cases f2 with
        | ret v =>
          obtain ⟨rfl, q⟩ := hr2
          repeat (any_goals (first | assumption | wp_step))
          exact h _ q
        | _ => exact hr2.elim
    | _ => exact hr.elim
end
/-- len(set(xs)), xs a list of distinct texts -/
def tCount (K : PySem.W.Frag) (ta : TE) : TE := fun σ H Q => ta σ H fun x H1 => ∃ (l : Addr) (xs : List Str), x = .ref l ∧ SqL K H1 l (xs.map V.str) ∧ xs.Nodup ∧ xs.length ≤ 4000 ∧ Q (.int xs.length) H1
theorem pe_count {X : Cx} {a : Expr} {ta : TE} {p p2 q pos : Pos} (hc : X.calm = true) (hg : Gl X "len") (hm : X.mg "len" = none) (hg2 : Gl X "set") (hm2 : X.mg "set" = none) (ha : PE X a ta)
    (na : starEach [a] X.env = (false, eval a X.env) :: starEach [] X.env := by rfl) : PE X (.Call (.Name "len" p) [.Call (.Name "set" p2) [a] [] q] [] pos) (tCount X.K ta) := by
  refine ⟨fun pins s σ H Q I h => ?_⟩
  refine Call_ (ld_blt I hg hm boot_len (PyProof.Rows.callWith_builtin1 (PyProof.Rows.args_cons ?_ rfl) rfl rfl))
  refine Call_ (ld_blt I hg2 hm2 boot_set (PyProof.Rows.callWith_type1 (PyProof.Rows.args_cons (thn (ha.run pins s σ H _ I h) fun v s1 hh => PyProof.Rows.args_nil ?_) na) na rfl))
  obtain ⟨x, H1, I1, r1, l, xs, rfl, hq, nd, few, q1⟩ := hh
  cases r1
  obtain ⟨its, r, pl, hz⟩ := I1.list hq
  refine setOfTexts (I1.ok.hd hc) pl.isList (by simpa using strsAre_of r) nd (by unfold scanBound; omega) fun s' hs => PyProof.Rows.args_nil ?_
  obtain ⟨h', tk, rfl, ⟨o, es, ep, t, ho, hex, hd, _, _, _, hf, hn⟩, hk⟩ := hs
  have I2 : Inv X pins σ H1 { s1 with heap := h', toks := tk } := I1.kept fun b o z => hk b o (Heap.lt_size z) z
  exact call_len_set ho hex hd hf (by rw [hn]; omega) ⟨.int xs.length, H1, I2.tok _, ⟨_, by rw [hn]⟩, q1⟩
/-- xs + ys, lists that are read -/
def rCatL (K : PySem.W.Frag) : R2 := fun x y H Q => ∃ l b xs zs, x = .ref l ∧ y = .ref b ∧ SqL K H l xs ∧ SqL K H b zs ∧ xs.length + zs.length ≤ sizeLine ∧ ∀ p, H p = none → Q (.ref p) (upd H p (.lst (xs ++ zs)))
theorem op_catL {X : Cx} : OpR X (binaryOp .Add) (rCatL X.K) := by
  intro pins s σ H x y v u Q I rx ry h
  obtain ⟨l, b, xs, zs, rfl, rfl, h1, h2, hz, q⟩ := h
  cases rx
  cases ry
  obtain ⟨is, r1, ⟨⟨c1, d1, t1, s1⟩, n1, e1, k1, _, m1⟩, _⟩ := I.list h1
  obtain ⟨js, r2, ⟨⟨c2, d2, t2, s2⟩, n2, e2, k2, _, m2⟩, _⟩ := I.list h2
  dsimp only at k1 m1 k2 m2
  subst k1 m1 k2 m2
  have l1 := r1.length
  have l2 := r2.length
  refine concat_meets ⟨_, e1, rfl⟩ ⟨_, e2, rfl⟩ noFill_list_add seq_list_add F.slot_list_add F.entry_list_add (F.args_list_add_2 _ _)
    (list_addW l b is.toArray js.toArray n1 n2 d1 d2 s1 s2 (by simp only [List.size_toArray]; omega)) ⟨e1, e2, ?_⟩
  have ea : is.toArray ++ js.toArray = (is ++ js).toArray := by simp
  rw [ea]
  exact ⟨.ref _, _, I.lnew (t' := s.toks) (r1.append r2) (by rw [List.length_append]; omega), rfl, q _ I.fresh⟩
end Lf

set_option Elab.async false
set_option linter.all false
set_option maxRecDepth 100000
set_option maxHeartbeats 4000000
/-! Heaps that grow; data. -/
namespace Lf
open PySem PySem.Spec PyProof.Rows L2
/-- all but lists stay -/
def Solid (H H' : Hp) : Prop := ∀ b o, H b = some o → (∀ xs, o ≠ .lst xs) → H' b = some o
theorem Solid.refl (H : Hp) : Solid H H := fun _ _ h _ => h
theorem Solid.trans {H H1 H2 : Hp} (a : Solid H H1) (b : Solid H1 H2) : Solid H H2 := fun c o h n => b c o (a c o h n) n
theorem Solid.of {H H' : Hp} (e : Same H H') : Solid H H' := fun b o h _ => e b o h
theorem Solid.lst {H : Hp} {l : Addr} {xs ys : List V} (h : H l = some (.lst xs)) : Solid H (upd H l (.lst ys)) := fun b o e n => by
  rw [upd_ne (fun z => by rw [z, h] at e; cases e; exact n xs rfl)]
  exact e
theorem exo_nl {a C : Addr} {d : Option Addr} (xs : List V) : exo a C d ≠ .lst xs := fun z => by
  have z' : HO.ext _ = HO.lst xs := z
  cases z'
theorem exO_nl {a : Addr} {c : Value} (xs : List V) : ExO c a ≠ .lst xs := fun z => by
  have z' : HO.ext _ = HO.lst xs := z
  cases z'
theorem exd_nl {a : Addr} {fs : List (Str × V)} (xs : List V) : exd a fs ≠ .lst xs := fun z => by
  have z' : HO.ext _ = HO.lst xs := z
  cases z'
theorem XAt.solid {H H' : Hp} {a C : Addr} {d : Option Addr} (h : XAt H a C d) (s : Solid H H') : XAt H' a C d := by
  rcases h with h | ⟨e, h⟩
  · exact .inl (s _ _ h exo_nl)
  · exact .inr ⟨e, s _ _ h exO_nl⟩
/-- all but the thing at l stay -/
def But (l : Addr) (H H' : Hp) : Prop := ∀ b o, b ≠ l → H b = some o → H' b = some o
theorem But.refl {l : Addr} {H : Hp} : But l H H := fun _ _ _ h => h
theorem But.trans {l : Addr} {H H1 H2 : Hp} (a : But l H H1) (b : But l H1 H2) : But l H H2 := fun c o n h => b c o n (a c o n h)
theorem But.of {l : Addr} {H H' : Hp} (e : Same H H') : But l H H' := fun b o _ h => e b o h
theorem But.upd {l : Addr} {H : Hp} {o : HO} : But l H (upd H l o) := fun b u n h => by rw [upd_ne n]; exact h
theorem Same.but {l : Addr} {H0 H H' : Hp} (s : Same H0 H) (n : H0 l = none) (b : But l H H') : Same H0 H' := fun c o h => b c o (ne_of_none h n) (s c o h)
theorem SqT.same {K : PySem.W.Frag} {H H' : Hp} {a : Addr} {xs : List V} (e : Same H H') (h : SqT K H a xs) : SqT K H' a xs := by
  rcases h with (h | ⟨o, h⟩) | h
  · exact .inl (.inl (e _ _ h))
  · exact .inl (.inr ⟨o, e _ _ h⟩)
  · exact .inr h
theorem But.solid {l : Addr} {H H' : Hp} {xs : List V} (h : H l = some (.lst xs)) (b : But l H H') : Solid H H' := fun c o e n => b c o (fun z => by rw [z, h] at e; cases e; exact n xs rfl) e
theorem ifT {c : Bool} {A B : Prop} (hc : c = true) (h : A) : if c = true then A else B := by
  rw [if_pos hc]
  exact h
theorem ifF {c : Bool} {A B : Prop} (hc : c = false) (h : B) : if c = true then A else B := by
  rw [hc, if_neg Bool.false_ne_true]
  exact h
theorem pair_get {α β : Type} {F : α → β → Prop} : ∀ {as : List α} {bs : List β} {i : Nat} {a : α}, Paired F as bs → as[i]? = some a → ∃ b, bs[i]? = some b ∧ F a b
  | _, _, _, _, .nil, e => by simp at e
  | _, _, 0, _, .cons r _, e => by simp at e; subst e; exact ⟨_, rfl, r⟩
  | _, _, i + 1, a, .cons _ t, e => by
    obtain ⟨b, h1, h2⟩ := pair_get (i := i) (a := a) t (by simpa using e)
    exact ⟨b, by simpa using h1, h2⟩
theorem take_snoc {α : Type} {l : List α} {i : Nat} {x : α} (h : l[i]? = some x) : l.take (i + 1) = l.take i ++ [x] := by
  obtain ⟨hi, e⟩ := List.getElem?_eq_some_iff.mp h
  rw [← e]
  simp
theorem map_at {α : Type} {f : α → V} {l : List α} {i : Nat} {y : V} (h : (l.map f)[i]? = some y) : ∃ a, l[i]? = some a ∧ y = f a := by
  rw [List.getElem?_map] at h
  cases e : l[i]? with
  | none => rw [e] at h; cases h
  | some a => rw [e] at h; exact ⟨a, rfl, (Option.some.inj h).symm⟩
theorem eqv_same {d : PyData} (h : SeqAt.shaped d = true) : (!PyData.eqv d d) = false := by
  rw [SeqAt.eqv_refl d (SeqAt.canLay_of_shaped h)]
  rfl
mutual
theorem dp_same {K : PySem.W.Frag} {H H' : Hp} (e : Same H H') : ∀ {v : V} {d : PyData}, Dp K H v d → Dp K H' v d
  | _, _, .non => .non
  | _, _, .bl b => .bl b
  | _, _, .int i => .int i
  | _, _, .str x => .str x
  | _, _, .lst h r => .lst (L2.Same.seq e h) (dpAll_same e r)
  | _, _, .tup h r => .tup (SqT.same e h) (dpAll_same e r)
theorem dpAll_same {K : PySem.W.Frag} {H H' : Hp} (e : Same H H') : ∀ {vs : List V} {ds : List PyData}, DpAll K H vs ds → DpAll K H' vs ds
  | _, _, .nil => .nil
  | _, _, .cons h r => .cons (dp_same e h) (dpAll_same e r)
end
end Lf

set_option Elab.async false
set_option linter.all false
set_option maxRecDepth 100000
set_option maxHeartbeats 4000000
/-! for i, x in enumerate(t), t a tuple. -/
namespace Lf
open PySem PySem.Spec PyProof.Rows L2
set_option maxHeartbeats 8000000 in
theorem new_enum {v : Value} {o : Obj} {G : Heap → Prop} (B : Begins v o G) :
    Meets (Builtin.«enumerate.__new__» ⟨[.type "enumerate", v], []⟩) (fun _ R s => G s.heap ∧
      R (.ok (.ret (.ref (s.heap.push o).objs.size)))
        { s with heap := (s.heap.push o).push { cls := .type "enumerate", data := .fields #[.none, .bool false, .ref s.heap.objs.size, rawInt 0, .none, .none] } }) :=
  .of_wp fun prog w A R s hh => by
    obtain ⟨hp, g, d, tk, os⟩ := s
    obtain ⟨hg, fin⟩ := hh
    have sub := sub_enumerate
    have go : ∀ {A' : Around} {E' : Value → Shared → Prop} {Q' : Value → Shared → Prop}, Q' (.ref hp.objs.size) ⟨hp.push o, g, d, tk, os⟩ → wpAny (model prog w) A' (pyIter v) Q' E' ⟨hp, g, d, tk, os⟩ := fun q =>
      B.iter prog w _ _ ⟨hp, g, d, tk, os⟩ _ hg q
    wp_walk using go
    refine wpAny_stack_any fun st => wpAny_pure ?_
    split
    · rename_i c _ _ _ _ _
      cases (c == Value.type "enumerate") <;> (wp_walk using go; exact ⟨_, rfl, fin⟩)
    · wp_walk using go
      exact ⟨_, rfl, fin⟩
theorem call_enum {prog : Program} {w : World} {A : Around} {E : Value → Shared → Prop} {s : Shared} {v : Value} {o : Obj} {G : Heap → Prop} {Q : Value → Shared → Prop} (B : Begins v o G) (hg : G s.heap)
    (h : ∀ h', IsEnum h' (s.heap.objs.size + 1) s.heap.objs.size 0 .none → h'.get? s.heap.objs.size = some o → (∀ b u, s.heap.get? b = some u → h'.get? b = some u) → Q (.ref (s.heap.objs.size + 1)) { s with heap := h' }) :
    wpAny (model prog w) A (call (.type "enumerate") [v]) Q E s := by
  refine callType_new F.called_enumerate (by decide) (F.typeCall_enumerate_1 _) (F.newCall_enumerate_1 _) (fun x => F.args_object_init_2 x _) F.entry_enumerate_new (new_enum B) ⟨hg, ?_⟩
  have sz : (s.heap.push o).objs.size = s.heap.objs.size + 1 := Heap.size_push ..
  show _ ∧ _
  rw [sz]
  let e : Obj := { cls := .type "enumerate", data := .fields #[.none, .bool false, .ref s.heap.objs.size, rawInt 0, .none, .none] }
  have he : IsEnum ((s.heap.push o).push e) (s.heap.objs.size + 1) s.heap.objs.size 0 .none := by
    have z := Heap.get?_push_size (s.heap.push o) (o := e) rfl
    rw [sz] at z
    exact z
  exact ⟨⟨_, he, rfl⟩, h _ he (Heap.get?_push_of_some _ (Heap.get?_push_size _ B.free)) fun b u z => Heap.get?_push_of_some _ (Heap.get?_push_of_some _ z)⟩
/-- the tuple at a as it stands, its items in new pairs with their places -/
def Itet (K : PySem.W.Frag) (a : Addr) : It :=
  ⟨fun i H => ∃ (xs : List V) (x : V), SqT K H a xs ∧ xs[i]? = some x,
    fun i H v H' => ∃ T x, v = .ref T ∧ H T = none ∧ H' = upd H T (.tup [.int (i : Nat), x]) ∧ ∀ xs, SqT K H a xs → xs[i]? = some x,
    fun i H => ∃ xs : List V, SqT K H a xs ∧ xs.length = i⟩
theorem turn_enumT {P : Program} {w : World} {K : PySem.W.Frag} {elts : List Expr} {kk : Nat} {tpos : Pos} (a e it : Addr) :
    Turn P w K (.Tuple elts kk tpos) (Itet K a) [e, it] e (fun i h => (∃ old, IsEnum h e it ((i : Nat) : Int) old) ∧ h.IsTupleIter it a i ∧ e ≠ it ∧ a ≠ it ∧ a ≠ e) where
  mem := List.mem_cons_self
  obj := fun i h st b hb => by
    obtain ⟨⟨old, he⟩, ⟨o, ho, hc, hd⟩, _⟩ := st
    simp only [List.mem_cons, List.not_mem_nil, or_false] at hb
    rcases hb with rfl | rfl
    · exact ⟨_, he, fun v q => nomatch q⟩
    · exact ⟨o, ho, fun v q => by rw [hd] at q; cases q⟩
  keep := fun i h h' st k => by
    obtain ⟨⟨old, he⟩, hi, ne⟩ := st
    exact ⟨⟨old, k e (by simp) _ he⟩, hi.at fun o q => k it (by simp) o q, ne⟩
  item := by
    intro X hP hw hK hc i pins s σ H E I hf st hg
    subst hP hw hK
    obtain ⟨⟨old, he⟩, hit, ne, na, nae⟩ := st
    obtain ⟨xs, x, hq, hx⟩ := hg
    obtain ⟨its, rv, p, hz⟩ := I.tuple hq
    obtain ⟨u, hu, ru⟩ := rv.get hx
    have el : e < s.heap.objs.size := Heap.lt_size he
    have il : it < s.heap.objs.size := by obtain ⟨_, q, _⟩ := hit; exact Heap.lt_size q
    have calm : X.A.in1.handled = none := by have := I.ok.hd hc; simp [this]
    have hlt : i < its.toArray.size := by rw [List.size_toArray, ← rv.length]; exact (List.getElem?_eq_some_iff.mp hx).1
    refine wpAny_pyNext_enum_itemD (Draws.tuple (prog := X.prog) (w := X.w) calm it a na its.toArray) he ⟨hit, p⟩ hlt ne (by simp only [List.mem_cons, List.not_mem_nil, or_false, not_or]; exact ⟨ne, Ne.symm nae⟩) fun y h' tk hy ho st' hT hsz hk => ?_
    have ey : y = u := by
      have h1 : its[i]? = some y := by simpa using hy
      rw [hu] at h1
      exact (Option.some.inj h1).symm
    subst ey
    refine ⟨_, rfl, wpAny_letOwnedTupleGo_enum (s := { s with heap := h', toks := tk + 1 }) ho fun h'' he' sb => ?_⟩
    have hT2 := (sb.2 _ (Nat.ne_of_gt el)).trans hT
    have new : ObjOk X.prog X.w (upd H s.heap.objs.size (.tup [.int (i : Nat), x])) h'' s.heap.objs.size (.tup [.int (i : Nat), x]) :=
      ⟨by show 2 ≤ sizeLine; decide, [.int i tk, y], .cons ⟨_, rfl⟩ (.cons ru .nil), ⟨_, hT2, rfl, _, rfl⟩⟩
    have off : ∀ b, b ∉ [e, it] → b ≠ e ∧ b ≠ it := fun b hb => by
      simp only [List.mem_cons, List.not_mem_nil, or_false, not_or] at hb
      exact hb
    have I1 : Inv X pins σ (upd H s.heap.objs.size (.tup [.int (i : Nat), x])) { s with heap := h'', toks := tk + 1 } :=
      I.turnedNew (ch := [e, it]) (fun b ob hb q => (sb.2 b (off b hb).1).trans (hk b ob (off b hb).1 (off b hb).2 q)) hf (Nat.le_refl _) new
    refine ⟨.ref s.heap.objs.size, _, I1, rfl, ⟨_, x, rfl, I.hok.fresh (Nat.le_refl _), rfl, fun ys hy => by rw [I.tuple_inj hy hq]; exact hx⟩, ⟨⟨y, ?_⟩, st'.1.at fun o q => (sb.2 it (Ne.symm ne)).trans q, ne, na, nae⟩, fun b hb => ?_⟩
    · have z : ((i + 1 : Nat) : Int) = (i : Int) + 1 := by omega
      rw [z]
      exact he'
    · have lt : b < s.heap.objs.size := by
        simp only [List.mem_cons, List.not_mem_nil, or_false] at hb
        rcases hb with rfl | rfl
        · exact el
        · exact il
      rw [upd_ne (Nat.ne_of_lt lt)]
      exact (hf b hb).1
  done := by
    intro X hP hw hK hc i pins s σ H E I hf st hg
    subst hP hw hK
    obtain ⟨⟨old, he⟩, hit, ne, na, nae⟩ := st
    obtain ⟨xs, hq, hx⟩ := hg
    obtain ⟨its, rv, p, hz⟩ := I.tuple hq
    obtain ⟨f0, f1, f2, f3, f4, f5⟩ := hf it (by simp)
    have calm : X.A.in1.handled = none := by have := I.ok.hd hc; simp [this]
    have en : its.toArray.size = i := by rw [List.size_toArray, ← rv.length, hx]
    exact wpAny_pyNext_enum_endD (Draws.tuple (prog := X.prog) (w := X.w) calm it a na its.toArray) he (by rw [en]; exact ⟨hit, p⟩) fun h' eb => ⟨rfl, I.turned (t' := s.toks) (fun b o hb q => eb b o hb q) f0 f1 f3 f4 f5⟩
  self := fun A i s Q E st h => by
    obtain ⟨⟨_, he⟩, _⟩ := st
    exact wpAny_pyIter_enum he h
/-- enumerate(x), x a list or a tuple -/
def iEnumA (K : PySem.W.Frag) (ta : TE) : TI := fun σ H R => ta σ H fun x H1 => ∃ a xs, x = .ref a ∧ ((SqL K H1 a xs ∧ R (Ite K a) H1) ∨ (SqT K H1 a xs ∧ R (Itet K a) H1))
theorem pi_enumA {X : Cx} {e : Expr} {ta : TE} {p pos tpos : Pos} {elts : List Expr} {kk : Nat} (hg : Gl X "enumerate") (hm : X.mg "enumerate" = none) (ha : PE X e ta)
    (hs : starEach [e] X.env = [(false, eval e X.env)] := by rfl) : PI X (.Tuple elts kk tpos) (.Call (.Name "enumerate" p) [e] [] pos) (iEnumA X.K ta) := by
  refine ⟨fun pins s σ H R I h => ?_⟩
  refine Call_ (ld_blt I hg hm boot_enumerate (PyProof.Rows.callWith_type1 (thn ((pa_cons (PE.up ha) pa_nil hs).run pos pins s σ H (fun vs H1 => ∃ x, vs = [x] ∧ ∃ a xs, x = .ref a ∧ ((SqL X.K H1 a xs ∧ R (Ite X.K a) H1) ∨ (SqT X.K H1 a xs ∧ R (Itet X.K a) H1))) I ?_) fun us s1 hh => ?_) hs rfl))
  · exact ⟨_, h, fun v H' z => ⟨v, rfl, z⟩⟩
  obtain ⟨vs, H1, I1, r1, x, rfl, a, xs, rfl, q1⟩ := hh
  cases r1 with
  | cons r rr =>
    cases rr
    cases r
    have fp : ∀ b ∈ [s1.heap.objs.size + 1, s1.heap.objs.size], s1.heap.objs.size ≤ b := fun b hb => by
      simp only [List.mem_cons, List.not_mem_nil, or_false] at hb
      rcases hb with rfl | rfl
      · exact Nat.le_add_right _ _
      · exact Nat.le_refl _
    rcases q1 with ⟨hq, q⟩ | ⟨hq, q⟩
    · obtain ⟨its, rv, p', hz⟩ := I1.list hq
      refine call_enum (begins_list a its.toArray) p'.isList fun h' he hit hk => wpAny_pyIter_enum he ?_
      exact ⟨s1.heap.objs.size + 1, [s1.heap.objs.size + 1, s1.heap.objs.size], _, _, H1, rfl, I1.kept (t' := s1.toks) hk, turn_enum a (s1.heap.objs.size + 1) s1.heap.objs.size,
        ⟨⟨.none, he⟩, ⟨_, hit, rfl, rfl⟩, Nat.succ_ne_self _⟩, fun b hb => I1.fpOk (fp b hb) (I1.hok.fresh (fp b hb)), q⟩
    · obtain ⟨its, rv, p', hz⟩ := I1.tuple hq
      have al : a < s1.heap.objs.size := p'.lt
      refine call_enum (begins_tuple a its.toArray) p' fun h' he hit hk => wpAny_pyIter_enum he ?_
      exact ⟨s1.heap.objs.size + 1, [s1.heap.objs.size + 1, s1.heap.objs.size], _, _, H1, rfl, I1.kept (t' := s1.toks) hk, turn_enumT a (s1.heap.objs.size + 1) s1.heap.objs.size,
        ⟨⟨.none, he⟩, ⟨_, hit, rfl, rfl⟩, Nat.succ_ne_self _, Nat.ne_of_lt al, Nat.ne_of_lt (Nat.lt_succ_of_lt al)⟩, fun b hb => I1.fpOk (fp b hb) (I1.hok.fresh (fp b hb)), q⟩
/-- it gives each item of xs in a new pair with its place -/
theorem walk_enumT {K : PySem.W.Frag} {a : Addr} {xs : List V} : Walk (Itet K a) xs.length (fun H => SqT K H a xs)
    (fun i H v H' => ∃ T x, v = .ref T ∧ H T = none ∧ H' = upd H T (.tup [.int (i : Nat), x]) ∧ xs[i]? = some x) where
  goes := fun i H hi g => ⟨xs, _, g, List.getElem?_eq_getElem hi⟩
  stops := fun H g => ⟨xs, g, rfl⟩
  yields := fun i H x H' _ g y => by
    obtain ⟨T, z, e, n, eh, f⟩ := y
    exact ⟨T, z, e, n, eh, f xs g⟩
theorem walk_enumL {K : PySem.W.Frag} {a : Addr} {xs : List V} : Walk (Ite K a) xs.length (fun H => SqL K H a xs)
    (fun i H v H' => ∃ T x, v = .ref T ∧ H T = none ∧ H' = upd H T (.tup [.int (i : Nat), x]) ∧ xs[i]? = some x) where
  goes := fun i H hi g => ⟨xs, _, g, List.getElem?_eq_getElem hi⟩
  stops := fun H g => ⟨xs, g, Nat.le_refl _⟩
  yields := fun i H x H' _ g y => by
    obtain ⟨T, z, e, n, eh, f⟩ := y
    exact ⟨T, z, e, n, eh, f xs g⟩
end Lf

set_option Elab.async false
set_option linter.all false
set_option maxRecDepth 100000
set_option maxHeartbeats 8000000
/-! A binary operator by an own method, the other operand of any type; != by an own __eq__. -/
namespace Lf
open PySem PySem.Spec PyProof.Rows L2
section
open PySem.W
variable {prog : Program} {w : World} {A : Around} {E : Value → Shared → Prop} {s : Shared} {K : Frag} {x C L f : Addr} {h₀ : Heap} {m : Str → Option Value} {ox : Obj} {od : Option Obj}
/-- what is to be known of the other operand's type -/
structure Side (K : Frag) (C : Addr) (nm : String) (tb : Value) (right py : Bool) : Prop where
  ne : (Value.ref C == tb) = false
  fills : ∀ (M : Model) (h : Heap), K.In h → Looks M h (fillsNumberSlot tb nm) right
  sub : subIn K tb (.ref C) = some false
  inPy : right = true → ∀ (M : Model) (h : Heap), K.In h → Looks M h (numberSlotInPython tb nm) py
  refl : right = true → py = false → ∃ ro, findIn K tb (dunderR nm) = some ro
theorem bin_other {op : Operator} {b tb : Value} {rc : Option Value} {right py : Bool} {Q : Value → Shared → Prop} (F : Fr h₀ L s.heap m) (X₀ : K.In h₀) (I : InstAt s.heap x ox C od) (hc : selfFirst K C = true)
    (hs : findIn K (.ref C) (PySem.dunder op.info.2) = some (some (.ref f))) (hf : isFn K (.ref f) = true) (hr : findIn K (.ref C) (dunderR op.info.2) = some rc) (hp : rc = none ∨ ∃ g : Addr, rc = some (.ref g))
    (Lb : Looks (model prog w) s.heap (typeOf b) tb) (S : Side K C op.info.2 tb right py)
    (h : wpAny (model prog w) A (call (.ref f) [.ref x, b]) (PySem.W.CmpBack Q) E s) : wpAny (model prog w) A (binaryOp op (.ref x) b) Q E s := by
  have X := X₀.keeps F.keep
  obtain ⟨cd, rest, hcd, hm⟩ := ksp_first hc
  rcases hi : op.info with ⟨sym, nm'⟩
  rw [hi] at hs hr S
  dsimp only at hs hr S
  have one := ksp_try X I hs hf h
  obtain ⟨hh, g, d, tt, os⟩ := s
  have L1 : Looks (model prog w) hh (typeOf (.ref x)) (.ref C) := I.type
  have L3 : Looks (model prog w) hh (fillsNumberSlot (.ref C) nm') true := fills_K X hcd hm hs
  have L4 := S.fills (model prog w) hh X
  have L5 : Looks (model prog w) hh (isSubtype tb (.ref C)) false := looks_subIn X S.sub
  have L6 : Looks (model prog w) hh (numberSlotInPython (.ref C) nm') true := ksp_inPy X hs hr hp
  have hne := S.ne
  simp only [binaryOp, hi]
  refine wpAny_holding (wpAny_bind ?_)
  unfold binaryOp1
  refine wpAny_bind (L1.at (wpAny_bind (Lb.at (wpAny_bind (L3.at ?_)))))
  simp only [hne, Bool.false_eq_true, if_false]
  cases right with
  | false =>
    ksp_lk
    refine wpAny_mono one (fun r s' hr' => ?_) fun _ _ e => e
    obtain ⟨v, rfl, hq⟩ := hr'
    ksp_lk
    exact hq
  | true =>
    have L7 := S.inPy rfl (model prog w) hh X
    cases py with
    | true =>
      ksp_lk
      refine wpAny_mono one (fun r s' hr' => ?_) fun _ _ e => e
      obtain ⟨v, rfl, hq⟩ := hr'
      ksp_lk
      exact hq
    | false =>
      obtain ⟨ro, hro⟩ := S.refl rfl rfl
      have L8 : Looks (model prog w) hh (typeLookup tb (dunderR nm')) ro := looks_findIn X hro
      ksp_lk
      refine wpAny_mono one (fun r s' hr' => ?_) fun _ _ e => e
      obtain ⟨v, rfl, hq⟩ := hr'
      ksp_lk
      exact hq
end

/-- what is known of a class C with a method of its own for op -/
structure OwnOp (K : PySem.W.Frag) (C : Addr) (nm : String) (f : Addr) : Prop where
  first : PySem.W.selfFirst K C = true
  find : PySem.W.findIn K (.ref C) (PySem.dunder nm) = some (some (.ref f))
  fn : PySem.W.isFn K (.ref f) = true
  refl : PySem.W.findIn K (.ref C) (dunderR nm) = some none
def RightOf (K : PySem.W.Frag) (C : Addr) (nm : String) (t : Value) : Prop := t = .ref C ∨ ∃ right py, Side K C nm t right py
def rBin (K : PySem.W.Frag) (C : Addr) (nm : String) (sp : Sp) (E : XK) : R2 := fun x y H Q => ∃ a dx fs t, x = .ref a ∧ H a = some (.ins C dx fs) ∧ TyX K H y t ∧ RightOf K C nm t ∧ sp [.ref a, y] H Q E
theorem cmpBack {X : Cx} {pins : List (Addr × Obj)} {σ : L2.St} {Q : VK} {v : Value} {s : Shared} (h : EP X pins σ Q v s) : PySem.W.CmpBack (EP X pins σ Q) v s := by
  cases v with
  | notImplemented =>
    obtain ⟨z, H, I, r, q⟩ := h
    cases z <;> first | (obtain ⟨_, e⟩ := r; cases e; done) | (cases r; done)
  | _ => exact h
theorem op_own {X : Cx} {CX : CXT} {k : Nat} {f C : Addr} {fd : FuncData} {ps : List Str} {sp : Sp} {E : XK} {op : Operator} (O : OwnOp X.K C op.info.2 f) (F : FnOk X.prog X.w X.K X.mg X.base CX k f fd ps sp) (hr : Room k X.A)
    (hb : L2.Binds X.K fd ps []) (hx : Passes CX X E) : OpR X (binaryOp op) (rBin X.K C op.info.2 sp E) := by
  intro pins s σ H x y v u Q I rx ry hq
  obtain ⟨a, dx, fs, t, rfl, ha, ty, rt, h⟩ := hq
  cases rx
  obtain ⟨mA, J, _⟩ := ins_get I.hok ha
  obtain ⟨od, J, _⟩ := J.look
  obtain ⟨m, hF⟩ := I.fr
  obtain ⟨P, Z, hP, _⟩ := kit_of I ry ty
  have Lb := Z.ty (model X.prog X.w) s.heap I.kIn hP
  have run : wpAny (model X.prog X.w) X.A (call (.ref f) [.ref a, u]) (PySem.W.CmpBack (EP X pins σ Q)) X.xe s :=
    wpAny_mono (run_fn (us := [.ref a, u]) (vs := [.ref a, y]) F hr hb .nil hx I (.cons rfl (.cons ry .nil)) h) (fun _ _ q => cmpBack q) fun _ _ e => e
  rcases rt with rfl | ⟨right, py, S⟩
  · exact PySem.W.binop_K hF I.ok.mod.kin J Lb O.first O.find O.fn run
  · exact bin_other hF I.ok.mod.kin J O.first O.find O.fn O.refl (.inl rfl) Lb S run

section
open PySem.W
variable {prog : Program} {w : World} {A : Around} {E : Value → Shared → Prop} {s : Shared} {K : Frag} {x C L f : Addr} {h₀ : Heap} {m : Str → Option Value} {ox : Obj} {od : Option Obj}
theorem slotNe : PySem.Slot "object" "__ne__" "object.__ne__" := PySem.F.slot_object_ne
theorem ifBound_ne {b : Value} {Q : Option Value → Shared → Prop} (X : K.In s.heap) (I : InstAt s.heap x ox C od) (hf : findIn K (.ref C) "__ne__" = some (some (.builtin "object.__ne__")))
    (h : wpAny (model prog w) A (call (.builtin "object.__ne__") [.ref x, b]) (fun v => Q (some v)) E s) : wpAny (model prog w) A (callSpecialIfBound? (.ref x) "__ne__" [b]) Q E s := by
  simp only [callSpecialIfBound?, bindSpecialIfBound?]
  refine wpAny_holding (wpAny_bind (wpAny_bind (wpAny_bind (I.type.here ((looks_findIn X hf).here ?_)))))
  refine wpAny_bind (wpAny_askSetting (wpAny_ite ?_))
  have fin : wpAny (model prog w) A (call (.builtin "object.__ne__") ([.ref x] ++ [b]) >>= fun v => pure (some v)) Q E s := wpAny_bind (wpAny_mono h (fun v s' h' => wpAny_pure h') fun _ _ h' => h')
  rw [slotNe.bind]
  split
  · exact wpAny_bind (wpAny_pure (wpAny_pure (by exact fin)))
  · exact wpAny_tryCatch (wpAny_bind (wpAny_pure (wpAny_pure (by exact fin))))
theorem ne_body {b : Value} {Q : Fin → Shared → Prop} (hu : A.units < cLine) (X : K.In s.heap) (I : InstAt s.heap x ox C od) (hs : findIn K (.ref C) "__eq__" = some (some (.ref f))) (hf : isFn K (.ref f) = true)
    (h : wpAny (model prog w) A (call (.ref f) [.ref x, b]) (fun v s' => ∃ r, v = .bool r ∧ Q (.done (.ret (.bool (!r)))) s') E s) : wpAny (model prog w) A (Builtin.«object.__ne__» ⟨[.ref x, b], []⟩) Q E s := by
  unfold Builtin.«object.__ne__»
  refine wpAny_bind (wpAny_pure ?_)
  refine wpAny_bind (wpAny_cRoomFor hu ?_)
  refine wpAny_bind (ifBound_K X I hs hf (wpAny_mono h (fun v s' hv => ?_) fun _ _ e => e))
  obtain ⟨r, rfl, q⟩ := hv
  exact wpAny_bind (wpAny_truthy_bool (wpAny_pure q))

theorem call_ne {b : Value} {Q : Value → Shared → Prop} (hu : A.in1.units < cLine) (X : K.In s.heap) (I : InstAt s.heap x ox C od) (ho : subIn K (.ref C) (.type "object") = some true) (hs : findIn K (.ref C) "__eq__" = some (some (.ref f))) (hf : isFn K (.ref f) = true)
    (h : wpAny (model prog w) A.in1 (call (.ref f) [.ref x, b]) (fun v s' => ∃ r, v = .bool r ∧ Q (.bool (!r)) s') E s) : wpAny (model prog w) A (call (.builtin "object.__ne__") [.ref x, b]) Q E s := by
  refine wpAny_call (codeAny_call_builtin slotNe.plain PySem.F.cmpEntry_ne ?_)
  refine PySem.W.check_slot PySem.F.cmpKind_ne PySem.F.cmpSplit_ne (I.type.andThen (looks_subIn X ho)) (PySem.F.cmpArgs_ne _ _) ?_
  refine ne_body hu X I hs hf (wpAny_mono h (fun v s' hv => ?_) fun _ _ e => e)
  obtain ⟨r, rfl, q⟩ := hv
  exact ⟨r, rfl, q⟩
theorem rc_ne {b tb : Value} {Q : Value → Shared → Prop} (hu : A.units + 1 < cLine) (F : Fr h₀ L s.heap m) (X₀ : K.In h₀) (I : InstAt s.heap x ox C od) (hb : Looks (model prog w) s.heap (typeOf b) tb) (hn : notFirst K C tb = true) (ho : subIn K (.ref C) (.type "object") = some true)
    (hne : findIn K (.ref C) "__ne__" = some (some (.builtin "object.__ne__"))) (hs : findIn K (.ref C) "__eq__" = some (some (.ref f))) (hf : isFn K (.ref f) = true)
    (h : wpAny (model prog w) A.in1 (call (.ref f) [.ref x, b]) (fun v s' => ∃ r, v = .bool r ∧ Q (.bool (!r)) s') E s) : wpAny (model prog w) A (richCompare .NotEq (.ref x) b) Q E s := by
  have X := X₀.keeps F.keep
  have one : wpAny (model prog w) A (tryCompare (.ref x) "__ne__" b) (fun r s' => ∃ v, r = some v ∧ Q v s') E s := by
    unfold tryCompare
    refine wpAny_bind (ifBound_ne X I hne (call_ne hu X I ho hs hf (wpAny_mono h (fun v s' hv => ?_) fun _ _ e => e)))
    obtain ⟨r, rfl, q⟩ := hv
    exact ⟨r, rfl, wpAny_pure ⟨_, rfl, q⟩⟩
  unfold richCompare
  simp only [oneThing_ref]
  refine wpAny_holding (wpAny_bind (wpAny_cRoomFor (Nat.lt_of_succ_lt hu) ?_))
  refine wpAny_bind (I.type.here (wpAny_bind (hb.here ?_)))
  split
  · rename_i q
    have e : subIn K tb (.ref C) = some false := by
      rcases Bool.or_eq_true_iff.mp hn with e | e
      · rw [beq_iff_eq.mp e] at q; simp at q
      · exact beq_iff_eq.mp e
    refine wpAny_bind ((looks_subIn X e).here ?_)
    simp only [Bool.false_eq_true, if_false]
    refine wpAny_bind (wpAny_mono one (fun r s' z => ?_) fun _ _ e => e)
    obtain ⟨v, rfl, hq⟩ := z
    exact wpAny_pure hq
  · refine wpAny_bind (wpAny_pure ?_)
    simp only [Bool.false_eq_true, if_false]
    refine wpAny_bind (wpAny_mono one (fun r s' z => ?_) fun _ _ e => e)
    obtain ⟨v, rfl, hq⟩ := z
    exact wpAny_pure hq
end
/-- a function's promise kept below the running body -/
theorem run_sub {X : Cx} {CX : CXT} {k : Nat} {f : Addr} {fd : FuncData} {ps : List Str} {sp : Sp} {E : XK} {A : Around} (F : FnOk X.prog X.w X.K X.mg X.base CX k f fd ps sp) (sb : Sub X k A) (hb : L2.Binds X.K fd ps []) (hx : Passes CX X E)
    {pins : List (Addr × Obj)} {σ : L2.St} {H : Hp} {s : Shared} {Q : VK} {us : List Value} {vs : List V} (I : L2.Inv X pins σ H s) (r : Vals vs us) (h : sp vs H Q E) : wpAny (model X.prog X.w) A (call (.ref f) us) (EP X pins σ Q) X.xe s := by
  have hl := F.len _ _ _ _ h
  have e0 : Env0 X.prog X.w X.K X.mg X.base A X.stack s H := by
    have e := I.env0
    exact ⟨by rw [sb.fr]; exact e.frames, e.mod, e.bs, e.bsz, e.funs, e.frf, e.hok, e.bare⟩
  have hl2 : us.length = ps.length := by rw [← r.length]; exact hl
  refine wpAny_call (codeAny_mono (F.run A X.stack s H ⟨us, []⟩ us vs Q E sb.room e0 (by
    have := hb s us I.kIn (by simpa using hl2)
    simpa using this) r h) fun r s' hq => ?_)
  cases r with
  | error e => exact hx pins σ H s e s' I hq
  | ok fl =>
    cases fl with
    | ret u => exact I.after hq
    | next => exact False.elim hq
    | brk => exact False.elim hq
    | cont => exact False.elim hq
/-- what is known of a class with an own == and no own != -/
structure OwnEq (K : PySem.W.Frag) (C f : Addr) : Prop where
  eq : PySem.W.findIn K (.ref C) "__eq__" = some (some (.ref f))
  fn : PySem.W.isFn K (.ref f) = true
  ne : PySem.W.findIn K (.ref C) "__ne__" = some (some (.builtin "object.__ne__"))
  obj : PySem.W.subIn K (.ref C) (.type "object") = some true
/-- x == y of an instance x of C and any y whose class doesn't descend from C -/
def rOwnEq (K : PySem.W.Frag) (C : Addr) (sp : Sp) (E : XK) : R2 := fun x y H Q => ∃ a dx fs t, x = .ref a ∧ H a = some (.ins C dx fs) ∧ TyX K H y t ∧ PySem.W.notFirst K C t = true ∧ sp [.ref a, y] H Q E
def rOwnNe (K : PySem.W.Frag) (C : Addr) (sp : Sp) (E : XK) : R2 := fun x y H Q => ∃ a dx fs t, x = .ref a ∧ H a = some (.ins C dx fs) ∧ TyX K H y t ∧ PySem.W.notFirst K C t = true ∧ sp [.ref a, y] H (fun v H' => ∃ b, v = .bl b ∧ Q (.bl (!b)) H') E
section
variable {X : Cx} {CX : CXT} {k : Nat} {f C : Addr} {fd : FuncData} {ps : List Str} {sp : Sp} {E : XK}
theorem op_ownEq (O : OwnEq X.K C f) (F : FnOk X.prog X.w X.K X.mg X.base CX k f fd ps sp) (hr : Room k X.A) (hb : L2.Binds X.K fd ps []) (hx : Passes CX X E) : OpR X (compareOp .Eq) (rOwnEq X.K C sp E) := by
  intro pins s σ H x y v u Q I rx ry hq
  obtain ⟨a, dx, fs, t, rfl, ha, ty, nf, h⟩ := hq
  cases rx
  obtain ⟨mA, J, _⟩ := ins_get I.hok ha
  obtain ⟨od, J, _⟩ := J.look
  obtain ⟨m, hF⟩ := I.fr
  obtain ⟨P, Z, hP, _⟩ := kit_of I ry ty
  have run : wpAny (model X.prog X.w) X.A (call (.ref f) [.ref a, u]) (PySem.W.CmpBack (EP X pins σ Q)) X.xe s :=
    wpAny_mono (run_fn (us := [.ref a, u]) (vs := [.ref a, y]) F hr hb .nil hx I (.cons rfl (.cons ry .nil)) h) (fun _ _ q => cmpBack q) fun _ _ e => e
  show wpAny (model X.prog X.w) X.A (richCompare .Eq (.ref a) u) (EP X pins σ Q) X.xe s
  exact PySem.W.cmp_K (op := .Eq) hr.units0 hF I.ok.mod.kin J (Z.ty _ s.heap I.kIn hP) nf O.eq O.fn run
theorem op_ownNe (O : OwnEq X.K C f) (F : FnOk X.prog X.w X.K X.mg X.base CX k f fd ps sp) (hr : Room (k + 1) X.A) (hb : L2.Binds X.K fd ps []) (hx : Passes CX X E) : OpR X (compareOp .NotEq) (rOwnNe X.K C sp E) := by
  intro pins s σ H x y v u Q I rx ry hq
  obtain ⟨a, dx, fs, t, rfl, ha, ty, nf, h⟩ := hq
  cases rx
  obtain ⟨mA, J, _⟩ := ins_get I.hok ha
  obtain ⟨od, J, _⟩ := J.look
  obtain ⟨m, hF⟩ := I.fr
  obtain ⟨P, Z, hP, _⟩ := kit_of I ry ty
  have sb : Sub X k X.A.in1 := ⟨hr.in1, rfl⟩
  have run : wpAny (model X.prog X.w) X.A.in1 (call (.ref f) [.ref a, u]) (fun v s' => ∃ r, v = .bool r ∧ EP X pins σ Q (.bool (!r)) s') X.xe s :=
    wpAny_mono (run_sub (us := [.ref a, u]) (vs := [.ref a, y]) F sb hb hx I (.cons rfl (.cons ry .nil)) h) (fun v s' q => by
      obtain ⟨z, H', I', r, b, rfl, q⟩ := q
      cases r
      exact ⟨b, rfl, .bl (!b), H', I', rfl, q⟩) fun _ _ e => e
  show wpAny (model X.prog X.w) X.A (richCompare .NotEq (.ref a) u) (EP X pins σ Q) X.xe s
  exact rc_ne hr.in1.units0 hF I.ok.mod.kin J (Z.ty _ s.heap I.kIn hP) nf O.obj O.ne O.eq O.fn run
end

theorem dunder_mul : PySem.dunder "mul" = ("__mul__" : Str) := by decide +kernel
/-- what a head says of an own class with *, == and no reflected *, no != -/
def opsB (K : PySem.W.Frag) (owns : List Addr) (C : Addr) : Bool :=
  PySem.W.selfFirst K C && (decide (PySem.W.findIn K (.ref C) (dunderR "mul") = some none) && (decide (PySem.W.findIn K (.ref C) "__ne__" = some (some (.builtin "object.__ne__"))) && (decide (PySem.W.subIn K (.ref C) (.type "object") = some true) &&
  ((["NoneType", "int", "bool", "str", "list", "tuple"].all fun b => decide (PySem.W.subIn K (.type b) (.ref C) = some false)) && (owns.all fun D => decide (PySem.W.subIn K (.ref D) (.ref C) = some (decide (D = C))))))))
structure Ops (K : PySem.W.Frag) (owns : List Addr) (C : Addr) : Prop where
  first : PySem.W.selfFirst K C = true
  rmul : PySem.W.findIn K (.ref C) (dunderR "mul") = some none
  ne : PySem.W.findIn K (.ref C) "__ne__" = some (some (.builtin "object.__ne__"))
  obj : PySem.W.subIn K (.ref C) (.type "object") = some true
  tys : ∀ b ∈ ["NoneType", "int", "bool", "str", "list", "tuple"], PySem.W.subIn K (.type b) (.ref C) = some false
  own : ∀ D ∈ owns, PySem.W.subIn K (.ref D) (.ref C) = some (decide (D = C))
theorem ops_ok {K : PySem.W.Frag} {owns : List Addr} {C : Addr} (h : opsB K owns C = true) : Ops K owns C := by
  unfold opsB at h
  simp only [Bool.and_eq_true, decide_eq_true_eq, List.all_eq_true] at h
  obtain ⟨a, b, c, d, e, f⟩ := h
  exact ⟨a, b, c, d, e, f⟩
section
variable {K : PySem.W.Frag} {owns : List Addr} {C D f g : Addr}
theorem Ops.mul (o : Ops K owns C) (m : Meth K C "__mul__" f) : OwnOp K C "mul" f := ⟨o.first, by rw [dunder_mul]; exact m.at_, m.fn, o.rmul⟩
theorem Ops.eq (o : Ops K owns C) (m : Meth K C "__eq__" f) : OwnEq K C f := ⟨m.at_, m.fn, o.ne, o.obj⟩
theorem right_same : RightOf K C "mul" (.ref C) := .inl rfl
theorem Ops.right (o : Ops K owns C) (o2 : Ops K owns D) (m2 : Meth K D "__mul__" g) (hD : D ∈ owns) (ne : D ≠ C) : RightOf K C "mul" (.ref D) :=
  .inr ⟨true, true, ⟨Bool.eq_false_iff.mpr fun q => ne (by have := beq_iff_eq.mp q; injection this with this; exact this.symm), fun M h X => by
    obtain ⟨cd, rest, hcd, hm⟩ := PySem.W.ksp_first o2.first
    exact PySem.W.fills_K X hcd hm (o2.mul m2).find, by rw [o.own D hD, decide_eq_false ne], fun _ M h X => PySem.W.ksp_inPy X (o2.mul m2).find o2.rmul (.inl rfl), fun _ z => nomatch z⟩⟩
theorem Ops.rightT (o : Ops K owns C) {T : String} {fo ro : Option Value} (hT : T ∈ ["NoneType", "int", "bool", "str", "list", "tuple"]) (h1 : fastLookup T (PySem.dunder "mul") = some fo) (h2 : fastLookup T (dunderR "mul") = some ro) : RightOf K C "mul" (.type T) :=
  .inr ⟨_, false, ⟨Bool.eq_false_iff.mpr fun q => (nomatch beq_iff_eq.mp q), fun M h X => PySem.W.ksp_fillsT X h1 h2, o.tys T hT, fun _ M h X => PySem.W.Looks.of_pure rfl, fun _ _ => ⟨ro, h2⟩⟩⟩
theorem Ops.right_int (o : Ops K owns C) : RightOf K C "mul" (.type "int") := o.rightT (fo := some (.builtin "int.__mul__")) (ro := some (.builtin "int.__rmul__")) (by decide) (by kernel_rfl) (by kernel_rfl)
theorem Ops.right_none (o : Ops K owns C) : RightOf K C "mul" (.type "NoneType") := o.rightT (fo := none) (ro := none) (by decide) (by kernel_rfl) (by kernel_rfl)
theorem Ops.right_tuple (o : Ops K owns C) : RightOf K C "mul" (.type "tuple") := o.rightT (fo := some (.builtin "tuple.__mul__")) (ro := some (.builtin "tuple.__rmul__")) (by decide) (by kernel_rfl) (by kernel_rfl)
theorem Ops.right_list (o : Ops K owns C) : RightOf K C "mul" (.type "list") := o.rightT (fo := some (.builtin "list.__mul__")) (ro := some (.builtin "list.__rmul__")) (by decide) (by kernel_rfl) (by kernel_rfl)
theorem Ops.right_str (o : Ops K owns C) : RightOf K C "mul" (.type "str") := o.rightT (fo := some (.builtin "str.__mul__")) (ro := some (.builtin "str.__rmul__")) (by decide) (by kernel_rfl) (by kernel_rfl)
theorem Ops.notFirst (o : Ops K owns C) (hD : D ∈ owns) : PySem.W.notFirst K C (.ref D) = true := by
  unfold PySem.W.notFirst
  by_cases e : D = C
  · subst e
    simp
  · rw [o.own D hD, decide_eq_false e]
    simp
theorem Ops.notFirstT (o : Ops K owns C) {T : String} (hT : T ∈ ["NoneType", "int", "bool", "str", "list", "tuple"]) : PySem.W.notFirst K C (.type T) = true := by
  unfold PySem.W.notFirst
  rw [o.tys T hT]
  simp
end
end Lf

set_option Elab.async false
set_option linter.all false
set_option maxRecDepth 100000
set_option maxHeartbeats 0
namespace K14
open PySem PySem.Spec PyProof.Rows L2
def top (i : Nat) : Stmt := PySem.Challenge.pw_letterfolds_k14_words_and_products.main.body.getD i (.Pass ⟨0, 0, 0, 0⟩)
abbrev s_is_number : Stmt := top 4
def d_is_number : He.DefD := ⟨("is_number", none), "is_number", "is_number", defArgs s_is_number, defBody s_is_number, defScope s_is_number, [], []⟩
abbrev s_is_between : Stmt := top 5
def d_is_between : He.DefD := ⟨("is_between", none), "is_between", "is_between", defArgs s_is_between, defBody s_is_between, defScope s_is_between, [], []⟩
abbrev s_is_sequence : Stmt := top 6
def d_is_sequence : He.DefD := ⟨("is_sequence", none), "is_sequence", "is_sequence", defArgs s_is_sequence, defBody s_is_sequence, defScope s_is_sequence, [], []⟩
abbrev s_is_word : Stmt := top 7
def d_is_word : He.DefD := ⟨("is_word", none), "is_word", "is_word", defArgs s_is_word, defBody s_is_word, defScope s_is_word, [.non], []⟩
abbrev s_FoldError_told : Stmt := inClass (top 9) 0
def d_FoldError_told : He.DefD := ⟨("FoldError", some "told"), "told", "FoldError.told", defArgs s_FoldError_told, defBody s_FoldError_told, defScope s_FoldError_told, [], []⟩
abbrev s_NoNumber_init : Stmt := inClass (top 10) 0
def d_NoNumber_init : He.DefD := ⟨("NoNumber", some "__init__"), "__init__", "NoNumber.__init__", defArgs s_NoNumber_init, defBody s_NoNumber_init, defScope s_NoNumber_init, [], []⟩
abbrev s_NoNumber_told : Stmt := inClass (top 10) 1
def d_NoNumber_told : He.DefD := ⟨("NoNumber", some "told"), "told", "NoNumber.told", defArgs s_NoNumber_told, defBody s_NoNumber_told, defScope s_NoNumber_told, [], []⟩
abbrev s_NoMonoid_init : Stmt := inClass (top 11) 0
def d_NoMonoid_init : He.DefD := ⟨("NoMonoid", some "__init__"), "__init__", "NoMonoid.__init__", defArgs s_NoMonoid_init, defBody s_NoMonoid_init, defScope s_NoMonoid_init, [], []⟩
abbrev s_NoMonoid_told : Stmt := inClass (top 11) 1
def d_NoMonoid_told : He.DefD := ⟨("NoMonoid", some "told"), "told", "NoMonoid.told", defArgs s_NoMonoid_told, defBody s_NoMonoid_told, defScope s_NoMonoid_told, [], []⟩
abbrev s_NoWord_init : Stmt := inClass (top 12) 0
def d_NoWord_init : He.DefD := ⟨("NoWord", some "__init__"), "__init__", "NoWord.__init__", defArgs s_NoWord_init, defBody s_NoWord_init, defScope s_NoWord_init, [], []⟩
abbrev s_NoWord_told : Stmt := inClass (top 12) 1
def d_NoWord_told : He.DefD := ⟨("NoWord", some "told"), "told", "NoWord.told", defArgs s_NoWord_told, defBody s_NoWord_told, defScope s_NoWord_told, [], []⟩
abbrev s_Monoid_init : Stmt := inClass (top 16) 0
def d_Monoid_init : He.DefD := ⟨("Monoid", some "__init__"), "__init__", "Monoid.__init__", defArgs s_Monoid_init, defBody s_Monoid_init, defScope s_Monoid_init, [], []⟩
abbrev s_Monoid_eq : Stmt := inClass (top 16) 1
def d_Monoid_eq : He.DefD := ⟨("Monoid", some "__eq__"), "__eq__", "Monoid.__eq__", defArgs s_Monoid_eq, defBody s_Monoid_eq, defScope s_Monoid_eq, [], []⟩
abbrev s_Monoid_size : Stmt := inClass (top 16) 2
def d_Monoid_size : He.DefD := ⟨("Monoid", some "size"), "size", "Monoid.size", defArgs s_Monoid_size, defBody s_Monoid_size, defScope s_Monoid_size, [], []⟩
abbrev s_Monoid_words : Stmt := inClass (top 16) 3
def d_Monoid_words : He.DefD := ⟨("Monoid", some "words"), "words", "Monoid.words", defArgs s_Monoid_words, defBody s_Monoid_words, defScope s_Monoid_words, [], []⟩
abbrev s_Monoid_left : Stmt := inClass (top 16) 4
def d_Monoid_left : He.DefD := ⟨("Monoid", some "left"), "left", "Monoid.left", defArgs s_Monoid_left, defBody s_Monoid_left, defScope s_Monoid_left, [], []⟩
abbrev s_Monoid_of_word : Stmt := inClass (top 16) 5
def d_Monoid_of_word : He.DefD := ⟨("Monoid", some "of_word"), "of_word", "Monoid.of_word", defArgs s_Monoid_of_word, defBody s_Monoid_of_word, defScope s_Monoid_of_word, [], []⟩
abbrev s_Monoid_times : Stmt := inClass (top 16) 6
def d_Monoid_times : He.DefD := ⟨("Monoid", some "times"), "times", "Monoid.times", defArgs s_Monoid_times, defBody s_Monoid_times, defScope s_Monoid_times, [], []⟩
abbrev s_Monoid_power : Stmt := inClass (top 16) 7
def d_Monoid_power : He.DefD := ⟨("Monoid", some "power"), "power", "Monoid.power", defArgs s_Monoid_power, defBody s_Monoid_power, defScope s_Monoid_power, [], []⟩
abbrev s_Monoid_cycle : Stmt := inClass (top 16) 8
def d_Monoid_cycle : He.DefD := ⟨("Monoid", some "cycle"), "cycle", "Monoid.cycle", defArgs s_Monoid_cycle, defBody s_Monoid_cycle, defScope s_Monoid_cycle, [], []⟩
abbrev s_Monoid_check_number : Stmt := inClass (top 16) 17
def d_Monoid_check_number : He.DefD := ⟨("Monoid", some "_check_number"), "_check_number", "Monoid._check_number", defArgs s_Monoid_check_number, defBody s_Monoid_check_number, defScope s_Monoid_check_number, [], []⟩
abbrev s_Monoid_check_word : Stmt := inClass (top 16) 18
def d_Monoid_check_word : He.DefD := ⟨("Monoid", some "_check_word"), "_check_word", "Monoid._check_word", defArgs s_Monoid_check_word, defBody s_Monoid_check_word, defScope s_Monoid_check_word, [], []⟩
abbrev s_check_form : Stmt := top 17
def d_check_form : He.DefD := ⟨("_check_form", none), "_check_form", "_check_form", defArgs s_check_form, defBody s_check_form, defScope s_check_form, [], []⟩
abbrev s_made_by : Stmt := top 18
def d_made_by : He.DefD := ⟨("_made_by", none), "_made_by", "_made_by", defArgs s_made_by, defBody s_made_by, defScope s_made_by, [], []⟩
abbrev s_left_table : Stmt := top 19
def d_left_table : He.DefD := ⟨("_left_table", none), "_left_table", "_left_table", defArgs s_left_table, defBody s_left_table, defScope s_left_table, [], []⟩
abbrev s_check_products : Stmt := top 20
def d_check_products : He.DefD := ⟨("_check_products", none), "_check_products", "_check_products", defArgs s_check_products, defBody s_check_products, defScope s_check_products, [], []⟩
abbrev s_letters_of : Stmt := top 21
def d_letters_of : He.DefD := ⟨("_letters_of", none), "_letters_of", "_letters_of", defArgs s_letters_of, defBody s_letters_of, defScope s_letters_of, [], []⟩
abbrev s_end : Stmt := top 22
def d_end : He.DefD := ⟨("_end", none), "_end", "_end", defArgs s_end, defBody s_end, defScope s_end, [], []⟩
abbrev s_products_from : Stmt := top 23
def d_products_from : He.DefD := ⟨("_products_from", none), "_products_from", "_products_from", defArgs s_products_from, defBody s_products_from, defScope s_products_from, [], []⟩
abbrev s_powers : Stmt := top 24
def d_powers : He.DefD := ⟨("_powers", none), "_powers", "_powers", defArgs s_powers, defBody s_powers, defScope s_powers, [], []⟩
abbrev s_L_source : Stmt := top 26
def d_L_source : He.DefD := ⟨("_law_source", none), "_law_source", "_law_source", defArgs s_L_source, defBody s_L_source, defScope s_L_source, [], []⟩
abbrev s_L_draw : Stmt := top 27
def d_L_draw : He.DefD := ⟨("_law_draw", none), "_law_draw", "_law_draw", defArgs s_L_draw, defBody s_L_draw, defScope s_L_draw, [], []⟩
abbrev s_L_pick : Stmt := top 28
def d_L_pick : He.DefD := ⟨("_law_pick", none), "_law_pick", "_law_pick", defArgs s_L_pick, defBody s_L_pick, defScope s_L_pick, [], []⟩
abbrev s_L_maps : Stmt := top 29
def d_L_maps : He.DefD := ⟨("_law_maps", none), "_law_maps", "_law_maps", defArgs s_L_maps, defBody s_L_maps, defScope s_L_maps, [], []⟩
abbrev s_L_table : Stmt := top 30
def d_L_table : He.DefD := ⟨("_law_table", none), "_law_table", "_law_table", defArgs s_L_table, defBody s_L_table, defScope s_L_table, [], []⟩
abbrev s_L_product : Stmt := top 31
def d_L_product : He.DefD := ⟨("_law_product", none), "_law_product", "_law_product", defArgs s_L_product, defBody s_L_product, defScope s_L_product, [], []⟩
abbrev s_L_powers : Stmt := top 32
def d_L_powers : He.DefD := ⟨("_law_powers", none), "_law_powers", "_law_powers", defArgs s_L_powers, defBody s_L_powers, defScope s_L_powers, [], []⟩
abbrev s_L_word : Stmt := top 33
def d_L_word : He.DefD := ⟨("_law_word", none), "_law_word", "_law_word", defArgs s_L_word, defBody s_L_word, defScope s_L_word, [], []⟩
abbrev s_L_words_right : Stmt := top 34
def d_L_words_right : He.DefD := ⟨("_law_words_right", none), "_law_words_right", "_law_words_right", defArgs s_L_words_right, defBody s_L_words_right, defScope s_L_words_right, [], []⟩
abbrev s_L_products_right : Stmt := top 35
def d_L_products_right : He.DefD := ⟨("_law_products_right", none), "_law_products_right", "_law_products_right", defArgs s_L_products_right, defBody s_L_products_right, defScope s_L_products_right, [], []⟩
abbrev s_law : Stmt := top 36
def d_law : He.DefD := ⟨("law", none), "law", "law", defArgs s_law, defBody s_law, defScope s_law, [], []⟩
def fn : List He.DefD := [d_is_number, d_is_between, d_is_sequence, d_is_word, d_FoldError_told, d_NoNumber_init, d_NoNumber_told, d_NoMonoid_init, d_NoMonoid_told, d_NoWord_init, d_NoWord_told, d_Monoid_init, d_Monoid_eq, d_Monoid_size, d_Monoid_words, d_Monoid_left, d_Monoid_of_word, d_Monoid_times, d_Monoid_power, d_Monoid_cycle, d_Monoid_check_number, d_Monoid_check_word, d_check_form, d_made_by, d_left_table, d_check_products, d_letters_of, d_end, d_products_from, d_powers, d_L_source, d_L_draw, d_L_pick, d_L_maps, d_L_table, d_L_product, d_L_powers, d_L_word, d_L_words_right, d_L_products_right, d_law]
def fa : List He.Fa := [.glo "FoldError", .glo "NoNumber", .glo "NoMonoid", .glo "NoWord", .glo "Monoid", .glo "is_number", .glo "is_between", .glo "is_sequence", .glo "is_word", .glo "_check_form", .glo "_made_by", .glo "_left_table", .glo "_check_products", .glo "_letters_of", .glo "_end", .glo "_products_from", .glo "_powers", .glo "_law_source", .glo "_law_draw", .glo "_law_pick", .glo "_law_maps", .glo "_law_table", .glo "_law_product", .glo "_law_powers", .glo "_law_word", .glo "_law_words_right", .glo "_law_products_right", .glo "law", .int "MOST_SIZE" 2000, .int "MOST_WORD" 100, .str "LETTERS" "abcdef", .free "ValueError", .free "abs", .free "all", .free "bool", .free "dict", .free "enumerate", .free "int", .free "isinstance", .free "len", .free "list", .free "range", .free "repr", .free "str", .free "tuple", .free "zip", .cls "Monoid", .mkr "Monoid", .meth "Monoid" "__eq__", .meth "Monoid" "size", .meth "Monoid" "words", .meth "Monoid" "left", .meth "Monoid" "of_word", .meth "Monoid" "times", .meth "Monoid" "power", .meth "Monoid" "cycle", .meth "Monoid" "_check_number", .meth "Monoid" "_check_word", .noat "Monoid" "right", .noat "Monoid" "_made", .noat "Monoid" "_left", .meth "NoNumber" "told", .meth "NoMonoid" "told", .meth "NoWord" "told", .exm "NoNumber" "FoldError" true, .exm "NoNumber" "NoNumber" true, .exm "NoNumber" "NoMonoid" false, .exm "NoNumber" "NoWord" false, .exm "NoMonoid" "FoldError" true, .exm "NoMonoid" "NoNumber" false, .exm "NoMonoid" "NoMonoid" true, .exm "NoMonoid" "NoWord" false, .exm "NoWord" "FoldError" true, .exm "NoWord" "NoNumber" false, .exm "NoWord" "NoMonoid" false, .exm "NoWord" "NoWord" true, .int "MOST_COUNT" 1000000000000000000000000000000]
def inis : List (Str × List Str) := [("NoNumber", ["number"]), ("NoMonoid", ["what", "place"]), ("NoWord", ["word"])]
def bares : List Str := []
def owns : List Str := ["Monoid"]
def opsl : List Str := []
def iniB (K : PySem.W.Frag) (p : Str × List Str) : Bool := Lf.errB K (He.ga K p.1) && (decide (PySem.W.findIn K (.ref (He.ga K p.1)) "__init__" = some (some (.ref (He.ma K (He.ga K p.1) "__init__")))) &&
  (decide (PySem.W.typeIn K (.ref (He.ma K (He.ga K p.1) "__init__")) = some (.type "function")) && (p.2.all fun f => decide (PySem.W.findIn K (.ref (He.ga K p.1)) f = some none))))
def isB (K : PySem.W.Frag) (x : Str) : Bool := decide (PySem.W.kitOne K (.ref (He.ga K x)) (.ref (He.ga K "FoldError")) = some true)
/-- an own class among all: what isinstance says of its instances, and of others -/
def ownB (K : PySem.W.Frag) (x : Str) : Bool := decide (PySem.W.findIn K (.ref (He.ga K x)) "__class__" = some (some (.builtin "object.__class__"))) && (decide (PySem.W.specialIn K (.builtin "object.__class__") "__get__" = some (some (.builtin "getset_descriptor.__get__"))) &&
  (decide (PySem.W.takesIn K (.builtin "object.__class__") = some true) && (decide (PySem.W.mroIn K (He.ga K x) (.type "object") = some true) &&
  ((["int", "bool", "str", "list", "tuple"].all fun b => decide (PySem.W.kitOne K (.ref (He.ga K x)) (.type b) = some false)) && ((["NoneType", "int", "bool", "str", "list", "tuple", "dict"].all fun b => decide (PySem.W.kitOne K (.type b) (.ref (He.ga K x)) = some false)) &&
  owns.all fun y => decide (PySem.W.kitOne K (.ref (He.ga K x)) (.ref (He.ga K y)) = some (decide (x = y))))))))
def ex (K : PySem.W.Frag) : Bool := (inis.all fun p => iniB K p && isB K p.1) && ((bares.all fun x => Lf.errB K (He.ga K x) && isB K x) && ((owns.all fun x => ownB K x) && opsl.all fun x => Lf.opsB K (owns.map fun y => He.ga K y) (He.ga K x)))
def loose : List Str := (["_wall", "is_number", "is_between", "is_sequence", "is_word", "FoldError", "NoNumber", "NoMonoid", "NoWord", "Monoid", "_check_form", "_made_by", "_left_table", "_check_products", "_letters_of", "_end", "_products_from", "_powers", "_law_source", "_law_draw", "_law_pick", "_law_maps", "_law_table", "_law_product", "_law_powers", "_law_word", "_law_words_right", "_law_products_right", "LETTERS", "MOST_COUNT"] : List Str) ++ (["MOST_SIZE", "MOST_WORD"] : List Str)
def tf : List He.Defn := []
end K14

set_option Elab.async false
set_option linter.all false
set_option maxRecDepth 100000
set_option maxHeartbeats 8000000
namespace K14
open PySem PySem.Spec PyProof.Rows L2 Lf
/-- a list or a tuple of xs at a -/
def Sq (K : PySem.W.Frag) (H : Hp) (a : Addr) (xs : List V) : Prop := SqL K H a xs ∨ SqT K H a xs
theorem Sq.same {K : PySem.W.Frag} {H H' : Hp} {a : Addr} {xs : List V} (h : Sq K H a xs) (e : Same H H') : Sq K H' a xs := h.imp (L2.Same.seq e) (Lf.SqT.same e)
theorem tyx_l {K : PySem.W.Frag} {H : Hp} {a : Addr} {xs : List V} (h : SqL K H a xs) : TyX K H (.ref a) (.type "list") := by
  rcases h with (h | ⟨o, h⟩) | ⟨o, its, n, hk, hc, _⟩
  · exact .base (.lst h)
  · exact .base (.frz h)
  · exact .kList hk hc
theorem tyx_t {K : PySem.W.Frag} {H : Hp} {a : Addr} {xs : List V} (h : SqT K H a xs) : TyX K H (.ref a) (.type "tuple") := by
  rcases h with (h | ⟨o, h⟩) | ⟨o, its, n, hk, hc, _⟩
  · exact .base (.tup h)
  · exact .fTuple h
  · exact .kTuple hk hc
theorem any_lt {K : PySem.W.Frag} : PySem.W.kitAny K (.type "list") [.type "list", .type "tuple"] = some true ∧ PySem.W.kitAny K (.type "tuple") [.type "list", .type "tuple"] = some true :=
  ⟨kitAny_cons (kit_ty (b := "list") (r := true) (by decide +kernel)) (fun h => nomatch h) (fun _ => rfl),
   kitAny_cons (kit_ty (b := "list") (r := false) (by decide +kernel)) (fun _ => kitAny_cons (kit_ty (b := "tuple") (r := true) (by decide +kernel)) (fun h => nomatch h) (fun _ => rfl)) (fun h => nomatch h)⟩
/-- whether it is an int; of what a row may hold -/
def Flat : V → Prop
  | .non => True
  | .bl _ => True
  | .int _ => True
  | .str _ => True
  | _ => False
def isNum : V → Bool
  | .int _ => true
  | _ => false
def ofInt : V → Bool
  | .int _ => true
  | .bl _ => true
  | _ => false
def ofBool : V → Bool
  | .bl _ => true
  | _ => false
theorem flat_ty {K : PySem.W.Frag} {H : Hp} {x : V} (h : Flat x) : ∃ n, TyX K H x (.type n) ∧ PySem.W.kitOne K (.type n) (.type "int") = some (ofInt x) ∧ PySem.W.kitOne K (.type n) (.type "bool") = some (ofBool x) := by
  cases x with
  | non => exact ⟨_, .base .non, kit_ty (show kitB "NoneType" "int" = some false by decide +kernel), kit_ty (show kitB "NoneType" "bool" = some false by decide +kernel)⟩
  | bl b => exact ⟨_, .base (.bl b), kit_ty (show kitB "bool" "int" = some true by decide +kernel), kit_ty (show kitB "bool" "bool" = some true by decide +kernel)⟩
  | int i => exact ⟨_, .base (.int i), kit_ty (show kitB "int" "int" = some true by decide +kernel), kit_ty (show kitB "int" "bool" = some false by decide +kernel)⟩
  | str s => exact ⟨_, .base (.str s), kit_ty (show kitB "str" "int" = some false by decide +kernel), kit_ty (show kitB "str" "bool" = some false by decide +kernel)⟩
  | byt _ => exact h.elim
  | flt _ => exact h.elim
  | ref _ => exact h.elim
  | ty _ => exact h.elim
def spNum : Sp := fun vs H Q _ => ∃ x, vs = [x] ∧ Flat x ∧ Q (.bl (isNum x)) H
/-- thing between least and most -/
def btw (lo hi : Int) : V → Bool
  | .int i => decide (lo ≤ i) && decide (i ≤ hi)
  | _ => false
def spBtw : Sp := fun vs H Q _ => ∃ x lo hi, vs = [x, .int lo, .int hi] ∧ Flat x ∧ Q (.bl (btw lo hi x)) H
def spSeq (K : PySem.W.Frag) : Sp := fun vs H Q _ => ∃ a xs lo hi, vs = [.ref a, .int lo, .int hi] ∧ Sq K H a xs ∧ ∀ H', Same H H' → Q (.bl (decide (lo ≤ (xs.length : Int)) && decide ((xs.length : Int) ≤ hi))) H'
section
variable {P : Program} {w : World} {K : PySem.W.Frag} {mg : Str → Option Value} {base : Heap}
theorem scNum : FnScope ["thing"] ["thing"] (defScope s_is_number) := ⟨rfl, rfl, rfl, by decide +kernel, rfl, by decide +kernel, by decide +kernel⟩
theorem ok_num {f : Addr} {fd : FuncData} {q : Str} (F : FunD K "is_number" q (defArgs s_is_number) (defBody s_is_number) (defScope s_is_number) [] [] f fd) (zI : mg "isinstance" = none) (zi : mg "int" = none) (zb : mg "bool" = none) :
    FnOk P w K mg base CX0 1 f fd ["thing"] spNum := by
  refine F.ok scNum (fun vs H Q E h => ?_) (fun cdv A outer s H vs Q E hr h => ?_)
  · obtain ⟨x, rfl, _⟩ := h
    rfl
  · obtain ⟨x, rfl, fx, k⟩ := h
    refine ⟨_, PSs.nox (pss_one (ps_ret (pe_and (pe_callB call_isi rfl zI PyProof.Rows.boot_isinstance (pa_cons (pv 0) (pa_cons (pe_bltn (v := .ty "int") rfl zi PyProof.Rows.boot_int rfl) pa_nil)))
      (pe_one (pe_not (pe_callB call_isi rfl zI PyProof.Rows.boot_isinstance (pa_cons (pv 0) (pa_cons (pe_bltn (v := .ty "bool") rfl zb PyProof.Rows.boot_bool rfl) pa_nil)))))))), ?_⟩
    obtain ⟨n, ty, k1, k2⟩ := flat_ty (K := K) (H := H) fx
    refine ⟨_, rfl, x, .ty "int", _, _, _, rfl, .ty _, ty, k1, _, rfl, ?_⟩
    cases x with
    | int i => exact ⟨_, rfl, _, .ty "bool", _, _, _, rfl, .ty _, ty, k2, _, rfl, k⟩
    | bl b => exact ⟨_, rfl, _, .ty "bool", _, _, _, rfl, .ty _, ty, k2, _, rfl, k⟩
    | non => exact k
    | str s => exact k
    | byt _ => exact fx.elim
    | flt _ => exact fx.elim
    | ref _ => exact fx.elim
    | ty _ => exact fx.elim
theorem scBtw : FnScope ["thing", "least", "most"] ["thing", "least", "most"] (defScope s_is_between) := ⟨rfl, rfl, rfl, by decide +kernel, rfl, by decide +kernel, by decide +kernel⟩
theorem ok_btw {f : Addr} {fd : FuncData} {q : Str} (F : FunD K "is_between" q (defArgs s_is_between) (defBody s_is_between) (defScope s_is_between) [] [] f fd) (DN : Def P w K mg base CX0 1 "is_number" ["thing"] spNum) :
    FnOk P w K mg base CX0 2 f fd ["thing", "least", "most"] spBtw := by
  refine F.ok scBtw (fun vs H Q E h => ?_) (fun cdv A outer s H vs Q E hr h => ?_)
  · obtain ⟨x, lo, hi, rfl, _⟩ := h
    rfl
  · obtain ⟨x, lo, hi, rfl, fx, k⟩ := h
    refine ⟨_, PSs.nox (pss_one (ps_ret (pe_and (pe_def DN hr pass0 rfl (pa_cons (pv 0) pa_nil)) (pe_one (pe_chain op_le op_le (pv 1) (pv 0) (pv 2)))))), ?_⟩
    refine ⟨_, rfl, x, rfl, fx, _, rfl, ?_⟩
    cases x with
    | int i =>
      refine ⟨_, rfl, _, rfl, _, _, rfl, rfl, _, rfl, ?_⟩
      refine ite2 (fun c => ⟨_, rfl, _, _, rfl, rfl, ?_⟩) (fun c => ?_)
      · have z : btw lo hi (.int i) = decide (i ≤ hi) := by show (decide (lo ≤ i) && decide (i ≤ hi)) = _; rw [c]; rfl
        rw [z] at k
        exact k
      · have z : btw lo hi (.int i) = false := by
          show (decide (lo ≤ i) && decide (i ≤ hi)) = false
          cases h : decide (lo ≤ i) with
          | true => exact absurd h c
          | false => rfl
        rw [z] at k
        exact k
    | bl b => exact k
    | non => exact k
    | str s => exact k
    | byt _ => exact fx.elim
    | flt _ => exact fx.elim
    | ref _ => exact fx.elim
    | ty _ => exact fx.elim
theorem scSeq : FnScope ["thing", "least", "most"] ["thing", "least", "most"] (defScope s_is_sequence) := ⟨rfl, rfl, rfl, by decide +kernel, rfl, by decide +kernel, by decide +kernel⟩
theorem ok_seq {f : Addr} {fd : FuncData} {q : Str} (F : FunD K "is_sequence" q (defArgs s_is_sequence) (defBody s_is_sequence) (defScope s_is_sequence) [] [] f fd) (zI : mg "isinstance" = none) (zl : mg "list" = none) (zt : mg "tuple" = none) (zn : mg "len" = none) :
    FnOk P w K mg base CX0 1 f fd ["thing", "least", "most"] (spSeq K) := by
  refine F.ok scSeq (fun vs H Q E h => ?_) (fun cdv A outer s H vs Q E hr h => ?_)
  · obtain ⟨a, xs, lo, hi, rfl, _⟩ := h
    rfl
  · obtain ⟨a, xs, lo, hi, rfl, sq, k⟩ := h
    refine ⟨_, PSs.nox (pss_one (ps_ret (pe_and (pe_callB call_isiT rfl zI PyProof.Rows.boot_isinstance (pa_cons (pv 0) (pa_cons (pe_tup (pa_cons (pe_bltn (v := .ty "list") rfl zl PyProof.Rows.boot_list rfl) (pa_cons (pe_bltn (v := .ty "tuple") rfl zt PyProof.Rows.boot_tuple rfl) pa_nil))) pa_nil)))
      (pe_one (pe_chain op_le op_le (pv 1) (pe_callB call_len_seq rfl zn boot_len (pa_cons (pv 0) pa_nil)) (pv 2)))))), ?_⟩
    refine ⟨_, rfl, (by show 2 ≤ sizeLine; decide), fun p np => ?_⟩
    have sm := same_upd (o := .tup [.ty "list", .ty "tuple"]) np
    have sq' := sq.same sm
    have ty : ∃ t, TyX K (upd H p (.tup [.ty "list", .ty "tuple"])) (.ref a) t ∧ PySem.W.kitAny K t [.type "list", .type "tuple"] = some true := by
      rcases sq' with z | z
      · exact ⟨_, tyx_l z, any_lt.1⟩
      · exact ⟨_, tyx_t z, any_lt.2⟩
    obtain ⟨t, ty, ka⟩ := ty
    refine ⟨.ref a, p, _, t, _, true, rfl, upd_same, .cons (.ty _) (.cons (.ty _) .nil), ty, ka, true, rfl, ?_⟩
    refine ifT rfl ⟨_, rfl, _, rfl, a, xs, rfl, sq', _, _, rfl, rfl, _, rfl, ?_⟩
    have kk := k _ sm
    refine ite2 (fun c => ⟨_, rfl, _, _, rfl, rfl, ?_⟩) (fun c => ?_)
    · rw [c] at kk
      exact kk
    · have z : decide (lo ≤ (xs.length : Int)) = false := by
        cases h : decide (lo ≤ (xs.length : Int)) with
        | true => exact absurd h c
        | false => rfl
      rw [z] at kk
      exact kk
end
end K14

set_option Elab.async false
set_option linter.all false
set_option maxRecDepth 100000
set_option maxHeartbeats 8000000
namespace K14
open PySem PySem.Spec PyProof.Rows L2 Lf
/-- a source of draws of which at most n were mixed -/
def Src (H : Hp) (l : Addr) (n : Nat) : Prop := ∃ a b c : Int, H l = some (.lst [.int a, .int b, .int c]) ∧ 0 ≤ a ∧ (0 ≤ b ∧ b < 2147483587) ∧ 0 ≤ c ∧ c ≤ n
theorem yesT {σ : L2.St} {H : Hp} {A B : Hp → Prop} (h : A H) : tYes σ H fun b H3 => if b = true then A H3 else B H3 := by
  show if true = true then A H else B H
  rw [if_pos rfl]
  exact h
theorem Src.up {H : Hp} {l : Addr} {n m : Nat} (h : Src H l n) (e : n ≤ m) : Src H l m := by
  obtain ⟨a, b, c, h1, h2, h3, h4, h5⟩ := h
  exact ⟨a, b, c, h1, h2, h3, h4, by omega⟩
theorem Src.same {H H' : Hp} {l : Addr} {n : Nat} (h : Src H l n) (e : Same H H') : Src H' l n := by
  obtain ⟨a, b, c, h1, h2⟩ := h
  exact ⟨a, b, c, e _ _ h1, h2⟩
theorem great_div {a m : Int} (m0 : 0 < m) (m1 : m ≤ 1000000000000000000000000000000) : CDivW a m := by
  have e : (2 : Nat) ^ 100 = 1267650600228229401496703205376 := by decide +kernel
  refine wide_div (b := 100) m0 ?_ (by decide) (by decide)
  rw [e]
  omega
def spSource : Sp := fun vs H Q _ => ∃ n : Int, vs = [.int n] ∧ ∀ l H', H l = none → Same H H' → Src H' l 0 → Q (.ref l) H'
def spDraw : Sp := fun vs H Q _ => ∃ (l : Addr) (n : Nat) (m : Int), vs = [.ref l, .int m] ∧ Src H l n ∧ n ≤ 1000000 ∧ 0 < m ∧ m ≤ 1000000000000000000000000000000 ∧ ∀ (k : Int) H', 0 ≤ k → k < m → But l H H' → Src H' l (n + 1) → Q (.int k) H'
section
variable {P : Program} {w : World} {K : PySem.W.Frag} {mg : Str → Option Value} {base : Heap}
theorem scSource : FnScope ["_law_cell"] ["_law_cell"] (defScope s_L_source) := ⟨rfl, rfl, rfl, by decide +kernel, rfl, by decide +kernel, by decide +kernel⟩
theorem ok_source {f : Addr} {fd : FuncData} {q : Str} (F : FunD K "_law_source" q (defArgs s_L_source) (defBody s_L_source) (defScope s_L_source) [] [] f fd) (zA : mg "abs" = none) (zI : mg "int" = none) :
    FnOk P w K mg base CX0 1 f fd ["_law_cell"] spSource := by
  refine F.ok scSource (fun vs H Q E h => ?_) (fun cdv A outer s H vs Q E hr h => ?_)
  · obtain ⟨n, rfl, _⟩ := h
    rfl
  · obtain ⟨n, rfl, k⟩ := h
    refine ⟨_, PSs.nox (pss_cons (ps_set (i := 0) scSource.nd rfl (.inl rfl) (pe_callB call_abs rfl zA boot_abs (pa_cons (pv 0) pa_nil)))
      (pss_one (ps_ret (pe_lst (pa_cons (pe_op op_mul (pv 0) (pe_callTy call_int1 rfl zI boot_int (pa_cons (pe_cmpR op_ge (pv 0) (pe_op op_pow pe_int pe_int) (nomark _)) pa_nil)))
        (pa_cons (pe_op op_mod (pe_callTy call_int1 rfl zI boot_int (pa_cons (pv 0) pa_nil)) pe_int)
        (pa_cons pe_int pa_nil))))))), ?_⟩
    refine ⟨_, rfl, n, rfl, ?_⟩
    have nn : 0 ≤ (if n < 0 then -n else n) := by split <;> omega
    generalize (if n < 0 then -n else n) = a at nn ⊢
    refine ⟨_, rfl, _, rfl, 10, 18, rfl, rfl, ⟨by decide, by decide, by decide⟩, a, _, rfl, rfl, .inr ⟨_, rfl, a, _, rfl, rfl, .inr ?_, ?_⟩⟩
    · split <;> decide
    refine ⟨_, rfl, .inl ⟨a, rfl, a, 2147483587, rfl, rfl, (show (0 : Int) < 2147483587 by decide), ?_⟩⟩
    refine ⟨(by show 3 ≤ sizeLine; decide), fun l hl => k l _ hl (same_upd hl) ⟨_, _, _, upd_same, ?_, ?_, by decide, by decide⟩⟩
    · split
      · omega
      · simp
    · constructor <;> omega
theorem scDraw : FnScope ["_law_source_here", "_law_many", "_law_digit", "_law_mixed"] ["_law_source_here", "_law_many"] (defScope s_L_draw) := ⟨rfl, rfl, rfl, by decide +kernel, rfl, by decide +kernel, by decide +kernel⟩
theorem ok_draw {f : Addr} {fd : FuncData} {q : Str} (F : FunD K "_law_draw" q (defArgs s_L_draw) (defBody s_L_draw) (defScope s_L_draw) [] [] f fd) (zI : mg "int" = none) :
    FnOk P w K mg base CX0 1 f fd ["_law_source_here", "_law_many"] spDraw := by
  refine F.ok scDraw (fun vs H Q E h => ?_) (fun cdv A outer s H vs Q E hr h => ?_)
  · obtain ⟨l, n, m, rfl, _⟩ := h
    rfl
  · obtain ⟨l, n, m, rfl, ⟨a, b, c, hl, ha, ⟨hb1, hb2⟩, hc1, hc2⟩, n1, m0, m1, k⟩ := h
    have gI (i : Int) := i
    refine ⟨_, PSs.nox (pss_cons (ps_if (pt_cmpR op_gt (pe_ix ix_list (pv 0) pe_int (fun _ _ => rfl)) pe_int (nomark _))
        (pss_cons (ps_set (i := 2) scDraw.nd rfl (.inl rfl) (pe_op op_mod (pe_callTy call_int1 rfl zI boot_int (pa_cons (pe_ix ix_list (pv 0) pe_int (fun _ _ => rfl)) pa_nil)) (pv 1)))
        (pss_cons (ps_asg (pe_op op_fdivW (pe_ix ix_list (pv 0) pe_int (fun _ _ => rfl)) (pv 1)) (pg_sub (pv 0) pe_int set_list))
        (pss_one (ps_ret (pv 2))))) pss_nil)
      (pss_cons (ps_asg (pe_op op_add (pe_ix ix_list (pv 0) pe_int (fun _ _ => rfl)) pe_int) (pg_sub (pv 0) pe_int set_list))
      (pss_cons (ps_set (i := 3) scDraw.nd rfl (.inl rfl) (pe_op op_mod (pe_callTy call_int1 rfl zI boot_int (pa_cons (pe_op op_mul (pe_op op_add (pe_op op_add (pe_ix ix_list (pv 0) pe_int (fun _ _ => rfl)) (pe_op op_mul pe_int (pe_ix ix_list (pv 0) pe_int (fun _ _ => rfl)))) pe_int) pe_int) pa_nil)) pe_int))
      (pss_cons (ps_set (i := 3) scDraw.nd rfl (.inl rfl) (pe_op op_mod (pe_callTy call_int1 rfl zI boot_int (pa_cons (pe_op op_mul (pv 3) (pe_op op_add (pe_op op_fdiv (pv 3) pe_int) pe_int)) pa_nil)) pe_int))
      (pss_one (ps_ret (pe_op op_mod (pe_callTy call_int1 rfl zI boot_int (pa_cons (pe_op op_fdiv (pe_op op_mod (pe_callTy call_int1 rfl zI boot_int (pa_cons (pe_op op_mul (pv 3) (pe_op op_add (pe_op op_fdiv (pv 3) pe_int) pe_int)) pa_nil)) pe_int) pe_int) pa_nil)) (pv 1)))))))), ?_⟩
    have at0 : atI [V.int a, V.int b, V.int c] 0 = some (.int a) := rfl
    refine ⟨_, rfl, l, _, 0, _, rfl, rfl, SqL.of hl, at0, a, 0, rfl, rfl, _, rfl, ?_⟩
    refine ite2 (fun h0 => ?_) (fun h0 => ?_)
    · refine ⟨_, rfl, l, _, 0, _, rfl, rfl, SqL.of hl, at0, .inl ⟨a, rfl, _, rfl, a, m, rfl, rfl, m0, ?_⟩⟩
      refine ⟨_, rfl, l, _, 0, _, rfl, rfl, SqL.of hl, at0, _, rfl, a, m, rfl, rfl, great_div m0 m1, ?_⟩
      refine ⟨_, rfl, l, _, 0, 0, rfl, rfl, hl, rfl, ?_⟩
      exact ⟨_, rfl, k _ _ (Int.emod_nonneg _ (by omega)) (Int.emod_lt_of_pos _ m0) But.upd ⟨_, b, c, upd_same, Int.ediv_nonneg ha (by omega), ⟨hb1, hb2⟩, hc1, by omega⟩⟩
    · have at2 : atI [V.int a, V.int b, V.int c] 2 = some (.int c) := rfl
      have at1' : atI [V.int a, V.int b, V.int (c + 1)] 1 = some (.int b) := rfl
      have at2' : atI [V.int a, V.int b, V.int (c + 1)] 2 = some (.int (c + 1)) := rfl
      refine ⟨_, rfl, l, _, 2, _, rfl, rfl, SqL.of hl, at2, c, 1, rfl, rfl, _, rfl, l, _, 2, 2, rfl, rfl, hl, rfl, ?_⟩
      have hl' : L2.upd H l (.lst [V.int a, V.int b, V.int (c + 1)]) l = some (.lst [V.int a, V.int b, V.int (c + 1)]) := upd_same
      have bt : But l H (L2.upd H l (.lst [V.int a, V.int b, V.int (c + 1)])) := But.upd
      refine ⟨_, rfl, l, _, 1, _, rfl, rfl, SqL.of hl', at1', _, rfl, l, _, 2, _, rfl, rfl, SqL.of hl', at2', 7919, (c + 1), rfl, rfl, .inl ⟨by omega, by omega⟩, b, _, rfl, rfl, _, 13, rfl, rfl, _, 48271, rfl, rfl, .inl ⟨by omega, by omega⟩, .inl ⟨_, rfl, _, 2147483629, rfl, rfl, (show (0 : Int) < 2147483629 by decide), ?_⟩⟩
      generalize hz : (b + 7919 * (c + 1) + 13) * 48271 = z
      have z1 : 0 ≤ z % 2147483629 := Int.emod_nonneg _ (by decide)
      have z2 : z % 2147483629 < 2147483629 := Int.emod_lt_of_pos _ (by decide)
      obtain ⟨u, hu⟩ : ∃ u, z % 2147483629 = u := ⟨_, rfl⟩
      rw [hu] at z1 z2
      refine ⟨_, rfl, _, rfl, u, 1019, congrArg V.int hu, rfl, ⟨by decide, by decide⟩, _, 69621, rfl, rfl, u, _, congrArg V.int hu, rfl, .inl ⟨by omega, by omega⟩, .inl ⟨_, rfl, _, 2147483579, rfl, rfl, (show (0 : Int) < 2147483579 by decide), ?_⟩⟩
      generalize hy : u * (u / 1019 + 69621) = y
      have y1 : 0 ≤ y % 2147483579 := Int.emod_nonneg _ (by decide)
      have y2 : y % 2147483579 < 2147483579 := Int.emod_lt_of_pos _ (by decide)
      obtain ⟨v, hv⟩ : ∃ v, y % 2147483579 = v := ⟨_, rfl⟩
      rw [hv] at y1 y2
      refine ⟨_, rfl, _, rfl, v, 2003, congrArg V.int hv, rfl, ⟨by decide, by decide⟩, _, 40692, rfl, rfl, v, _, congrArg V.int hv, rfl, .inl ⟨by omega, by omega⟩, .inl ⟨_, rfl, _, 2147483549, rfl, rfl, (show (0 : Int) < 2147483549 by decide), ?_⟩⟩
      refine ⟨_, 3, rfl, rfl, ⟨by decide, by decide⟩, .inl ⟨_, rfl, _, rfl, _, m, rfl, rfl, m0, ?_⟩⟩
      exact k _ _ (Int.emod_nonneg _ (by omega)) (Int.emod_lt_of_pos _ m0) But.upd ⟨a, b, c + 1, upd_same, ha, ⟨hb1, hb2⟩, by omega, by omega⟩
end
end K14

set_option Elab.async false
set_option linter.all false
set_option maxRecDepth 100000
set_option maxHeartbeats 8000000
namespace K14
open PySem PySem.Spec PyProof.Rows L2 Lf
/-- what the head says, for one module -/
structure Txt (P : Program) (w : World) (K : PySem.W.Frag) (mg : Str → Option Value) (base : Heap) : Prop where
  d : He.SaysD fa fn K
  m : ex K = true
  gl : ∀ (i : Nat) (x : Str), fa[i]? = some (.glo x) → mg x = some (.ref (He.ga K x))
  fr : ∀ (i : Nat) (x : Str), fa[i]? = some (.free x) → mg x = none
  it : ∀ (i : Nat) (x : Str) (v : Int), fa[i]? = some (.int x v) → ∃ t, mg x = some (.int v t)
  st : ∀ (i : Nat) (x v : Str), fa[i]? = some (.str x v) → ∃ t, mg x = some (.str v t)
theorem pe_gstr {X : Cx} {x v : Str} {t : Tok} {pos : Pos} (hg : Gl X x) (hm : X.mg x = some (.str v t)) (hd : (x == ("__debug__" : Str)) = false := by decide +kernel) : PE X (.Name x pos) (tC (.str v)) := pe_glob hg hm ⟨t, rfl⟩ hd
/-- numbers as values -/
abbrev nv (i : Nat) : V := .int (i : Nat)
/-- the rows at r: lists -/
structure RowsL (K : PySem.W.Frag) (H : Hp) (r : Addr) (rows : List (List Nat)) : Prop where
  ex : ∃ as : List Addr, SqL K H r (as.map V.ref) ∧ as.length = rows.length ∧ ∀ (i : Nat) a row, as[i]? = some a → rows[i]? = some row → SqL K H a (row.map nv)
/-- .. tuples -/
structure RowsT (K : PySem.W.Frag) (H : Hp) (r : Addr) (rows : List (List Nat)) : Prop where
  ex : ∃ as : List Addr, SqT K H r (as.map V.ref) ∧ as.length = rows.length ∧ ∀ (i : Nat) a row, as[i]? = some a → rows[i]? = some row → SqT K H a (row.map nv)
theorem RowsL.same {K : PySem.W.Frag} {H H' : Hp} {r : Addr} {rows : List (List Nat)} (h : RowsL K H r rows) (e : Same H H') : RowsL K H' r rows := by
  obtain ⟨as, a, b, c⟩ := h.ex
  exact ⟨as, L2.Same.seq e a, b, fun i x row h1 h2 => L2.Same.seq e (c i x row h1 h2)⟩
theorem RowsT.same {K : PySem.W.Frag} {H H' : Hp} {r : Addr} {rows : List (List Nat)} (h : RowsT K H r rows) (e : Same H H') : RowsT K H' r rows := by
  obtain ⟨as, a, b, c⟩ := h.ex
  exact ⟨as, Lf.SqT.same e a, b, fun i x row h1 h2 => Lf.SqT.same e (c i x row h1 h2)⟩
theorem map_get {α β : Type} {f : α → β} {l : List α} {i : Nat} {y : β} (h : (l.map f)[i]? = some y) : ∃ a, l[i]? = some a ∧ y = f a := by
  rw [List.getElem?_map] at h
  cases e : l[i]? with
  | none => rw [e] at h; cases h
  | some a => rw [e] at h; exact ⟨a, rfl, (Option.some.inj h).symm⟩
theorem get_map {α β : Type} {f : α → β} {l : List α} {i : Nat} {a : α} (h : l[i]? = some a) : (l.map f)[i]? = some (f a) := by rw [List.getElem?_map, h]; rfl
theorem get_lt {α : Type} {l : List α} {i : Nat} {a : α} (h : l[i]? = some a) : i < l.length := (List.getElem?_eq_some_iff.mp h).1
theorem lt_get {α : Type} {l : List α} {i : Nat} (h : i < l.length) : ∃ a, l[i]? = some a := ⟨_, List.getElem?_eq_getElem h⟩
theorem seq_dec {lo hi : Int} {n : Nat} (a : lo ≤ (n : Int)) (b : (n : Int) ≤ hi) : (decide (lo ≤ (n : Int)) && decide ((n : Int) ≤ hi)) = true := by
  rw [decide_eq_true a, decide_eq_true b]
  rfl
theorem btw_nv {i n : Nat} (h : i < n) : btw 0 ((n : Int) - 1) (nv i) = true := by
  show (decide ((0 : Int) ≤ (i : Nat)) && decide (((i : Nat) : Int) ≤ (n : Int) - 1)) = true
  rw [decide_eq_true (by omega), decide_eq_true (by omega)]
  rfl
theorem all_true {n : Nat} : (List.replicate n true).all id = true := by
  rw [List.all_eq_true]
  intro x hx
  exact (List.mem_replicate.mp hx).2
/-- the form of a table -/
def Form (rows : List (List Nat)) (w : Nat) : Prop := 1 ≤ rows.length ∧ rows.length ≤ 2000 ∧ 1 ≤ w ∧ w ≤ 6 ∧ ∀ row ∈ rows, row.length = w ∧ ∀ t ∈ row, t < rows.length
def spForm (K : PySem.W.Frag) : Sp := fun vs H Q _ => ∃ r rows w, vs = [.ref r] ∧ RowsL K H r rows ∧ Form rows w ∧ ∀ H', Same H H' → Q .non H'
abbrev rLenS (K : PySem.W.Frag) : List V → Hp → VK → Prop := fun xs H Q => ∃ p ys, xs = [V.ref p] ∧ (SqL K H p ys ∨ SqT K H p ys) ∧ Q (V.int ys.length) H
abbrev teForm (K : PySem.W.Frag) : TE := fun σ H Q => (tCons (tVar 3) (tCons (tC (.int 0)) (tCons (tOp (rI0 fun i j => .int (i - j)) (tCB (rLenS K) (tCons (tVar 0) tNil)) (tC (.int 1))) tNil))) σ H fun vs H1 => spBtw vs H1 Q E0
section
variable {P : Program} {w : World} {K : PySem.W.Frag} {mg : Str → Option Value} {base : Heap}
theorem scForm : FnScope ["right", "place", "row", "entry"] ["right"] (defScope s_check_form) := ⟨rfl, rfl, rfl, by decide +kernel, rfl, by decide +kernel, by decide +kernel⟩
theorem ok_form {f : Addr} {fd : FuncData} {q : Str} (F : FunD K "_check_form" q (defArgs s_check_form) (defBody s_check_form) (defScope s_check_form) [] [] f fd) (T : Txt P w K mg base)
    (DS : Def P w K mg base CX0 1 "is_sequence" ["thing", "least", "most"] (spSeq K)) (DB : Def P w K mg base CX0 2 "is_between" ["thing", "least", "most"] spBtw) :
    FnOk P w K mg base CX0 3 f fd ["right"] (spForm K) := by
  obtain ⟨tM, gM⟩ := T.it 28 "MOST_SIZE" 2000 rfl
  obtain ⟨tL, gL⟩ := T.st 30 "LETTERS" "abcdef" rfl
  have zE : mg "enumerate" = none := T.fr 36 "enumerate" rfl
  have zn : mg "len" = none := T.fr 39 "len" rfl
  have za : mg "all" = none := T.fr 33 "all" rfl
  refine F.ok scForm (fun vs H Q E h => ?_) (fun cdv A outer s H vs Q E hr h => ?_)
  · obtain ⟨r, rows, wd, rfl, _⟩ := h
    rfl
  · obtain ⟨r, rows, wd, rfl, R, ⟨n1, n2, w1, w6, row⟩, k⟩ := h
    have r1 : Room 1 _ := hr.mono (by decide)
    refine ⟨_, PSs.nox (pss_cons (ps_if (pt_not (pt_val (pe_def DS r1 pass0 rfl (pa_cons (pv 0) (pa_cons pe_int (pa_cons (pe_gint rfl gM) pa_nil)))))) (pss_one ps_never) pss_nil)
      (pss_one (ps_for PassesOwn.never rfl (pi_enumA rfl zE (pv 0)) (pg_tup rfl (pgs_cons (pg_name (i := 1) scForm.nd rfl (.inl rfl)) (pgs_cons (pg_name (i := 2) scForm.nd rfl (.inl rfl)) pgs_nil)))
        (pss_cons (ps_if (PW.pt (pw_or (pt_not (pt_val (pe_def DS r1 pass0 rfl (pa_cons (pv 2) (pa_cons pe_int (pa_cons (pe_callB call_len_str rfl zn boot_len (pa_cons (pe_gstr rfl gL) pa_nil)) pa_nil))))))
            (pw_or1 (pt_cmpR op_ne (pe_callB call_len_seq rfl zn boot_len (pa_cons (pv 2) pa_nil)) (pe_callB call_len_seq rfl zn boot_len (pa_cons (pe_ix ix_list (pv 0) pe_int (fun _ _ => rfl)) pa_nil)) (nomark _))))) (pss_one ps_never) pss_nil)
        (pss_one (ps_if (pt_not (pt_val (pe_callB (cr_all rfl) rfl za (by decide +kernel) (pa_cons (pe_lc (own := [("entry", 3)]) (g := gName 3) (te := teForm K) (by rfl) scForm.nd (pi_list (pv 2)) (blkOk_by (own := [("entry", 3)]) (N := ["right", "place", "row", "entry"]) (sc := defScope s_check_form) (by decide +kernel)) (fun _ _ _ _ _ => pg_name (i := 3) scForm.nd rfl (Or.inl rfl)) (fun _ _ _ _ _ => pts_nil)
            (fun _ _ _ _ _ => by exact pe_def DB hr pass0 rfl (pa_cons (pv 3) (pa_cons pe_int (pa_cons (pe_op op_sub (pe_callB call_len_seq rfl zn boot_len (pa_cons (pv 0) pa_nil)) pe_int) pa_nil))))) pa_nil)))) (pss_one ps_never) pss_nil)))))), ?_⟩
    obtain ⟨as, sr, la, srow⟩ := R.ex
    have ln : (as.map V.ref).length = rows.length := by rw [List.length_map, la]
    refine ⟨_, rfl, r, as.map V.ref, 1, 2000, rfl, .inl sr, fun H1 s1 => ⟨_, rfl, ?_⟩⟩
    rw [seq_dec (by omega) (by omega)]
    refine ifF rfl ?_
    refine ⟨_, rfl, r, as.map V.ref, rfl, .inl ⟨L2.Same.seq s1 sr, ?_⟩⟩
    have wk : Walk (Ite K r) (as.map V.ref).length (fun H2 => Same H H2) (fun i H v H' => ∃ T x, v = .ref T ∧ H T = none ∧ H' = L2.upd H T (.tup [.int (i : Nat), x]) ∧ (as.map V.ref)[i]? = some x) := (walk_enumL (xs := as.map V.ref)).mono (fun H s => L2.Same.seq s sr) (fun i H x H' _ _ y => y)
    refine for_it wk (fun i σ H2 => ∃ v1 v2 : Option V, σ = [some (.ref r), v1, v2, none] ∧ Same H H2) ⟨none, none, rfl, s1⟩ (fun i σ H2 _ ⟨_, _, _, s⟩ => s) ?_ ?_
    · rintro i x σ H2 H3 hi ⟨v1, v2, rfl, s2⟩ ⟨T', y, rfl, nT, rfl, hy⟩
      obtain ⟨a, ha, rfl⟩ := map_get hy
      have hi2 : i < rows.length := by rw [← ln]; exact hi
      obtain ⟨rw_, hrw⟩ := lt_get hi2
      have sa := srow i a rw_ ha hrw
      obtain ⟨lw, ent⟩ := row rw_ (List.mem_of_getElem? hrw)
      refine ⟨T', _, rfl, SqT.of upd_same, rfl, _, _, rfl, _, _, rfl, rfl, ?_⟩
      have s3 := s2.trans (same_upd (o := .tup [.int (i : Nat), .ref a]) nT)
      generalize L2.upd H2 T' (.tup [.int (i : Nat), .ref a]) = H3 at s3 ⊢
      refine ⟨_, rfl, _, rfl, (by decide +kernel), a, rw_.map nv, 1, 6, rfl, .inl (L2.Same.seq s3 sa), fun H4 s4 => ⟨_, rfl, ?_⟩⟩
      rw [List.length_map, seq_dec (by omega) (by omega)]
      refine ifF rfl ?_
      have s5 := s3.trans s4
      obtain ⟨a0, h0⟩ := lt_get (show 0 < as.length by omega)
      obtain ⟨rw0, hrw0⟩ := lt_get (show 0 < rows.length by omega)
      have lw0 := (row rw0 (List.mem_of_getElem? hrw0)).1
      refine ⟨_, rfl, a, rw_.map nv, rfl, .inl (L2.Same.seq s5 sa), _, rfl, r, as.map V.ref, 0, .ref a0, rfl, rfl, L2.Same.seq s5 sr, ?_, a0, rw0.map nv, rfl, .inl (L2.Same.seq s5 (srow 0 a0 rw0 h0 hrw0)), rfl, _, rfl, ?_⟩
      · exact atI_nat (j := 0) (get_map h0)
      refine ifF (by simp [lw, lw0]) ?_
      refine ⟨_, rfl, a, rfl, ⟨_, L2.Same.seq s5 sa⟩, fun D nD => ?_⟩
      refine lc_list (K := K) (a := a) (xs := rw_.map nv) (fun j Hc => But D H4 Hc ∧ Hc D = some (.lst (List.replicate j (V.bl true)))) ⟨But.upd, upd_same⟩ (fun j Hc _ ⟨bc, _⟩ => L2.Same.seq (Same.but (L2.Same.refl _) nD bc) (L2.Same.seq s5 sa)) (fun j z Hc hz ⟨bc, hD⟩ => ?_) (fun Hc ⟨bc, hD⟩ => ?_)
      · obtain ⟨t, ht, rfl⟩ := map_get hz
        refine ⟨rfl, yesT ?_⟩
        have sc := s5.trans (Same.but (L2.Same.refl _) nD bc)
        refine ⟨_, rfl, _, rfl, r, as.map V.ref, rfl, .inl (L2.Same.seq sc sr), _, 1, rfl, rfl, nv t, 0, _, rfl, True.intro, ?_⟩
        rw [ln, btw_nv (ent t (List.mem_of_getElem? ht))]
        refine ⟨_, hD, ?_, But.trans bc But.upd, ?_⟩
        · rw [List.length_replicate]
          have := get_lt ht
          show j < 16777216
          omega
        · rw [upd_same, List.replicate_succ']
      · rw [List.length_map] at hD
        have sc := s5.trans (Same.but (L2.Same.refl _) nD bc)
        refine ⟨D, List.replicate rw_.length true, rfl, SqL.of (by rw [List.map_replicate]; exact hD), ?_⟩
        rw [all_true]
        refine ⟨_, rfl, ?_⟩
        exact ifF rfl ⟨_, _, rfl, sc⟩
    · rintro σ H2 ⟨v1, v2, rfl, s2⟩
      exact k _ s2
end
end K14

set_option Elab.async false
set_option linter.all false
set_option maxRecDepth 100000
set_option maxHeartbeats 8000000
namespace K14
open PySem PySem.Spec PyProof.Rows L2 Lf
/-- how the elements are made: a tuple of None and pairs -/
structure MadeT (K : PySem.W.Frag) (H : Hp) (t : Addr) (m : List (Nat × Nat)) : Prop where
  ex : ∃ ps : List Addr, SqT K H t (.non :: ps.map V.ref) ∧ ps.length = m.length ∧ ∀ (k : Nat) a p, ps[k]? = some a → m[k]? = some p → SqT K H a [nv p.1, nv p.2]
theorem MadeT.same {K : PySem.W.Frag} {H H' : Hp} {t : Addr} {m : List (Nat × Nat)} (h : MadeT K H t m) (e : Same H H') : MadeT K H' t m := by
  obtain ⟨ps, a, b, c⟩ := h.ex
  exact ⟨ps, Lf.SqT.same e a, b, fun k x p h1 h2 => Lf.SqT.same e (c k x p h1 h2)⟩
/-- .. the list that grows -/
def MadeL (H : Hp) (M : Addr) (m : List (Nat × Nat)) : Prop := ∃ ps : List Addr, H M = some (.lst (.non :: ps.map V.ref)) ∧ ps.length = m.length ∧ ∀ (k : Nat) a p, ps[k]? = some a → m[k]? = some p → H a = some (.tup [nv p.1, nv p.2])
theorem MadeL.same {H H' : Hp} {M : Addr} {m : List (Nat × Nat)} (h : MadeL H M m) (e : Same H H') : MadeL H' M m := by
  obtain ⟨ps, a, b, c⟩ := h
  exact ⟨ps, e _ _ a, b, fun k x p h1 h2 => e _ _ (c k x p h1 h2)⟩
def spMade (K : PySem.W.Frag) : Sp := fun vs H Q _ => ∃ r rows m, vs = [.ref r] ∧ RowsT K H r rows ∧ Mon.madeTab 0 rows [] = some m ∧ m.length ≤ 2000 ∧ ∀ t H', Same H H' → MadeT K H' t m → Q (.ref t) H'
theorem len_grow {rows : List (List Nat)} {m m' : List (Nat × Nat)} {i : Nat} (h : Mon.madeTab 0 rows [] = some m) (h' : Mon.madeTab 0 (rows.take i) [] = some m') : m'.length ≤ m.length := by
  have e := List.take_append_drop i rows
  rw [← e, Mon.madeTab_app, h', Option.bind_some] at h
  obtain ⟨x, hx, _⟩ := Mon.madeTab_ok h
  rw [hx, List.length_append]
  omega
theorem len_growR {row : List Nat} {m m2 m' : List (Nat × Nat)} {i c : Nat} (h : Mon.madeRow i 0 row m = some m2) (h' : Mon.madeRow i 0 (row.take c) m = some m') : m'.length ≤ m2.length := by
  have e := List.take_append_drop c row
  rw [← e, Mon.madeRow_app, h', Option.bind_some] at h
  obtain ⟨x, hx, _⟩ := Mon.madeRow_ok h
  rw [hx, List.length_append]
  omega
section
variable {P : Program} {w : World} {K : PySem.W.Frag} {mg : Str → Option Value} {base : Heap}
theorem scMade : FnScope ["right", "made", "number", "row", "letter", "reached"] ["right"] (defScope s_made_by) := ⟨rfl, rfl, rfl, by decide +kernel, rfl, by decide +kernel, by decide +kernel⟩
theorem ok_made {f : Addr} {fd : FuncData} {q : Str} (F : FunD K "_made_by" q (defArgs s_made_by) (defBody s_made_by) (defScope s_made_by) [] [] f fd) (T : Txt P w K mg base) :
    FnOk P w K mg base CX0 1 f fd ["right"] (spMade K) := by
  have zE : mg "enumerate" = none := T.fr 36 "enumerate" rfl
  have zn : mg "len" = none := T.fr 39 "len" rfl
  have zt : mg "tuple" = none := T.fr 44 "tuple" rfl
  refine F.ok scMade (fun vs H Q E h => ?_) (fun cdv A outer s H vs Q E hr h => ?_)
  · obtain ⟨r, rows, m, rfl, _⟩ := h
    rfl
  · obtain ⟨r, rows, m, rfl, R, hm, lm, k⟩ := h
    refine ⟨_, PSs.nox (pss_cons (ps_set (i := 1) scMade.nd rfl (.inl rfl) (pe_lst (pa_cons pe_non pa_nil)))
      (pss_cons (ps_for PassesOwn.never rfl (pi_enumA rfl zE (pv 0)) (pg_tup rfl (pgs_cons (pg_name (i := 2) scMade.nd rfl (.inl rfl)) (pgs_cons (pg_name (i := 3) scMade.nd rfl (.inl rfl)) pgs_nil)))
        (pss_cons (ps_if (pt_cmpR op_ge (pv 2) (pe_callB call_len_seq rfl zn boot_len (pa_cons (pv 1) pa_nil)) (nomark _)) (pss_one ps_never) pss_nil)
        (pss_one (ps_for PassesOwn.never rfl (pi_enumA rfl zE (pv 3)) (pg_tup rfl (pgs_cons (pg_name (i := 4) scMade.nd rfl (.inl rfl)) (pgs_cons (pg_name (i := 5) scMade.nd rfl (.inl rfl)) pgs_nil)))
          (pss_cons (ps_if (pt_cmpR op_gt (pv 5) (pe_callB call_len_seq rfl zn boot_len (pa_cons (pv 1) pa_nil)) (nomark _)) (pss_one ps_never) pss_nil)
          (pss_one (ps_if (pt_cmpR op_eq (pv 5) (pe_callB call_len_seq rfl zn boot_len (pa_cons (pv 1) pa_nil)) (nomark _))
            (pss_one (ps_expr (pe_bm PySem.F.plainAttrs_list PySem.F.slot_list_append PySem.F.type_list_append mt_append (pv 1) (pa_cons (pe_tup (pa_cons (pv 2) (pa_cons (pv 4) pa_nil))) pa_nil)))) pss_nil)))))))
      (pss_one (ps_ret (pe_callTy call_tuple_of rfl zt PyProof.Rows.boot_tuple (pa_cons (pv 1) pa_nil)))))), ?_⟩
    obtain ⟨as, sr, la, srow⟩ := R.ex
    have ln : (as.map V.ref).length = rows.length := by rw [List.length_map, la]
    refine ⟨(by show 1 ≤ sizeLine; decide), fun M nM => ?_⟩
    have s1 := same_upd (o := .lst [V.non]) nM
    have m1 : MadeL (L2.upd H M (.lst [V.non])) M [] := ⟨[], upd_same, rfl, fun k a p h => by simp at h⟩
    generalize L2.upd H M (.lst [V.non]) = H1 at s1 m1 ⊢
    refine ⟨_, rfl, r, as.map V.ref, rfl, .inr ⟨Lf.SqT.same s1 sr, ?_⟩⟩
    have wk : Walk (Itet K r) (as.map V.ref).length (fun H2 => Same H H2) (fun i H v H' => ∃ T x, v = .ref T ∧ H T = none ∧ H' = L2.upd H T (.tup [.int (i : Nat), x]) ∧ (as.map V.ref)[i]? = some x) := (walk_enumT (xs := as.map V.ref)).mono (fun H s => Lf.SqT.same s sr) (fun i H x H' _ _ y => y)
    refine for_it wk (fun i σ H2 => ∃ v2 v3 v4 v5 : Option V, σ = [some (.ref r), some (.ref M), v2, v3, v4, v5] ∧ Same H H2 ∧ ∃ m', Mon.madeTab 0 (rows.take i) [] = some m' ∧ MadeL H2 M m') ⟨none, none, none, none, rfl, s1, [], by simp [Mon.madeTab], m1⟩ (fun i σ H2 _ ⟨_, _, _, _, _, s, _⟩ => s) ?_ ?_
    · rintro i x σ H2 H3 hi ⟨v2, v3, v4, v5, rfl, s2, m', hm', ml⟩ ⟨T', y, rfl, nT, rfl, hy⟩
      obtain ⟨a, ha, rfl⟩ := map_get hy
      have hi2 : i < rows.length := by rw [← ln]; exact hi
      obtain ⟨row, hrow⟩ := lt_get hi2
      have sa := srow i a row ha hrow
      obtain ⟨m0, e0, i0, m2, e2, e3⟩ := Mon.madeTab_at hm hrow
      rw [hm'] at e0
      cases e0
      have l2 := len_grow hm e3
      refine ⟨T', _, rfl, SqT.of upd_same, rfl, _, _, rfl, _, _, rfl, rfl, ?_⟩
      have u3 := same_upd (o := .tup [.int (i : Nat), .ref a]) nT
      have s3 := s2.trans u3
      have ml3 := ml.same u3
      generalize L2.upd H2 T' (.tup [.int (i : Nat), .ref a]) = H3 at s3 ml3 ⊢
      clear u3 ml
      obtain ⟨ps, hM, lp, _⟩ := id ml3
      refine ⟨_, rfl, _, rfl, M, _, rfl, .inl (SqL.of hM), _, _, rfl, rfl, _, rfl, ?_⟩
      refine ifF (by rw [decide_eq_false]; simp; omega) ?_
      clear hM lp
      have sa3 := Lf.SqT.same s3 sa
      refine ⟨_, rfl, a, row.map nv, rfl, .inr ⟨sa3, ?_⟩⟩
      have wk2 : Walk (Itet K a) (row.map nv).length (fun H2 => Same H H2) (fun i H v H' => ∃ T x, v = .ref T ∧ H T = none ∧ H' = L2.upd H T (.tup [.int (i : Nat), x]) ∧ (row.map nv)[i]? = some x) := (walk_enumT (xs := row.map nv)).mono (fun H s => Lf.SqT.same s sa) (fun i H x H' _ _ y => y)
      refine for_it wk2 (fun j σ H4 => ∃ v4 v5 : Option V, σ = [some (.ref r), some (.ref M), some (nv i), some (.ref a), v4, v5] ∧ Same H H4 ∧ ∃ m'', Mon.madeRow i 0 (row.take j) m' = some m'' ∧ MadeL H4 M m'') ⟨_, _, rfl, s3, m', by simp [Mon.madeRow], ml3⟩ (fun j σ H4 _ ⟨_, _, _, s, _⟩ => s) ?_ ?_
      · rintro j x σ H4 H5 hj ⟨v4, v5, rfl, s4, m4, hm4, ml4⟩ ⟨T2, y, rfl, nT2, rfl, hy2⟩
        obtain ⟨t, ht, rfl⟩ := map_get hy2
        obtain ⟨m5, e5, t5, e6⟩ := Mon.madeRow_at e2 ht
        rw [hm4] at e5
        cases e5
        have l4 := len_growR e2 hm4
        refine ⟨T2, _, rfl, SqT.of upd_same, rfl, _, _, rfl, _, _, rfl, rfl, ?_⟩
        have u5 := same_upd (o := .tup [.int (j : Nat), nv t]) nT2
        have s5 := s4.trans u5
        have ml5 := ml4.same u5
        generalize L2.upd H4 T2 (.tup [.int (j : Nat), nv t]) = H5 at s5 ml5 ⊢
        clear u5 ml4
        obtain ⟨ps, hM, lp, pp⟩ := id ml5
        have len : (V.non :: ps.map V.ref).length = m4.length + 1 := by rw [List.length_cons, List.length_map, lp]
        refine ⟨_, rfl, _, rfl, M, _, rfl, .inl (SqL.of hM), _, _, rfl, rfl, _, rfl, ?_⟩
        refine ifF (by rw [decide_eq_false]; rw [len]; omega) ?_
        refine ⟨_, rfl, _, rfl, M, _, rfl, .inl (SqL.of hM), rfl, _, rfl, ?_⟩
        refine ite2 (fun c => ?_) (fun c => ?_)
        · have ct : t = m4.length + 1 := by
            have := of_decide_eq_true c
            rw [len] at this
            injection this with this
            omega
          rw [if_pos ct] at e6
          refine ⟨_, rfl, .inl ⟨rfl, _, SqL.of hM⟩, _, rfl, _, rfl, (by show 2 ≤ sizeLine; decide), fun N nN => ?_⟩
          have u6 := same_upd (o := .tup [nv i, nv j]) nN
          have hN : L2.upd H5 N (.tup [nv i, nv j]) N = some (.tup [nv i, nv j]) := upd_same
          have s6 := s5.trans u6
          have hM6 := u6 _ _ hM
          have pp6 : ∀ (k : Nat) a p, ps[k]? = some a → m4[k]? = some p → L2.upd H5 N (.tup [nv i, nv j]) a = some (.tup [nv p.1, nv p.2]) := fun k a p h1 h2 => u6 _ _ (pp k a p h1 h2)
          have nMN : N ≠ M := fun z => by rw [z, hM] at nN; cases nN
          generalize L2.upd H5 N (.tup [nv i, nv j]) = H6 at s6 hM6 pp6 hN ⊢
          refine ⟨M, _, _, rfl, rfl, hM6, by rw [len]; show m4.length + 1 < 16777216; omega, _, _, rfl, fun b o e => ?_, _, e6, ps ++ [N], ?_, by simp [lp], fun k a p h1 h2 => ?_⟩
          · rw [upd_ne (ne_of_none e nM)]
            exact s6 _ _ e
          · rw [upd_same]
            simp
          · by_cases hk : k < ps.length
            · rw [List.getElem?_append_left hk] at h1
              rw [List.getElem?_append_left (by omega)] at h2
              have := pp6 k a p h1 h2
              rw [upd_ne (fun z => by rw [z, hM6] at this; cases this)]
              exact this
            · have hk2 : k = ps.length := by
                have := get_lt h1
                rw [List.length_append, List.length_singleton] at this
                omega
              rw [hk2, List.getElem?_append_right (Nat.le_refl _), Nat.sub_self] at h1
              rw [hk2, lp, List.getElem?_append_right (Nat.le_refl _), Nat.sub_self] at h2
              cases h1
              cases h2
              rw [upd_ne nMN]
              exact hN
        · have ct : t ≠ m4.length + 1 := fun z => c (by
            rw [len, z]
            exact decide_eq_true rfl)
          rw [if_neg ct] at e6
          exact ⟨_, _, rfl, s5, _, e6, ml5⟩
      · rintro σ H4 ⟨v4, v5, rfl, s4, m4, hm4, ml4⟩
        rw [List.length_map, List.take_length, e2] at hm4
        cases hm4
        exact ⟨_, _, _, _, rfl, s4, _, e3, ml4⟩
    · rintro σ H2 ⟨v2, v3, v4, v5, rfl, s2, m', hm', ps, hM, lp, pp⟩
      rw [ln, List.take_length, hm] at hm'
      cases hm'
      refine ⟨_, rfl, M, _, rfl, .inl ⟨SqL.of hM, fun t nt => ?_⟩⟩
      have u3 := same_upd (o := .tup (V.non :: ps.map V.ref)) nt
      exact k t _ (s2.trans u3) ⟨ps, SqT.of upd_same, lp, fun k a p h1 h2 => SqT.of (u3 _ _ (pp k a p h1 h2))⟩
end
end K14

set_option Elab.async false
set_option linter.all false
set_option maxRecDepth 100000
set_option maxHeartbeats 8000000
namespace K14
open PySem PySem.Spec PyProof.Rows L2 Lf
theorem sIx1 {n : Nat} : HT.sIx (n + 1) 0 (some 1) = 1 := by
  unfold HT.sIx
  simp
theorem cut1 {x : V} {r : List V} : cutV (x :: r) (some 1) none = r := by
  unfold cutV
  rw [List.length_cons, sIx1]
  simp [HT.sIx]
def spLeft (K : PySem.W.Frag) : Sp := fun vs H Q _ => ∃ r t rows m, vs = [.ref r, .ref t] ∧ RowsT K H r rows ∧ MadeT K H t m ∧ rows ≠ [] ∧ m.length ≤ 2000 ∧ (∀ (k : Nat) p, m[k]? = some p → p.1 < k + 1 ∧ ∀ row ∈ rows, p.2 < row.length) ∧
  (∀ (i k : Nat) l, (Mon.leftTab rows (m.take i))[k]? = some l → l.length ≤ 2000 ∧ ∀ x ∈ l, x < rows.length) ∧ ∀ q H', Same H H' → RowsT K H' q (Mon.leftTab rows m) → Q (.ref q) H'
abbrev teLeft (K : PySem.W.Frag) : TE := tOp (rIxT K) (tOp (rIxT K) (tVar 0) (tVar 5)) (tVar 4)
/-- rows[x][c] -/
theorem ix2 {K : PySem.W.Frag} {H : Hp} {r : Addr} {as : List Addr} {rows : List (List Nat)} (sr : SqT K H r (as.map V.ref)) (la : as.length = rows.length) (srow : ∀ (i : Nat) a row, as[i]? = some a → rows[i]? = some row → SqT K H a (row.map nv)) {x c : Nat} (hx : x < rows.length) (hc : ∀ row ∈ rows, c < row.length) {Q : VK}
    (k : Q (nv ((rows.getD x []).getD c 0)) H) : rIxT K (.ref r) (nv x) H fun y H' => rIxT K y (nv c) H' Q := by
  obtain ⟨a, ha⟩ := lt_get (show x < as.length by omega)
  obtain ⟨row, hrow⟩ := lt_get hx
  obtain ⟨t, ht⟩ := lt_get (hc row (List.mem_of_getElem? hrow))
  rw [Mon.getD_of hrow, Mon.getD_of ht] at k
  exact ⟨r, as.map V.ref, _, .ref a, rfl, rfl, sr, atI_nat (get_map ha), a, row.map nv, _, nv t, rfl, rfl, srow x a row ha hrow, atI_nat (get_map ht), k⟩
section
variable {P : Program} {w : World} {K : PySem.W.Frag} {mg : Str → Option Value} {base : Heap}
theorem scLeft : FnScope ["right", "made", "table", "before", "letter", "number"] ["right", "made"] (defScope s_left_table) := ⟨rfl, rfl, rfl, by decide +kernel, rfl, by decide +kernel, by decide +kernel⟩
theorem ok_left {f : Addr} {fd : FuncData} {q : Str} (F : FunD K "_left_table" q (defArgs s_left_table) (defBody s_left_table) (defScope s_left_table) [] [] f fd) (T : Txt P w K mg base) :
    FnOk P w K mg base CX0 1 f fd ["right", "made"] (spLeft K) := by
  have zt : mg "tuple" = none := T.fr 44 "tuple" rfl
  refine F.ok scLeft (fun vs H Q E h => ?_) (fun cdv A outer s H vs Q E hr h => ?_)
  · obtain ⟨r, t, rows, m, rfl, _⟩ := h
    rfl
  · obtain ⟨r, t, rows, m, rfl, R, M, ne, lm, hm, hL, k⟩ := h
    refine ⟨_, PSs.nox (pss_cons (ps_set (i := 2) scLeft.nd rfl (.inl rfl) (pe_lst (pa_cons (pe_ix ix_tup (pv 0) pe_int (fun _ _ => rfl)) pa_nil)))
      (pss_cons (ps_for PassesOwn.never rfl (pi_tup (pe_slice sl_tup (pv 1) (po_some pe_int) po_none)) (pg_tup rfl (pgs_cons (pg_name (i := 3) scLeft.nd rfl (.inl rfl)) (pgs_cons (pg_name (i := 4) scLeft.nd rfl (.inr rfl)) pgs_nil)))
        (pss_one (ps_expr (pe_bm PySem.F.plainAttrs_list PySem.F.slot_list_append PySem.F.type_list_append mt_append (pv 2) (pa_cons (pe_callTy call_tuple_of rfl zt PyProof.Rows.boot_tuple
          (pa_cons (pe_lc (own := [("number", 5)]) (g := gName 5) (te := teLeft K) (by rfl) scLeft.nd (pi_tup (pe_ix ix_list (pv 2) (pv 3) (fun _ _ => rfl))) (blkOk_by (own := [("number", 5)]) (N := ["right", "made", "table", "before", "letter", "number"]) (sc := defScope s_left_table) (by decide +kernel)) (fun _ _ _ _ _ => pg_name (i := 5) scLeft.nd rfl (Or.inl rfl)) (fun _ _ _ _ _ => pts_nil)
            (fun _ _ _ _ _ => by exact pe_ix ix_tup (pe_ix ix_tup (pv 0) (pv 5) (fun _ _ => rfl)) (pv 4) (fun _ _ => rfl))) pa_nil)) pa_nil)))))
      (pss_one (ps_ret (pe_callTy call_tuple_of rfl zt PyProof.Rows.boot_tuple (pa_cons (pv 2) pa_nil)))))), ?_⟩
    obtain ⟨as, sr, la, srow⟩ := R.ex
    obtain ⟨ps, sm, lp, sp⟩ := M.ex
    have n0 : 0 < rows.length := List.length_pos_iff.mpr ne
    obtain ⟨a0, ha0⟩ := lt_get (show 0 < as.length by omega)
    obtain ⟨row0, hrow0⟩ := lt_get n0
    refine ⟨_, rfl, r, as.map V.ref, 0, .ref a0, rfl, rfl, sr, atI_nat (j := 0) (get_map ha0), (by show 1 ≤ sizeLine; decide), fun B nB => ?_⟩
    have s1 := same_upd (o := .lst [V.ref a0]) nB
    have hB1 : L2.upd H B (.lst [V.ref a0]) B = some (.lst ([a0].map V.ref)) := upd_same
    generalize L2.upd H B (.lst [V.ref a0]) = H1 at s1 hB1 ⊢
    refine ⟨_, rfl, 1, rfl, t, _, rfl, Lf.SqT.same s1 sm, ?_, fun S nS => ⟨S, rfl, ⟨_, SqT.of upd_same⟩, ?_⟩⟩
    · rw [List.length_cons, sIx1]
      rintro ⟨z, _⟩
      exact absurd z (by decide)
    rw [cut1]
    have u2 := same_upd (o := .tup (ps.map V.ref)) nS
    have hS : L2.upd H1 S (.tup (ps.map V.ref)) S = some (.tup (ps.map V.ref)) := upd_same
    have s2 := s1.trans u2
    have hB2 := u2 _ _ hB1
    have nSB : S ≠ B := fun z => by rw [z, hB1] at nS; cases nS
    generalize L2.upd H1 S (.tup (ps.map V.ref)) = H2 at s2 hS hB2 ⊢
    clear u2 s1 hB1 nS
    have lps : (ps.map V.ref).length = m.length := by rw [List.length_map, lp]
    refine for_tup (K := K) (a := S) (xs := ps.map V.ref) (fun i σ Hn => ∃ v3 v4 : Option V, σ = [some (.ref r), some (.ref t), some (.ref B), v3, v4, none] ∧ Same H Hn ∧ Hn S = some (.tup (ps.map V.ref)) ∧ ∃ bs : List Addr, Hn B = some (.lst (bs.map V.ref)) ∧ bs.length = (Mon.leftTab rows (m.take i)).length ∧
        ∀ (j : Nat) b l, bs[j]? = some b → (Mon.leftTab rows (m.take i))[j]? = some l → SqT K H b (l.map nv) ∨ Hn b = some (.tup (l.map nv)))
      ⟨none, none, rfl, s2, hS, [a0], hB2, rfl, fun j b l h1 h2 => ?_⟩ (fun i σ Hn _ ⟨_, _, _, _, h, _⟩ => SqT.of h) (fun i x σ Hn hx ⟨v3, v4, eσ, sn, hSn, bs, hBn, lb, pb⟩ => ?_) (fun σ Hn ⟨v3, v4, eσ, sn, hSn, bs, hBn, lb, pb⟩ => ?_)
    · cases j with
      | zero =>
        cases h1
        have e : row0 = l := by
          have : Mon.leftTab rows (m.take 0) = [rows.getD 0 []] := rfl
          rw [this, Mon.getD_of hrow0] at h2
          exact Option.some.inj h2
        rw [← e]
        exact .inl (srow 0 a0 row0 ha0 hrow0)
      | succ j => simp at h1
    · subst eσ
      obtain ⟨pa, hpa, rfl⟩ := map_get hx
      obtain ⟨p, hp⟩ := lt_get (show i < m.length by have := get_lt hpa; omega)
      obtain ⟨b1, c1⟩ := hm i p hp
      have eL : Mon.leftTab rows (m.take (i + 1)) = Mon.leftStep rows (Mon.leftTab rows (m.take i)) p := by rw [(Mon.take_cons hp).2.1, Mon.left_snoc]
      have lL : (Mon.leftTab rows (m.take i)).length = i + 1 := by rw [Mon.left_len, (Mon.take_cons hp).2.2]
      obtain ⟨b, hb⟩ := lt_get (show p.1 < bs.length by omega)
      obtain ⟨l, hl⟩ := lt_get (show p.1 < (Mon.leftTab rows (m.take i)).length by omega)
      obtain ⟨ll, lx⟩ := hL i p.1 l hl
      have sb : SqT K Hn b (l.map nv) := by
        rcases pb _ b l hb hl with z | z
        · exact Lf.SqT.same sn z
        · exact SqT.of z
      refine ⟨pa, _, rfl, Lf.SqT.same sn (sp i pa p hpa hp), rfl, _, _, rfl, _, _, rfl, rfl, ?_⟩
      refine ⟨_, rfl, .inl ⟨rfl, _, SqL.of hBn⟩, _, rfl, _, rfl, B, bs.map V.ref, _, .ref b, rfl, rfl, SqL.of hBn, atI_nat (get_map hb), b, rfl, ⟨_, sb⟩, fun D nD => ?_⟩
      refine lc_tup (K := K) (a := b) (xs := l.map nv) (fun j Hc => But D Hn Hc ∧ Hc D = some (.lst ((l.take j).map fun x => nv ((rows.getD x []).getD p.2 0)))) ⟨But.upd, upd_same⟩ (fun j Hc _ ⟨bc, _⟩ => Lf.SqT.same (Same.but (L2.Same.refl _) nD bc) sb) (fun j z Hc hz ⟨bc, hD⟩ => ?_) (fun Hc ⟨bc, hD⟩ => ?_)
      · obtain ⟨x, hxx, rfl⟩ := map_get hz
        refine ⟨rfl, yesT ?_⟩
        have sc := sn.trans (Same.but (L2.Same.refl _) nD bc)
        have xl := lx x (List.mem_of_getElem? hxx)
        obtain ⟨a, ha⟩ := lt_get (show x < as.length by omega)
        obtain ⟨row, hrow⟩ := lt_get xl
        obtain ⟨e, he⟩ := lt_get (c1 row (List.mem_of_getElem? hrow))
        refine ⟨_, rfl, _, rfl, r, as.map V.ref, _, .ref a, rfl, rfl, Lf.SqT.same sc sr, atI_nat (get_map ha), _, rfl, a, row.map nv, _, nv e, rfl, rfl, Lf.SqT.same sc (srow x a row ha hrow), atI_nat (get_map he), ?_⟩
        refine ⟨_, hD, ?_, But.trans bc But.upd, ?_⟩
        · rw [List.length_map, List.length_take]
          have := get_lt hxx
          show min j l.length < 16777216
          omega
        · rw [upd_same, take_snoc hxx, List.map_append, List.map_cons, List.map_nil, Mon.getD_of hrow, Mon.getD_of he]
      · rw [List.length_map, List.take_length] at hD
        have sc := Same.but (L2.Same.refl _) nD bc
        refine ⟨D, _, rfl, .inl ⟨SqL.of hD, fun N nN => ?_⟩⟩
        have u3 := sc.trans (same_upd (o := .tup (l.map fun x => nv ((rows.getD x []).getD p.2 0))) nN)
        have hN : L2.upd Hc N (.tup (l.map fun x => nv ((rows.getD x []).getD p.2 0))) N = some (.tup (l.map fun x => nv ((rows.getD x []).getD p.2 0))) := upd_same
        generalize L2.upd Hc N (.tup (l.map fun x => nv ((rows.getD x []).getD p.2 0))) = H3 at u3 hN ⊢
        have hB3 := u3 _ _ hBn
        have nNB : N ≠ B := fun z => by rw [z, hB3] at hN; cases hN
        refine ⟨B, _, _, rfl, rfl, hB3, by rw [List.length_map, lb, lL]; have := get_lt hp; show i + 1 < 16777216; omega, _, _, rfl, fun c o e => ?_, by rw [upd_ne nSB]; exact u3 _ _ hSn, bs ++ [N], by rw [upd_same]; simp, by rw [eL, Mon.leftStep, List.length_append, List.length_append, lb]; rfl, fun j c l2 h1 h2 => ?_⟩
        · rw [upd_ne (ne_of_none e nB)]
          exact (sn.trans u3) _ _ e
        · rw [eL, Mon.leftStep] at h2
          by_cases hj : j < bs.length
          · rw [List.getElem?_append_left hj] at h1
            rw [List.getElem?_append_left (by omega)] at h2
            rcases pb j c l2 h1 h2 with z | z
            · exact .inl z
            · have z3 := u3 _ _ z
              exact .inr (by rw [upd_ne (fun y => by rw [y, hB3] at z3; cases z3)]; exact z3)
          · have hj2 : j = bs.length := by
              have := get_lt h1
              rw [List.length_append, List.length_singleton] at this
              omega
            rw [hj2, List.getElem?_append_right (Nat.le_refl _), Nat.sub_self] at h1
            rw [hj2, lb, List.getElem?_append_right (Nat.le_refl _), Nat.sub_self] at h2
            cases h1
            cases h2
            refine .inr ?_
            rw [upd_ne nNB, hN, Mon.getD_of hl, List.map_map]
            rfl
    · subst eσ
      rw [lps, List.take_length] at lb pb
      refine ⟨_, rfl, B, _, rfl, .inl ⟨SqL.of hBn, fun N nN => ?_⟩⟩
      have u3 := same_upd (o := .tup (bs.map V.ref)) nN
      exact k N _ (sn.trans u3) ⟨bs, SqT.of upd_same, lb, fun j b l h1 h2 => (pb j b l h1 h2).elim (fun z => Lf.SqT.same (sn.trans u3) z) fun z => SqT.of (u3 _ _ z)⟩
end
end K14

set_option Elab.async false
set_option linter.all false
set_option maxRecDepth 100000
set_option maxHeartbeats 8000000
namespace K14
open PySem PySem.Spec PyProof.Rows L2 Lf
/-- a tuple of numbers as data -/
abbrev nd (l : List Nat) : PyData := .tuple (l.map fun i => .int (i : Nat))
theorem nd_all {K : PySem.W.Frag} {H : Hp} : ∀ {l : List Nat}, DpAll K H (l.map nv) (l.map fun i => PyData.int (i : Nat))
  | [] => .nil
  | i :: r => .cons (.int _) (nd_all (l := r))
theorem nd_shape (l : List Nat) : SeqAt.shaped (nd l) = true := by
  have all : ∀ l : List Nat, PyData.canLayAll0 (l.map fun i => PyData.int (i : Nat)) = true ∧ PyData.depthAll (l.map fun i => PyData.int (i : Nat)) = 0 := by
    intro l
    induction l with
    | nil => simp [PyData.canLayAll0, PyData.depthAll]
    | cons i r ih => simp [PyData.canLayAll0, PyData.depthAll, PyData.canLay0, PyData.depth, ih.1, ih.2]
  unfold SeqAt.shaped
  simp [PyData.canLay0, PyData.depth, (all l).1, (all l).2]
/-- tuples of the same numbers are not unlike -/
theorem nd_ne {K : PySem.W.Frag} {H : Hp} {a b : Addr} {l : List Nat} {Q : VK} (qa : SqT K H a (l.map nv)) (qb : SqT K H b (l.map nv)) (k : Q (.bl false) H) : rNeD K (.ref a) (.ref b) H Q := by
  refine ⟨_, _, .tup qa nd_all, .tup qb nd_all, nd_shape l, nd_shape l, ?_⟩
  rw [eqv_same (nd_shape l)]
  exact k
def spProds (K : PySem.W.Frag) : Sp := fun vs H Q _ => ∃ r q rows L, vs = [.ref r, .ref q] ∧ RowsT K H r rows ∧ RowsT K H q L ∧ L.length = rows.length ∧
  (∀ (i : Nat) row (c t : Nat) li, rows[i]? = some row → row[c]? = some t → L[i]? = some li → (∀ row' ∈ rows, c < row'.length) ∧ li.length ≤ 2000 ∧ (∀ x ∈ li, x < rows.length) ∧ t < rows.length ∧ L[t]? = some (li.map fun x => (rows.getD x []).getD c 0)) ∧ ∀ H', Same H H' → Q .non H'
abbrev teProd (K : PySem.W.Frag) : TE := tOp (rIxT K) (tOp (rIxT K) (tVar 0) (tVar 6)) (tVar 4)
section
variable {P : Program} {w : World} {K : PySem.W.Frag} {mg : Str → Option Value} {base : Heap}
theorem scProds : FnScope ["right", "left", "number", "row", "letter", "reached", "begun"] ["right", "left"] (defScope s_check_products) := ⟨rfl, rfl, rfl, by decide +kernel, rfl, by decide +kernel, by decide +kernel⟩
theorem ok_prods {f : Addr} {fd : FuncData} {q : Str} (F : FunD K "_check_products" q (defArgs s_check_products) (defBody s_check_products) (defScope s_check_products) [] [] f fd) (T : Txt P w K mg base) :
    FnOk P w K mg base CX0 1 f fd ["right", "left"] (spProds K) := by
  have zE : mg "enumerate" = none := T.fr 36 "enumerate" rfl
  have zt : mg "tuple" = none := T.fr 44 "tuple" rfl
  refine F.ok scProds (fun vs H Q E h => ?_) (fun cdv A outer s H vs Q E hr h => ?_)
  · obtain ⟨r, q, rows, L, rfl, _⟩ := h
    rfl
  · obtain ⟨r, q, rows, L, rfl, R, RL, eL, ok, k⟩ := h
    refine ⟨_, PSs.nox (pss_one (ps_for PassesOwn.never rfl (pi_enumA rfl zE (pv 0)) (pg_tup rfl (pgs_cons (pg_name (i := 2) scProds.nd rfl (.inl rfl)) (pgs_cons (pg_name (i := 3) scProds.nd rfl (.inl rfl)) pgs_nil)))
      (pss_one (ps_for PassesOwn.never rfl (pi_enumA rfl zE (pv 3)) (pg_tup rfl (pgs_cons (pg_name (i := 4) scProds.nd rfl (.inr rfl)) (pgs_cons (pg_name (i := 5) scProds.nd rfl (.inl rfl)) pgs_nil)))
        (pss_one (ps_if (pt_cmpR (op_neD hr.units) (pe_ix ix_tup (pv 1) (pv 5) (fun _ _ => rfl)) (pe_callTy call_tuple_of rfl zt PyProof.Rows.boot_tuple
          (pa_cons (pe_lc (own := [("begun", 6)]) (g := gName 6) (te := teProd K) (by rfl) scProds.nd (pi_tup (pe_ix ix_tup (pv 1) (pv 2) (fun _ _ => rfl))) (blkOk_by (own := [("begun", 6)]) (N := ["right", "left", "number", "row", "letter", "reached", "begun"]) (sc := defScope s_check_products) (by decide +kernel)) (fun _ _ _ _ _ => pg_name (i := 6) scProds.nd rfl (Or.inl rfl)) (fun _ _ _ _ _ => pts_nil)
            (fun _ _ _ _ _ => by exact pe_ix ix_tup (pe_ix ix_tup (pv 0) (pv 6) (fun _ _ => rfl)) (pv 4) (fun _ _ => rfl))) pa_nil)) (nomark _)) (pss_one ps_never) pss_nil)))))), ?_⟩
    obtain ⟨as, sr, la, srow⟩ := R.ex
    obtain ⟨bs, sq, lb, sl⟩ := RL.ex
    have ln : (as.map V.ref).length = rows.length := by rw [List.length_map, la]
    refine ⟨_, rfl, r, as.map V.ref, rfl, .inr ⟨sr, ?_⟩⟩
    have wk : Walk (Itet K r) (as.map V.ref).length (fun H2 => Same H H2) (fun i H v H' => ∃ T x, v = .ref T ∧ H T = none ∧ H' = L2.upd H T (.tup [.int (i : Nat), x]) ∧ (as.map V.ref)[i]? = some x) := (walk_enumT (xs := as.map V.ref)).mono (fun H s => Lf.SqT.same s sr) (fun i H x H' _ _ y => y)
    refine for_it wk (fun i σ H2 => ∃ v2 v3 v4 v5 : Option V, σ = [some (.ref r), some (.ref q), v2, v3, v4, v5, none] ∧ Same H H2) ⟨none, none, none, none, rfl, L2.Same.refl _⟩ (fun i σ H2 _ ⟨_, _, _, _, _, s⟩ => s) ?_ ?_
    · rintro i x σ H2 H3 hi ⟨v2, v3, v4, v5, rfl, s2⟩ ⟨T', y, rfl, nT, rfl, hy⟩
      obtain ⟨a, ha, rfl⟩ := map_get hy
      have hi2 : i < rows.length := by rw [← ln]; exact hi
      obtain ⟨row, hrow⟩ := lt_get hi2
      have sa := srow i a row ha hrow
      refine ⟨T', _, rfl, SqT.of upd_same, rfl, _, _, rfl, _, _, rfl, rfl, ?_⟩
      have s3 := s2.trans (same_upd (o := .tup [.int (i : Nat), .ref a]) nT)
      generalize L2.upd H2 T' (.tup [.int (i : Nat), .ref a]) = H3 at s3 ⊢
      refine ⟨_, rfl, a, row.map nv, rfl, .inr ⟨Lf.SqT.same s3 sa, ?_⟩⟩
      have wk2 : Walk (Itet K a) (row.map nv).length (fun H2 => Same H H2) (fun i H v H' => ∃ T x, v = .ref T ∧ H T = none ∧ H' = L2.upd H T (.tup [.int (i : Nat), x]) ∧ (row.map nv)[i]? = some x) := (walk_enumT (xs := row.map nv)).mono (fun H s => Lf.SqT.same s sa) (fun i H x H' _ _ y => y)
      refine for_it wk2 (fun j σ H4 => ∃ v4 v5 : Option V, σ = [some (.ref r), some (.ref q), some (nv i), some (.ref a), v4, v5, none] ∧ Same H H4) ⟨_, _, rfl, s3⟩ (fun j σ H4 _ ⟨_, _, _, s⟩ => s) ?_ ?_
      · rintro c x σ H4 H5 hj ⟨v4, v5, rfl, s4⟩ ⟨T2, y, rfl, nT2, rfl, hy2⟩
        obtain ⟨t, ht, rfl⟩ := map_get hy2
        obtain ⟨li, hli⟩ := lt_get (show i < L.length by omega)
        obtain ⟨cw, l2, lx, tl, hlt⟩ := ok i row c t li hrow ht hli
        obtain ⟨bt, hbt⟩ := lt_get (show t < bs.length by omega)
        obtain ⟨bi, hbi⟩ := lt_get (show i < bs.length by omega)
        refine ⟨T2, _, rfl, SqT.of upd_same, rfl, _, _, rfl, _, _, rfl, rfl, ?_⟩
        have s5 := s4.trans (same_upd (o := .tup [.int (c : Nat), nv t]) nT2)
        generalize L2.upd H4 T2 (.tup [.int (c : Nat), nv t]) = H5 at s5 ⊢
        have sb := Lf.SqT.same s5 (sl i bi li hbi hli)
        refine ⟨_, rfl, _, rfl, q, bs.map V.ref, _, .ref bt, rfl, rfl, Lf.SqT.same s5 sq, atI_nat (get_map hbt), ?_⟩
        refine ⟨_, rfl, _, rfl, q, bs.map V.ref, _, .ref bi, rfl, rfl, Lf.SqT.same s5 sq, atI_nat (get_map hbi), bi, rfl, ⟨_, sb⟩, fun D nD => ?_⟩
        refine lc_tup (K := K) (a := bi) (xs := li.map nv) (fun j Hc => But D H5 Hc ∧ Hc D = some (.lst ((li.take j).map fun x => nv ((rows.getD x []).getD c 0)))) ⟨But.upd, upd_same⟩ (fun j Hc _ ⟨bc, _⟩ => Lf.SqT.same (Same.but (L2.Same.refl _) nD bc) sb) (fun j z Hc hz ⟨bc, hD⟩ => ?_) (fun Hc ⟨bc, hD⟩ => ?_)
        · obtain ⟨x, hxx, rfl⟩ := map_get hz
          refine ⟨rfl, yesT ?_⟩
          have sc := s5.trans (Same.but (L2.Same.refl _) nD bc)
          have xl := lx x (List.mem_of_getElem? hxx)
          obtain ⟨a', ha'⟩ := lt_get (show x < as.length by omega)
          obtain ⟨row', hrow'⟩ := lt_get xl
          obtain ⟨e, he⟩ := lt_get (cw row' (List.mem_of_getElem? hrow'))
          refine ⟨_, rfl, _, rfl, r, as.map V.ref, _, .ref a', rfl, rfl, Lf.SqT.same sc sr, atI_nat (get_map ha'), _, rfl, a', row'.map nv, _, nv e, rfl, rfl, Lf.SqT.same sc (srow x a' row' ha' hrow'), atI_nat (get_map he), ?_⟩
          refine ⟨_, hD, ?_, But.trans bc But.upd, ?_⟩
          · rw [List.length_map, List.length_take]
            have := get_lt hxx
            show min j li.length < 16777216
            omega
          · rw [upd_same, take_snoc hxx, List.map_append, List.map_cons, List.map_nil, Mon.getD_of hrow', Mon.getD_of he]
        · rw [List.length_map, List.take_length] at hD
          have sc := Same.but (L2.Same.refl _) nD bc
          refine ⟨D, _, rfl, .inl ⟨SqL.of hD, fun N nN => ?_⟩⟩
          have u6 := sc.trans (same_upd (o := .tup (li.map fun x => nv ((rows.getD x []).getD c 0))) nN)
          have s6 := s5.trans u6
          have e6 : (li.map fun x => nv ((rows.getD x []).getD c 0)) = (li.map fun x => (rows.getD x []).getD c 0).map nv := by rw [List.map_map]; rfl
          refine nd_ne (l := li.map fun x => (rows.getD x []).getD c 0) (Lf.SqT.same s6 (sl t bt _ hbt hlt)) (SqT.of (by rw [upd_same, e6])) ⟨_, rfl, ?_⟩
          exact ifF rfl ⟨_, _, rfl, s6⟩
      · rintro σ H4 ⟨v4, v5, rfl, s4⟩
        exact ⟨_, _, _, _, rfl, s4⟩
    · rintro σ H2 ⟨v2, v3, v4, v5, rfl, s2⟩
      exact k _ s2
end
end K14

set_option Elab.async false
set_option linter.all false
set_option maxRecDepth 100000
set_option maxHeartbeats 8000000
namespace K14
open PySem PySem.Spec PyProof.Rows L2 Lf
theorem SqT.but {K : PySem.W.Frag} {H H' : Hp} {p a C dx : Addr} {fs : List (Str × V)} {xs : List V} (hp : H p = some (.ins C dx fs)) (b : But p H H') (h : SqT K H a xs) : SqT K H' a xs := by
  rcases h with (h | ⟨o, h⟩) | h
  · exact .inl (.inl (b _ _ (fun z => by rw [z, hp] at h; cases h) h))
  · exact .inl (.inr ⟨o, b _ _ (fun z => by rw [z, hp] at h; cases h) h⟩)
  · exact .inr h
theorem RowsT.but {K : PySem.W.Frag} {H H' : Hp} {p r C dx : Addr} {fs : List (Str × V)} {rows : List (List Nat)} (hp : H p = some (.ins C dx fs)) (b : But p H H') (h : RowsT K H r rows) : RowsT K H' r rows := by
  obtain ⟨as, h1, h2, h3⟩ := h.ex
  exact ⟨as, SqT.but hp b h1, h2, fun i x row g1 g2 => SqT.but hp b (h3 i x row g1 g2)⟩
theorem MadeT.but {K : PySem.W.Frag} {H H' : Hp} {p r C dx : Addr} {fs : List (Str × V)} {m : List (Nat × Nat)} (hp : H p = some (.ins C dx fs)) (b : But p H H') (h : MadeT K H r m) : MadeT K H' r m := by
  obtain ⟨as, h1, h2, h3⟩ := h.ex
  exact ⟨as, SqT.but hp b h1, h2, fun i x row g1 g2 => SqT.but hp b (h3 i x row g1 g2)⟩
/-- a table that the constructor takes -/
structure Accept (rows : List (List Nat)) (wd : Nat) (m : List (Nat × Nat)) : Prop where
  form : Form rows wd
  made : Mon.madeTab 0 rows [] = some m
  len : m.length + 1 = rows.length
  left : ∀ (i k : Nat) l, (Mon.leftTab rows (m.take i))[k]? = some l → l.length = wd ∧ ∀ x ∈ l, x < rows.length
  prod : ∀ (i : Nat) row (c t : Nat) li lt, rows[i]? = some row → row[c]? = some t → (Mon.leftTab rows m)[i]? = some li → (Mon.leftTab rows m)[t]? = some lt → lt = li.map fun x => (rows.getD x []).getD c 0
theorem accept_of {n : Nat} {gens found rows : List (List Nat)} {m : List (Nat × Nat)} (T : Mon.Tab n gens found rows) (g1 : gens ≠ []) (g6 : gens.length ≤ 6) (f2 : found.length ≤ 2000) (hm : Mon.madeTab 0 rows [] = some m) (lm : m.length + 1 = rows.length) : Accept rows gens.length m := by
  have mk : ∀ (i k : Nat) p, (m.take i)[k]? = some p → p.1 < k + 1 ∧ ∃ row, rows[p.1]? = some row ∧ row[p.2]? = some (k + 1) := fun i k p h => by
    rw [List.getElem?_take] at h
    split at h
    · exact Mon.madeTab_lt hm h
    · cases h
  have lo : ∀ (i k : Nat) l, (Mon.leftTab rows (m.take i))[k]? = some l → Mon.LeftOk gens found k l := fun i => Mon.left_ok T g1 (m.take i) (mk i)
  have lm' : ∀ (k : Nat) l, (Mon.leftTab rows m)[k]? = some l → Mon.LeftOk gens found k l := fun k l h => lo m.length k l (by rw [List.take_length]; exact h)
  refine ⟨⟨?_, ?_, List.length_pos_iff.mpr g1, g6, fun row hr => ?_⟩, hm, lm, fun i k l h => ?_, fun i row c t li lt h1 h2 h3 h4 => Mon.prod_ok T g1 lm' h1 h2 h3 h4⟩
  · omega
  · rw [T.len]; exact f2
  · obtain ⟨i, hi⟩ := List.getElem?_of_mem hr
    refine ⟨T.wid i row hi, fun t ht => ?_⟩
    obtain ⟨c, hc⟩ := List.getElem?_of_mem ht
    obtain ⟨x, g, _, _, h3⟩ := T.ent i row hi c t hc
    rw [T.len]
    exact (List.getElem?_eq_some_iff.mp h3).1
  · obtain ⟨a, b⟩ := lo i k l h
    refine ⟨a, fun x hx => ?_⟩
    obtain ⟨c, hc⟩ := List.getElem?_of_mem hx
    obtain ⟨_, _, _, _, h3⟩ := b c x hc
    rw [T.len]
    exact (List.getElem?_eq_some_iff.mp h3).1
/-- a Monoid -/
structure Mo (K : PySem.W.Frag) (H : Hp) (x : Addr) (rows : List (List Nat)) (m : List (Nat × Nat)) : Prop where
  ex : ∃ dx t u v, H x = some (.ins (He.ga K "Monoid") dx [("right", .ref t), ("_made", .ref u), ("_left", .ref v)]) ∧ RowsT K H t rows ∧ MadeT K H u m ∧ RowsT K H v (Mon.leftTab rows m)
theorem Mo.same {K : PySem.W.Frag} {H H' : Hp} {x : Addr} {rows : List (List Nat)} {m : List (Nat × Nat)} (h : Mo K H x rows m) (e : Same H H') : Mo K H' x rows m := by
  obtain ⟨dx, t, u, v, a, b, c, d⟩ := h.ex
  exact ⟨dx, t, u, v, e _ _ a, b.same e, c.same e, d.same e⟩
def spMon (K : PySem.W.Frag) : Sp := fun vs H Q _ => ∃ p r dx rows wd m, vs = [.ref p, .ref r] ∧ H p = some (.ins (He.ga K "Monoid") dx []) ∧ RowsL K H r rows ∧ Accept rows wd m ∧ ∀ H', But p H H' → Mo K H' p rows m → Q .non H'
abbrev rTup (K : PySem.W.Frag) : List V → Hp → VK → Prop := fun xs H Q => ∃ p ys, xs = [V.ref p] ∧ ((SqL K H p ys ∧ ∀ (l : Addr), H l = none → Q (V.ref l) (L2.upd H l (HO.tup ys))) ∨ SqT K H p ys ∧ Q (V.ref p) H)
section
variable {P : Program} {w : World} {K : PySem.W.Frag} {mg : Str → Option Value} {base : Heap}
theorem scMon : FnScope ["self", "right", "row"] ["self", "right"] (defScope s_Monoid_init) := ⟨rfl, rfl, rfl, by decide +kernel, rfl, by decide +kernel, by decide +kernel⟩
theorem ok_mon {f : Addr} {fd : FuncData} {q : Str} (F : FunD K "__init__" q (defArgs s_Monoid_init) (defBody s_Monoid_init) (defScope s_Monoid_init) [] [] f fd) (T : Txt P w K mg base)
    (DF : Def P w K mg base CX0 3 "_check_form" ["right"] (spForm K)) (DM : Def P w K mg base CX0 1 "_made_by" ["right"] (spMade K)) (DL : Def P w K mg base CX0 1 "_left_table" ["right", "made"] (spLeft K)) (DP : Def P w K mg base CX0 1 "_check_products" ["right", "left"] (spProds K)) :
    FnOk P w K mg base CX0 4 f fd ["self", "right"] (spMon K) := by
  have zt : mg "tuple" = none := T.fr 44 "tuple" rfl
  have cl : L2.Cls K (He.ga K "Monoid") := He.cls_ok (T.d.fact 46 (f := .cls "Monoid") rfl)
  have n1 : NoAttr K (He.ga K "Monoid") "right" := He.noat_ok (T.d.fact 58 (f := .noat "Monoid" "right") rfl)
  have n2 : NoAttr K (He.ga K "Monoid") "_made" := He.noat_ok (T.d.fact 59 (f := .noat "Monoid" "_made") rfl)
  have n3 : NoAttr K (He.ga K "Monoid") "_left" := He.noat_ok (T.d.fact 60 (f := .noat "Monoid" "_left") rfl)
  refine F.ok scMon (fun vs H Q E h => ?_) (fun cdv A outer s H vs Q E hr h => ?_)
  · obtain ⟨p, r, dx, rows, wd, m, rfl, _⟩ := h
    rfl
  · obtain ⟨p, r, dx, rows, wd, m, rfl, hp, R, AC, k⟩ := h
    have r1 : Room 1 _ := hr.mono (by decide)
    refine ⟨_, PSs.nox (pss_cons (ps_expr (pe_def DF hr pass0 rfl (pa_cons (pv 1) pa_nil)))
      (pss_cons (ps_fld (pv 0) (pe_callTy call_tuple_of rfl zt PyProof.Rows.boot_tuple (pa_cons (pe_lc (own := [("row", 2)]) (g := gName 2) (te := tCB (rTup K) (tCons (tVar 2) tNil)) (by rfl) scMon.nd (pi_list (pv 1)) (blkOk_by (own := [("row", 2)]) (N := ["self", "right", "row"]) (sc := defScope s_Monoid_init) (by decide +kernel)) (fun _ _ _ _ _ => pg_name (i := 2) scMon.nd rfl (Or.inl rfl)) (fun _ _ _ _ _ => pts_nil)
        (fun _ _ _ _ _ => by exact pe_callTy call_tuple_of rfl zt PyProof.Rows.boot_tuple (pa_cons (pv 2) pa_nil))) pa_nil)) rfl)
      (pss_cons (ps_fld (pv 0) (pe_def DM r1 pass0 rfl (pa_cons (pe_fld (pv 0) rfl) pa_nil)) rfl)
      (pss_cons (ps_fld (pv 0) (pe_def DL r1 pass0 rfl (pa_cons (pe_fld (pv 0) rfl) (pa_cons (pe_fld (pv 0) rfl) pa_nil))) rfl)
      (pss_one (ps_expr (pe_def DP r1 pass0 rfl (pa_cons (pe_fld (pv 0) rfl) (pa_cons (pe_fld (pv 0) rfl) pa_nil))))))))), ?_⟩
    obtain ⟨f1, f2, w1, w6, frow⟩ := AC.form
    refine ⟨_, rfl, r, rows, wd, rfl, R, AC.form, fun H1 s1 => ?_⟩
    obtain ⟨as, sr, la, srow⟩ := (R.same s1).ex
    have hp1 := s1 _ _ hp
    have ln : (as.map V.ref).length = rows.length := by rw [List.length_map, la]
    refine ⟨_, rfl, r, rfl, ⟨_, sr⟩, fun D nD => ?_⟩
    refine lc_list (K := K) (a := r) (xs := as.map V.ref) (fun i Hc => But D H1 Hc ∧ ∃ us : List Addr, us.length = i ∧ Hc D = some (.lst (us.map V.ref)) ∧ ∀ (j : Nat) u row, us[j]? = some u → rows[j]? = some row → Hc u = some (.tup (row.map nv))) ⟨But.upd, [], rfl, upd_same, fun j u row h => by simp at h⟩ (fun i Hc _ ⟨bc, _⟩ => L2.Same.seq (Same.but (L2.Same.refl _) nD bc) sr) (fun i z Hc hz ⟨bc, us, lu, hD, pu⟩ => ?_) (fun Hc ⟨bc, us, lu, hD, pu⟩ => ?_)
    · obtain ⟨a, ha, rfl⟩ := map_get hz
      obtain ⟨row, hrow⟩ := lt_get (show i < rows.length by have := get_lt ha; omega)
      have sc := Same.but (L2.Same.refl _) nD bc
      refine ⟨rfl, yesT ?_⟩
      refine ⟨_, rfl, a, row.map nv, rfl, .inl ⟨L2.Same.seq sc (srow i a row ha hrow), fun u nu => ?_⟩⟩
      have u2 := same_upd (o := .tup (row.map nv)) nu
      have hu : L2.upd Hc u (.tup (row.map nv)) u = some (.tup (row.map nv)) := upd_same
      generalize L2.upd Hc u (.tup (row.map nv)) = H2 at u2 hu ⊢
      have hD2 := u2 _ _ hD
      have nuD : u ≠ D := fun z => by rw [z, hD2] at hu; cases hu
      refine ⟨_, hD2, by rw [List.length_map, lu]; have := get_lt hrow; show i < 16777216; omega, But.trans (bc.trans (But.of u2)) But.upd, us ++ [u], by simp [lu], by rw [upd_same]; simp, fun j v rw' h1 h2 => ?_⟩
      by_cases hj : j < us.length
      · rw [List.getElem?_append_left hj] at h1
        have z := u2 _ _ (pu j v rw' h1 h2)
        rw [upd_ne (fun y => by rw [y, hD2] at z; cases z)]
        exact z
      · have hj2 : j = us.length := by
          have := get_lt h1
          rw [List.length_append, List.length_singleton] at this
          omega
        rw [hj2, List.getElem?_append_right (Nat.le_refl _), Nat.sub_self] at h1
        cases h1
        rw [hj2, lu, hrow] at h2
        cases h2
        rw [upd_ne nuD]
        exact hu
    · have sc := Same.but (L2.Same.refl _) nD bc
      refine ⟨D, _, rfl, .inl ⟨SqL.of hD, fun t nt => ?_⟩⟩
      have u2 := same_upd (o := .tup (us.map V.ref)) nt
      have s2 := sc.trans u2
      have Rt : RowsT K (L2.upd Hc t (.tup (us.map V.ref))) t rows := ⟨us, SqT.of upd_same, by rw [lu, ln], fun j u row h1 h2 => SqT.of (u2 _ _ (pu j u row h1 h2))⟩
      generalize L2.upd Hc t (.tup (us.map V.ref)) = H2 at s2 Rt ⊢
      have hp2 := s2 _ _ hp1
      have b0 : But p H H2 := But.of (s1.trans s2)
      clear u2 pu hD bc sc
      refine ⟨_, rfl, p, _, dx, [], rfl, hp2, cl, n1, (by show 0 < 1000; decide), ?_⟩
      have Rt3 : RowsT K (L2.upd H2 p (.ins (He.ga K "Monoid") dx [("right", V.ref t)])) t rows := RowsT.but hp2 But.upd Rt
      have b3 : But p H (L2.upd H2 p (.ins (He.ga K "Monoid") dx [("right", V.ref t)])) := b0.trans But.upd
      have hp3 : L2.upd H2 p (.ins (He.ga K "Monoid") dx [("right", V.ref t)]) p = some (.ins (He.ga K "Monoid") dx [("right", V.ref t)]) := upd_same
      show tSeq _ _ _ _ (L2.upd H2 p (.ins (He.ga K "Monoid") dx [("right", V.ref t)]))
      generalize L2.upd H2 p (.ins (He.ga K "Monoid") dx [("right", V.ref t)]) = H3 at Rt3 b3 hp3 ⊢
      clear Rt b0 hp2 s2 nt hp1 sr srow s1 R
      refine ⟨_, rfl, p, _, dx, _, _, rfl, hp3, cl, n1, rfl, t, rows, m, rfl, Rt3, AC.made, by have := AC.len; omega, fun u H4 s4 Mu => ?_⟩
      have hp4 := s4 _ _ hp3
      refine ⟨_, rfl, p, _, dx, _, rfl, hp4, cl, n2, (by show 1 < 1000; decide), ?_⟩
      have b4 : But p H (L2.upd H4 p (.ins (He.ga K "Monoid") dx [("right", V.ref t), ("_made", V.ref u)])) := (b3.trans (But.of s4)).trans But.upd
      have Rt5 : RowsT K (L2.upd H4 p (.ins (He.ga K "Monoid") dx [("right", V.ref t), ("_made", V.ref u)])) t rows := RowsT.but hp4 But.upd (Rt3.same s4)
      have Mu5 : MadeT K (L2.upd H4 p (.ins (He.ga K "Monoid") dx [("right", V.ref t), ("_made", V.ref u)])) u m := MadeT.but hp4 But.upd Mu
      have hp5 : L2.upd H4 p (.ins (He.ga K "Monoid") dx [("right", V.ref t), ("_made", V.ref u)]) p = some (.ins (He.ga K "Monoid") dx [("right", V.ref t), ("_made", V.ref u)]) := upd_same
      show tSeq _ _ _ _ (L2.upd H4 p (.ins (He.ga K "Monoid") dx [("right", V.ref t), ("_made", V.ref u)]))
      generalize L2.upd H4 p (.ins (He.ga K "Monoid") dx [("right", V.ref t), ("_made", V.ref u)]) = H5 at Rt5 Mu5 b4 hp5 ⊢
      clear Rt3 Mu s4 hp4 b3 hp3
      refine ⟨_, rfl, p, _, dx, _, _, rfl, hp5, cl, n1, rfl, _, rfl, p, _, dx, _, _, rfl, hp5, cl, n2, rfl, t, u, rows, m, rfl, Rt5, Mu5, List.ne_nil_of_length_pos (by omega), by have := AC.len; omega, fun k p hp => ?_, fun i k l h => ?_, fun v H6 s6 Lv => ?_⟩
      · obtain ⟨a, row, b, c⟩ := Mon.madeTab_lt AC.made hp
        refine ⟨a, fun row' h => ?_⟩
        have := get_lt c
        rw [(frow row (List.mem_of_getElem? b)).1] at this
        rw [(frow row' h).1]
        exact this
      · obtain ⟨a, b⟩ := AC.left i k l h
        exact ⟨by omega, b⟩
      have hp6 := s6 _ _ hp5
      refine ⟨_, rfl, p, _, dx, _, rfl, hp6, cl, n3, (by show 2 < 1000; decide), ?_⟩
      have b6 : But p H (L2.upd H6 p (.ins (He.ga K "Monoid") dx [("right", V.ref t), ("_made", V.ref u), ("_left", V.ref v)])) := (b4.trans (But.of s6)).trans But.upd
      have Rt7 : RowsT K (L2.upd H6 p (.ins (He.ga K "Monoid") dx [("right", V.ref t), ("_made", V.ref u), ("_left", V.ref v)])) t rows := RowsT.but hp6 But.upd (Rt5.same s6)
      have Mu7 : MadeT K (L2.upd H6 p (.ins (He.ga K "Monoid") dx [("right", V.ref t), ("_made", V.ref u), ("_left", V.ref v)])) u m := MadeT.but hp6 But.upd (Mu5.same s6)
      have Lv7 : RowsT K (L2.upd H6 p (.ins (He.ga K "Monoid") dx [("right", V.ref t), ("_made", V.ref u), ("_left", V.ref v)])) v (Mon.leftTab rows m) := RowsT.but hp6 But.upd Lv
      have hp7 : L2.upd H6 p (.ins (He.ga K "Monoid") dx [("right", V.ref t), ("_made", V.ref u), ("_left", V.ref v)]) p = some (.ins (He.ga K "Monoid") dx [("right", V.ref t), ("_made", V.ref u), ("_left", V.ref v)]) := upd_same
      show Ends.nx _ _ (L2.upd H6 p (.ins (He.ga K "Monoid") dx [("right", V.ref t), ("_made", V.ref u), ("_left", V.ref v)]))
      generalize L2.upd H6 p (.ins (He.ga K "Monoid") dx [("right", V.ref t), ("_made", V.ref u), ("_left", V.ref v)]) = H7 at Rt7 Mu7 Lv7 b6 hp7 ⊢
      have lL : (Mon.leftTab rows m).length = rows.length := by rw [Mon.left_len, AC.len]
      have left' : ∀ (k : Nat) l, (Mon.leftTab rows m)[k]? = some l → l.length = wd ∧ ∀ x ∈ l, x < rows.length := fun k l h => AC.left m.length k l (by rw [List.take_length]; exact h)
      refine ⟨_, rfl, p, _, dx, _, _, rfl, hp7, cl, n1, rfl, _, rfl, p, _, dx, _, _, rfl, hp7, cl, n3, rfl, t, v, rows, Mon.leftTab rows m, rfl, Rt7, Lv7, lL, fun i row c x li h1 h2 h3 => ?_, fun H8 s8 => ?_⟩
      · obtain ⟨fr, fx⟩ := frow row (List.mem_of_getElem? h1)
        obtain ⟨la', lb'⟩ := left' i li h3
        have hx := fx x (List.mem_of_getElem? h2)
        obtain ⟨lt, hlt⟩ := lt_get (show x < (Mon.leftTab rows m).length by omega)
        refine ⟨fun row' h => ?_, by omega, lb', hx, ?_⟩
        · have := get_lt h2
          rw [(frow row' h).1]
          omega
        · rw [hlt, AC.prod i row c x li lt h1 h2 h3 hlt]
      · exact k H8 (b6.trans (But.of s8)) ⟨dx, t, u, v, s8 _ _ hp7, Rt7.same s8, Mu7.same s8, Lv7.same s8⟩
end
end K14

set_option Elab.async false
set_option linter.all false
set_option maxRecDepth 100000
set_option maxHeartbeats 8000000
namespace K14
open PySem PySem.Spec PyProof.Rows L2 Lf
/-- a list of maps, as tuples -/
structure Maps (H : Hp) (p : Addr) (gens : List (List Nat)) : Prop where
  ex : ∃ as : List Addr, H p = some (.lst (as.map V.ref)) ∧ as.length = gens.length ∧ ∀ (i : Nat) a row, as[i]? = some a → gens[i]? = some row → H a = some (.tup (row.map nv))
theorem Maps.same {H H' : Hp} {p : Addr} {gens : List (List Nat)} (h : Maps H p gens) (e : Same H H') : Maps H' p gens := by
  obtain ⟨as, a, b, c⟩ := h.ex
  exact ⟨as, e _ _ a, b, fun i x row h1 h2 => e _ _ (c i x row h1 h2)⟩
theorem Maps.but {H H' : Hp} {l p : Addr} {a b c : Int} {gens : List (List Nat)} (hl : H l = some (.lst [.int a, .int b, .int c])) (h : Maps H p gens) (e : But l H H') : Maps H' p gens := by
  obtain ⟨as, h1, h2, h3⟩ := h.ex
  refine ⟨as, e _ _ (fun z => ?_) h1, h2, fun i x row g1 g2 => e _ _ (fun z => ?_) (h3 i x row g1 g2)⟩
  · rw [z, hl] at h1
    cases as with
    | nil => simp at h1
    | cons u r => simp at h1
  · have := h3 i x row g1 g2
    rw [z, hl] at this
    simp at this
theorem Src.un {H : Hp} {l : Addr} {n : Nat} (h : Src H l n) : ∃ a b c : Int, H l = some (.lst [.int a, .int b, .int c]) := by
  obtain ⟨a, b, c, e, _⟩ := h
  exact ⟨a, b, c, e⟩
theorem Src.ne {H : Hp} {l x : Addr} {n : Nat} (h : Src H l n) (nx : H x = none) : x ≠ l := fun z => by
  obtain ⟨a, b, c, e⟩ := h.un
  rw [← z, nx] at e
  cases e
theorem Src.upd {H : Hp} {l x : Addr} {n : Nat} {o : HO} (h : Src H l n) (nx : x ≠ l) : Src (L2.upd H x o) l n := by
  obtain ⟨a, b, c, e, r⟩ := h
  exact ⟨a, b, c, by rw [upd_ne nx.symm]; exact e, r⟩
def spMaps : Sp := fun vs H Q _ => ∃ (l : Addr) (n mp ml : Nat), vs = [.ref l, .int mp, .int ml] ∧ Src H l n ∧ n + 40 ≤ 1000000 ∧ 1 ≤ mp ∧ mp ≤ 4 ∧ 1 ≤ ml ∧ ml ≤ 6 ∧
  ∀ p gens size H', But l H H' → H p = none → Maps H' p gens → gens ≠ [] → gens.length ≤ 6 → 1 ≤ size → size ≤ 4 → (∀ g ∈ gens, Mon.Valid size g) → Src H' l (n + 40) → Q (.ref p) H'
abbrev teDraw : TE := fun σ H Q => (tCons (tVar 0) (tCons (tVar 3) tNil)) σ H fun vs H1 => spDraw vs H1 Q E0
abbrev teMap (K : PySem.W.Frag) : TE := tCB (rTup K) (tCons (tLc (iRng1 (tCons (tVar 3) tNil)) (gName 5) tYes teDraw [5]) tNil)
/-- the scope of the comprehension over the turns -/
def scTurn : Scope := { kind := .function, names := [(".0", .local), ("_law_turn", .local), ("tuple", .globalImplicit), ("range", .globalImplicit), ("_law_size", .cell), ("_law_source_here", .cell)], isGenerator := false, isCoroutine := false }
/-- one map -/
theorem one_map {K : PySem.W.Frag} {H : Hp} {l : Addr} {n size : Nat} {v1 v2 v4 v5 v6 : Option V} {Q : VK} (src : Src H l n) (n1 : n + size ≤ 1000000) (s1 : 1 ≤ size) (s4 : size ≤ 4)
    (k : ∀ t xs H', But l H H' → H t = none → H' t = some (.tup (xs.map nv)) → Mon.Valid size xs → Src H' l (n + size) → Q (.ref t) H') :
    teMap K [some (.ref l), v1, v2, some (.int (size : Nat)), v4, v5, v6] H Q := by
  refine ⟨_, rfl, (size : Nat), rfl, by omega, by omega, fun D nD => ?_⟩
  have nDl := src.ne nD
  refine lc_range (lo := 0) (n := size) (fun i Hc => (∀ b o, b ≠ l → b ≠ D → H b = some o → Hc b = some o) ∧ Src Hc l (n + i) ∧ ∃ acc : List Nat, Hc D = some (.lst (acc.map nv)) ∧ acc.length = i ∧ ∀ z ∈ acc, z < size) ⟨fun b o _ nb e => by rw [upd_ne nb]; exact e, src.upd nDl, [], upd_same, rfl, fun z hz => by cases hz⟩ (fun i Hc hi ⟨bc, sc, acc, hD, la, oa⟩ => ?_) (fun Hc ⟨bc, sc, acc, hD, la, oa⟩ => ?_)
  · refine ⟨rfl, yesT ?_⟩
    refine ⟨_, rfl, _, rfl, l, n + i, (size : Nat), rfl, sc, by omega, by omega, by omega, fun x H' x0 x1 b' src' => ?_⟩
    obtain ⟨x, rfl⟩ : ∃ x' : Nat, x = (x' : Nat) := ⟨x.toNat, by omega⟩
    have hD' := b' _ _ nDl hD
    refine ⟨_, hD', by rw [List.length_map, la]; show i < 16777216; omega, fun b o nl nb e => by rw [upd_ne nb]; exact b' _ _ nl (bc _ _ nl nb e), src'.upd nDl, acc ++ [x], by rw [upd_same]; simp, by simp [la], fun z hz => ?_⟩
    rcases List.mem_append.mp hz with h | h
    · exact oa z h
    · rw [List.mem_singleton.mp h]
      omega
  · refine ⟨D, _, rfl, .inl ⟨SqL.of hD, fun t nt => ?_⟩⟩
    have ntl := sc.ne nt
    have ntD : t ≠ D := fun z => by rw [z, hD] at nt; cases nt
    refine k t acc _ (fun b o nl e => ?_) ?_ upd_same ⟨la, oa⟩ (sc.upd ntl)
    · have nb : b ≠ D := ne_of_none e nD
      have nt' : b ≠ t := ne_of_none (bc _ _ nl nb e) nt
      rw [upd_ne nt']
      exact bc _ _ nl nb e
    · cases e : H t with
      | none => rfl
      | some o => rw [bc _ _ ntl ntD e] at nt; cases nt
section
variable {P : Program} {w : World} {K : PySem.W.Frag} {mg : Str → Option Value} {base : Heap}
theorem scMaps : FnScope ["_law_source_here", "_law_most_points", "_law_most_letters", "_law_size", "_law_many", "_law_point", "_law_turn"] ["_law_source_here", "_law_most_points", "_law_most_letters"] (defScope s_L_maps) := ⟨rfl, rfl, rfl, by decide +kernel, rfl, by decide +kernel, by decide +kernel⟩
theorem ok_maps {f : Addr} {fd : FuncData} {q : Str} (F : FunD K "_law_maps" q (defArgs s_L_maps) (defBody s_L_maps) (defScope s_L_maps) [] [] f fd) (zr : mg "range" = none) (zt : mg "tuple" = none)
    (DD : Def P w K mg base CX0 1 "_law_draw" ["_law_source_here", "_law_many"] spDraw) :
    FnOk P w K mg base CX0 2 f fd ["_law_source_here", "_law_most_points", "_law_most_letters"] spMaps := by
  refine F.ok scMaps (fun vs H Q E h => ?_) (fun cdv A outer s H vs Q E hr h => ?_)
  · obtain ⟨l, n, mp, ml, rfl, _⟩ := h
    rfl
  · obtain ⟨l, n, mp, ml, rfl, src, n1, p1, p4, m1, m6, k⟩ := h
    refine ⟨_, PSs.nox (pss_cons (ps_asg (pe_tup (pa_cons (pe_op op_add pe_int (pe_def DD hr pass0 rfl (pa_cons (pv 0) (pa_cons (pv 1) pa_nil)))) (pa_cons (pe_op op_add pe_int (pe_def DD hr pass0 rfl (pa_cons (pv 0) (pa_cons (pv 2) pa_nil)))) pa_nil)))
        (pg_tup rfl (pgs_cons (pg_name (i := 3) scMaps.nd rfl (.inr rfl)) (pgs_cons (pg_name (i := 4) scMaps.nd rfl (.inl rfl)) pgs_nil))))
      (pss_one (ps_ret (pe_lc (own := [("_law_turn", 6)]) (g := gName 6) (te := teMap K) (by rfl) scMaps.nd (pi_range1 rfl zr (pa_cons (pv 4) pa_nil)) (blkOk_by (own := [("_law_turn", 6)]) (N := ["_law_source_here", "_law_most_points", "_law_most_letters", "_law_size", "_law_many", "_law_point", "_law_turn"]) (sc := defScope s_L_maps) (by decide +kernel)) (fun _ _ _ _ _ => pg_name (i := 6) scMaps.nd rfl (Or.inl rfl)) (fun _ _ _ _ _ => pts_nil)
        (fun _ _ _ _ _ => by exact pe_callTy call_tuple_of rfl zt PyProof.Rows.boot_tuple (pa_cons (pe_lc (own := [("_law_point", 5)]) (g := gName 5) (te := teDraw) (by rfl) scMaps.nd (pi_range1 rfl zr (pa_cons (pv 3) pa_nil)) (blkOk_by (own := [("_law_point", 5)]) (N := ["_law_source_here", "_law_most_points", "_law_most_letters", "_law_size", "_law_many", "_law_point", "_law_turn"]) (sc := scTurn) (by decide +kernel)) (fun _ _ _ _ _ => pg_name (i := 5) scMaps.nd rfl (Or.inl rfl)) (fun _ _ _ _ _ => pts_nil)
          (fun _ _ _ _ _ => by exact pe_def DD hr pass0 rfl (pa_cons (pv 0) (pa_cons (pv 3) pa_nil)))) pa_nil)))))), ?_⟩
    refine ⟨_, rfl, _, rfl, l, n, (mp : Nat), rfl, src, by omega, by omega, by omega, fun x H1 x0 x1 b1 src1 => ?_⟩
    refine ⟨1, x, rfl, rfl, _, rfl, _, rfl, l, n + 1, (ml : Nat), rfl, src1, by omega, by omega, by omega, fun y H2 y0 y1 b2 src2 => ?_⟩
    refine ⟨1, y, rfl, rfl, ?_⟩
    refine ⟨(by show 2 ≤ sizeLine; decide), fun T nT => ?_⟩
    refine ⟨T, _, rfl, SqT.of upd_same, rfl, _, _, rfl, _, _, rfl, rfl, ?_⟩
    obtain ⟨x, rfl⟩ : ∃ x' : Nat, x = (x' : Nat) := ⟨x.toNat, by omega⟩
    obtain ⟨y, rfl⟩ : ∃ y' : Nat, y = (y' : Nat) := ⟨y.toNat, by omega⟩
    have ex : (1 : Int) + (x : Nat) = ((1 + x : Nat) : Int) := by omega
    have ey : (1 : Int) + (y : Nat) = ((1 + y : Nat) : Int) := by omega
    have nTl := src2.ne nT
    have src3 := src2.upd (o := .tup [.int (1 + (x : Nat)), .int (1 + (y : Nat))]) nTl
    have b3 : But l H (L2.upd H2 T (.tup [.int (1 + (x : Nat)), .int (1 + (y : Nat))])) := But.trans (b1.trans b2) (But.of (same_upd nT))
    generalize L2.upd H2 T (.tup [.int (1 + (x : Nat)), .int (1 + (y : Nat))]) = H3 at src3 b3 ⊢
    refine ⟨_, rfl, ((1 + y : Nat) : Int), congrArg (fun z => [V.int z]) ey, by omega, by omega, fun D nD => ?_⟩
    have nDl := src3.ne nD
    refine lc_range (lo := 0) (n := 1 + y) (fun i Hc => (∀ b o, b ≠ l → b ≠ D → H3 b = some o → Hc b = some o) ∧ Src Hc l (n + 2 + i * 4) ∧ ∃ (as : List Addr) (gens : List (List Nat)), Hc D = some (.lst (as.map V.ref)) ∧ as.length = i ∧ gens.length = i ∧ (∀ (j : Nat) a row, as[j]? = some a → gens[j]? = some row → Hc a = some (.tup (row.map nv))) ∧ ∀ g ∈ gens, Mon.Valid (1 + x) g)
      ⟨fun b o _ nb e => by rw [upd_ne nb]; exact e, src3.upd nDl, [], [], upd_same, rfl, rfl, fun j a row h => by simp at h, fun z hz => by cases hz⟩ (fun i Hc hi ⟨bc, sc, as, gens, hD, la, lg, el, vl⟩ => ?_) (fun Hc ⟨bc, sc, as, gens, hD, la, lg, el, vl⟩ => ?_)
    · refine ⟨rfl, yesT ?_⟩
      show teMap K [some (.ref l), _, _, some (.int (1 + (x : Nat))), _, _, _] Hc _
      rw [ex]
      refine one_map sc (by omega) (by omega) (by omega) fun t xs H' b' nt ht va src' => ?_
      have hD' := b' _ _ nDl hD
      have ntD : t ≠ D := fun z => by rw [z, hD] at nt; cases nt
      refine ⟨_, hD', by rw [List.length_map, la]; show i < 16777216; omega, fun b o nl nb e => by rw [upd_ne nb]; exact b' _ _ nl (bc _ _ nl nb e), (src'.upd nDl).up (by omega), as ++ [t], gens ++ [xs], by rw [upd_same]; simp, by simp [la], by simp [lg], fun j a row h1 h2 => ?_, fun g hg => ?_⟩
      · by_cases hj : j < i
        · rw [List.getElem?_append_left (by omega)] at h1 h2
          have e0 := el j a row h1 h2
          have nal : a ≠ l := fun z => by
            obtain ⟨u, v, w', e, _⟩ := sc
            rw [z, e] at e0
            cases e0
          have naD : a ≠ D := fun z => by
            rw [z, hD] at e0
            cases e0
          rw [upd_ne naD]
          exact b' _ _ nal e0
        · have ej : j = i := by
            have := get_lt h1
            simp at this
            omega
          subst ej
          rw [List.getElem?_append_right (by omega), la, Nat.sub_self] at h1
          rw [List.getElem?_append_right (by omega), lg, Nat.sub_self] at h2
          cases h1
          cases h2
          rw [upd_ne ntD]
          exact ht
      · rcases List.mem_append.mp hg with h | h
        · exact vl g h
        · rw [List.mem_singleton.mp h]
          exact va
    · have hDn : H D = none := by
        cases e : H D with
        | none => rfl
        | some o => rw [b3 _ _ nDl e] at nD; cases nD
      refine k D gens (1 + x) Hc (fun b o nl e => bc _ _ nl (ne_of_none e hDn) (b3 _ _ nl e)) hDn ⟨as, hD, by omega, el⟩ (fun z => ?_) (by omega) (by omega) (by omega) vl (sc.up (by omega))
      rw [z] at lg
      simp at lg
      omega
end
end K14

set_option Elab.async false
set_option linter.all false
set_option maxRecDepth 100000
set_option maxHeartbeats 4000000
/-! Products of maps, found one by one: pure. -/
namespace Lf
open PySem PySem.Spec PyProof.Rows L2
/-- numbers as the key of a dict -/
def kt (x : List Nat) : List Key := x.map fun i => (Sum.inl ((i : Nat) : Int) : Key)
theorem kt_map {x : List Nat} : (kt x).map kV = x.map fun i => V.int (i : Nat) := by
  unfold kt
  rw [List.map_map]
  rfl
theorem kt_inj : ∀ {x y : List Nat}, kt x = kt y → x = y
  | [], [], _ => rfl
  | [], _ :: _, h => by simp [kt] at h
  | _ :: _, [], h => by simp [kt] at h
  | a :: r, b :: s, h => by
    unfold kt at h
    rw [List.map_cons, List.map_cons] at h
    injection h with h1 h2
    have e : ((a : Int)) = (b : Int) := Sum.inl.inj h1
    rw [show a = b by omega, kt_inj (x := r) (y := s) h2]
/-- a dict of numbers by their place -/
def dtabF : Nat → List (List Nat) → List (List Key × V)
  | _, [] => []
  | k, x :: r => (kt x, .int (k : Nat)) :: dtabF (k + 1) r
abbrev dtab (f : List (List Nat)) : List (List Key × V) := dtabF 0 f
theorem dtabF_len : ∀ {f : List (List Nat)} {k : Nat}, (dtabF k f).length = f.length
  | [], _ => rfl
  | x :: r, k => by rw [dtabF, List.length_cons, dtabF_len, List.length_cons]
theorem dtabF_snoc {x : List Nat} : ∀ {f : List (List Nat)} {k : Nat}, dtabF k (f ++ [x]) = dtabF k f ++ [(kt x, .int (k + f.length : Nat))]
  | [], k => rfl
  | y :: r, k => by
    rw [List.cons_append, dtabF, dtabF, dtabF_snoc, List.cons_append, List.length_cons, show k + 1 + r.length = k + (r.length + 1) by omega]
theorem dtabF_none {x : List Nat} : ∀ {f : List (List Nat)} {k : Nat}, x ∉ f → valV (dtabF k f) (kt x) = none
  | [], _, _ => rfl
  | y :: r, k, h => by
    have hy : ¬ kt y = kt x := fun z => h (by rw [kt_inj z]; exact List.mem_cons_self)
    rw [dtabF, valV_neg (p := (kt y, V.int (k : Nat))) hy]
    exact dtabF_none fun z => h (List.mem_cons_of_mem _ z)
theorem dtabF_some {x : List Nat} : ∀ {f : List (List Nat)} {k i : Nat}, f.Nodup → f[i]? = some x → valV (dtabF k f) (kt x) = some (.int (k + i : Nat))
  | [], _, _, _, h => by simp at h
  | y :: r, k, 0, _, h => by
    cases h
    rw [dtabF, valV_pos (p := (kt x, V.int (k : Nat))) rfl]
    rfl
  | y :: r, k, i + 1, nd, h => by
    have hm : r[i]? = some x := h
    obtain ⟨h1, h2⟩ := List.nodup_cons.mp nd
    have hy : ¬ kt y = kt x := fun z => h1 (by rw [kt_inj z]; exact List.mem_of_getElem? hm)
    rw [dtabF, valV_neg (p := (kt y, V.int (k : Nat))) hy, dtabF_some h2 hm, show k + 1 + i = k + (i + 1) by omega]
theorem dtab_put {x : List Nat} {f : List (List Nat)} (h : x ∉ f) : putK (dtab f) (kt x) (.int (f.length : Nat)) = dtab (f ++ [x]) := by
  rw [putK_new _ (dtabF_none h), dtab, dtabF_snoc, Nat.zero_add]
end Lf
namespace Mon
/-- the words of what was met -/
def wordStep (L : List (List Nat)) (p : Nat × Nat) : List (List Nat) := L ++ [L.getD p.1 [] ++ [p.2]]
def wordTab (m : List (Nat × Nat)) : List (List Nat) := m.foldl wordStep [[]]
theorem word_snoc {m : List (Nat × Nat)} {p : Nat × Nat} : wordTab (m ++ [p]) = wordStep (wordTab m) p := by
  unfold wordTab
  rw [List.foldl_append]
  rfl
theorem word_len : ∀ {m : List (Nat × Nat)}, (wordTab m).length = m.length + 1 := by
  intro m
  unfold wordTab
  suffices h : ∀ (m : List (Nat × Nat)) (L : List (List Nat)), (m.foldl wordStep L).length = L.length + m.length by
    rw [h]
    show 1 + m.length = _
    omega
  intro m
  induction m with
  | nil => intro L; rfl
  | cons p r ih =>
    intro L
    rw [List.foldl_cons, ih, wordStep, List.length_append, List.length_cons, List.length_cons, List.length_nil]
    omega
/-- the search at letter c of row i -/
structure Bfs (n : Nat) (gens : List (List Nat)) (i c : Nat) (found rows : List (List Nat)) (row : List Nat) (m : List (Nat × Nat)) : Prop where
  nd : found.Nodup
  val : ∀ x ∈ found, Valid n x
  gval : ∀ g ∈ gens, Valid n g
  head : found[0]? = some (idm n)
  len : rows.length = i
  wid : ∀ (j : Nat) r, rows[j]? = some r → r.length = gens.length
  ent : ∀ (j : Nat) r, rows[j]? = some r → ∀ (k t : Nat), r[k]? = some t → ∃ x g, found[j]? = some x ∧ gens[k]? = some g ∧ found[t]? = some (comp x g)
  rlen : row.length = c
  rent : ∀ (k t : Nat), row[k]? = some t → ∃ x g, found[i]? = some x ∧ gens[k]? = some g ∧ found[t]? = some (comp x g)
  made : ∃ m0, madeTab 0 rows [] = some m0 ∧ (c ≠ 0 → i < m0.length + 1) ∧ madeRow i 0 row m0 = some m
  mlen : m.length + 1 = found.length
  le : i ≤ found.length
theorem Bfs.few {n : Nat} {gens found rows : List (List Nat)} {i c : Nat} {row : List Nat} {m : List (Nat × Nat)} (B : Bfs n gens i c found rows row m) : found.length ≤ n ^ n := maps_few B.nd B.val
theorem Bfs.start {n : Nat} {gens : List (List Nat)} (gv : ∀ g ∈ gens, Valid n g) : Bfs n gens 0 0 [idm n] [] [] [] where
  nd := by simp
  val := fun x hx => by rw [List.mem_singleton.mp hx]; exact idm_valid
  gval := gv
  head := rfl
  len := rfl
  wid := fun j r h => by simp at h
  ent := fun j r h => by simp at h
  rlen := rfl
  rent := fun k t h => by simp at h
  made := ⟨[], rfl, fun z => (z rfl).elim, rfl⟩
  mlen := rfl
  le := Nat.zero_le _
theorem get_app {α : Type} {l : List α} {i : Nat} {x : α} (y : α) (h : l[i]? = some x) : (l ++ [y])[i]? = some x := by
  rw [List.getElem?_append_left (List.getElem?_eq_some_iff.mp h).1]
  exact h
theorem snoc_cases {α : Type} {l : List α} {j : Nat} {x y : α} (h : (l ++ [y])[j]? = some x) : l[j]? = some x ∨ j = l.length ∧ x = y := by
  by_cases hj : j < l.length
  · rw [List.getElem?_append_left hj] at h
    exact .inl h
  · have := (List.getElem?_eq_some_iff.mp h).1
    rw [List.length_append, List.length_singleton] at this
    have e : j = l.length := by omega
    subst e
    rw [List.getElem?_append_right (Nat.le_refl _), Nat.sub_self] at h
    exact .inr ⟨rfl, (Option.some.inj h).symm⟩
section
variable {n : Nat} {gens found rows : List (List Nat)} {i c : Nat} {row : List Nat} {m : List (Nat × Nat)}
/-- a product that was met before -/
theorem Bfs.old (B : Bfs n gens i c found rows row m) {x g : List Nat} {t : Nat} (hx : found[i]? = some x) (hg : gens[c]? = some g) (ht : found[t]? = some (comp x g)) : Bfs n gens i (c + 1) found rows (row ++ [t]) m := by
  obtain ⟨m0, a1, a2, a3⟩ := B.made
  have tl := (List.getElem?_eq_some_iff.mp ht).1
  have il := (List.getElem?_eq_some_iff.mp hx).1
  have ml := B.mlen
  refine { B with rlen := by rw [List.length_append, B.rlen]; rfl, rent := fun k u h => ?_, made := ⟨m0, a1, fun _ => ?_, ?_⟩ }
  · rcases snoc_cases h with h | ⟨rfl, rfl⟩
    · exact B.rent k u h
    · exact ⟨x, g, hx, by rw [B.rlen]; exact hg, ht⟩
  · by_cases hc : c = 0
    · subst hc
      have : row = [] := List.length_eq_zero_iff.mp B.rlen
      subst this
      have e : m0 = m := Option.some.inj a3
      subst e
      omega
    · exact a2 hc
  · rw [madeRow_snoc, a3, Option.bind_some, if_neg (by omega), if_neg (by omega)]
/-- a new one -/
theorem Bfs.new (B : Bfs n gens i c found rows row m) {x g : List Nat} (hx : found[i]? = some x) (hg : gens[c]? = some g) (hn : comp x g ∉ found) : Bfs n gens i (c + 1) (found ++ [comp x g]) rows (row ++ [found.length]) (m ++ [(i, c)]) := by
  obtain ⟨m0, a1, a2, a3⟩ := B.made
  have il := (List.getElem?_eq_some_iff.mp hx).1
  have ml := B.mlen
  refine ⟨?_, fun z hz => ?_, B.gval, get_app _ B.head, B.len, B.wid, fun j r hr k t ht => ?_, by rw [List.length_append, B.rlen]; rfl, fun k t h => ?_, ⟨m0, a1, fun _ => ?_, ?_⟩, by simp [ml], by rw [List.length_append]; omega⟩
  · rw [List.nodup_append]
    refine ⟨B.nd, by simp, fun a ha b hb e => ?_⟩
    rw [e, List.mem_singleton.mp hb] at ha
    exact hn ha
  · rcases List.mem_append.mp hz with h | h
    · exact B.val z h
    · rw [List.mem_singleton.mp h]
      exact comp_valid (B.val x (List.mem_of_getElem? hx)) (B.gval g (List.mem_of_getElem? hg))
  · obtain ⟨u, v, h1, h2, h3⟩ := B.ent j r hr k t ht
    exact ⟨u, v, get_app _ h1, h2, get_app _ h3⟩
  · rcases snoc_cases h with h | ⟨rfl, rfl⟩
    · obtain ⟨u, v, h1, h2, h3⟩ := B.rent k t h
      exact ⟨u, v, get_app _ h1, h2, get_app _ h3⟩
    · refine ⟨x, g, get_app _ hx, by rw [B.rlen]; exact hg, ?_⟩
      rw [List.getElem?_append_right (Nat.le_refl _), Nat.sub_self]
      rfl
  · by_cases hc : c = 0
    · subst hc
      have : row = [] := List.length_eq_zero_iff.mp B.rlen
      subst this
      have e : m0 = m := Option.some.inj a3
      subst e
      omega
    · exact a2 hc
  · rw [madeRow_snoc, a3, Option.bind_some, if_neg (by omega), if_pos ml.symm, Nat.zero_add, B.rlen]
/-- the end of a row -/
theorem Bfs.next (B : Bfs n gens i c found rows row m) (hc : c = gens.length) (c0 : c ≠ 0) {x : List Nat} (hx : found[i]? = some x) : Bfs n gens (i + 1) 0 found (rows ++ [row]) [] m := by
  obtain ⟨m0, a1, a2, a3⟩ := B.made
  have il := (List.getElem?_eq_some_iff.mp hx).1
  refine ⟨B.nd, B.val, B.gval, B.head, by rw [List.length_append, B.len]; rfl, fun j r h => ?_, fun j r h k t ht => ?_, rfl, fun k t h => by simp at h, ⟨m, ?_, fun z => (z rfl).elim, rfl⟩, B.mlen, il⟩
  · rcases snoc_cases h with h | ⟨rfl, rfl⟩
    · exact B.wid j r h
    · rw [B.rlen, hc]
  · rcases snoc_cases h with h | ⟨rfl, rfl⟩
    · exact B.ent j r h k t ht
    · rw [B.len]
      exact B.rent k t ht
  · rw [madeTab_snoc, a1, Option.bind_some, Nat.zero_add, B.len, if_neg (by have := a2 c0; omega)]
    exact a3
/-- the end of the search -/
theorem Bfs.tab (B : Bfs n gens i 0 found rows [] m) (h : found.length ≤ i) : Tab n gens found rows ∧ madeTab 0 rows [] = some m ∧ m.length + 1 = rows.length := by
  obtain ⟨m0, a1, a2, a3⟩ := B.made
  have e : m0 = m := Option.some.inj a3
  subst e
  have le := B.le
  have l := B.len
  have ml := B.mlen
  exact ⟨⟨B.nd, B.val, B.gval, B.head, by omega, B.wid, B.ent⟩, a1, by omega⟩
end
end Mon

set_option Elab.async false
set_option linter.all false
set_option maxRecDepth 100000
set_option maxHeartbeats 4000000
/-! {key: value} with a tuple key. -/
namespace Lf
open PySem PySem.Spec PyProof.Rows L2
/-- {k: v} -/
def tDispT1 (tk tv : TE) : TE := fun σ H Q => ∀ p, H p = none → tk σ (upd H p (.dT [])) fun x H1 => tv σ H1 fun y H2 => ∃ ks b H3, H2 p = some (.dT []) ∧ x = .ref b ∧ H2 b = some (.tup (ks.map kV)) ∧ H3 = upd H2 p (.dT [(ks, y)]) ∧ Q (.ref p) H3
theorem pe_dispT1 {X : Cx} {pos : Pos} {k v : Expr} {tk tv : TE} (hu : X.A.units + 1 < cLine) (hk : PE X k tk) (hv : PE X v tv) : PE X (.Dict [some k] [v] pos) (tDispT1 tk tv) := by
  refine ⟨fun pins s σ H Q I q => ?_⟩
  have hn := I.hok.fresh (Nat.le_refl s.heap.objs.size)
  have I1 := I.laid (a := s.heap.objs.size) (o := .dT []) (h' := s.heap.push { cls := .type "dict", data := .dict #[] }) (t' := s.toks) (fun _ _ q => Heap.get?_push_of_some _ q) (Nat.le_refl _) (dt_empty s.heap I.big)
  rw [arm_eval_Dict, zip_pairTrees [some k] [v] X.env pos rfl rfl, dictDisplay_pairs (pairTrees [some k] [v] X.env pos) (fun z => by cases z) (show 1 < 17 by decide)]
  refine wpAny_bind (wpAny_standAt (wpAny_bind ?_))
  unfold subDict
  refine wpAny_bind (wpAny_alloc ?_)
  refine wpAny_bind (wpAny_holding ?_)
  rw [if_pos (show (pairTrees [some k] [v] X.env pos).length ≤ 15 from (by show 1 ≤ 15; decide))]
  refine wpAny_bind (pairTrees_cons_walk (thn (hk.run pins _ σ _ _ I1 (q _ hn)) fun u s1 ⟨x, H1, I1, rx, q1⟩ => thn (hv.run pins s1 σ H1 _ I1 q1) fun r s2 ⟨y, H2, I2, ry, q2⟩ => pairTrees_nil_walk ?_))
  obtain ⟨ks, b, H3, e, ex, eb, e3, q3⟩ := q2
  subst ex e3
  cases (show u = Value.ref b from rx)
  obtain ⟨z, hd, xs, rel, dd⟩ := dt_of I2.hok e
  cases rel
  refine wpAny_holding ?_
  rw [List.forIn_cons]
  refine wpAny_bind (wpAny_bind (wpAny_bind (wpAny_dictSet_heap (hsz := by decide) (show (tupleKind (mixKind X.prog X.w)).room X.A from Nat.lt_of_succ_lt hu) (key_of I2.hok eb) dd fun h' dd' hs => wpAny_pure ?_)))
  dsimp only
  refine wpAny_pure (wpAny_pure (wpAny_pure (wpAny_pure ⟨.ref s.heap.objs.size, _, ?_, rfl, q3⟩)))
  obtain ⟨q, es, ep, hq, h2, h3, h4, _, h5⟩ := dd'
  refine d_write I2 (by rw [e]; exact True.intro) hs ⟨q, hq⟩ ⟨by show 1 ≤ sizeLine; decide, hd, _, ((show KT H2 [] [] from .nil).put ks eb ry).keeps fun c ys ec => ?_, q, es, ep, hq, h2, h3, h4, h5⟩
  rw [upd_ne (ne_of ec e (fun z => nomatch z))]
  exact ec
end Lf

set_option Elab.async false
set_option linter.all false
set_option maxRecDepth 100000
set_option maxHeartbeats 4000000
/-! zip(text, list), walked. -/
namespace Lf
open PySem PySem.Spec PyProof.Rows L2
/-- the cells of such a zip lie apart -/
structure Far (z TI TO i1 i2 b : Addr) : Prop where
  a1 : TI ≠ z
  a2 : TO ≠ z
  a3 : TI ≠ TO
  a4 : TI ≠ i1
  a5 : TI ≠ i2
  a6 : z ≠ i1
  a7 : z ≠ i2
  a8 : TO ≠ i1
  a9 : TO ≠ i2
  b1 : i1 ≠ i2
  c1 : z ≠ b
  c2 : TO ≠ b
  c3 : i1 ≠ b
  c4 : i2 ≠ b
theorem Far.sep {z TI TO i1 i2 b : Addr} (f : Far z TI TO i1 i2 b) : ZipSep2 z TI TO i1 i2 [i1] [i2, b] where
  TIz := f.a1
  TOz := f.a2
  TITO := f.a3
  TIi1 := f.a4
  mem1 := List.mem_cons_self
  zf1 := fun h => f.a6 (List.mem_singleton.mp h)
  Tf1 := fun h => f.a8 (List.mem_singleton.mp h)
  TIi2 := f.a5
  mem2 := List.mem_cons_self
  zf2 := fun h => by
    simp only [List.mem_cons, List.not_mem_nil, or_false] at h
    exact h.elim f.a7 f.c1
  Tf2 := fun h => by
    simp only [List.mem_cons, List.not_mem_nil, or_false] at h
    exact h.elim f.a9 f.c2
  sep1_2 := fun h => by
    simp only [List.mem_cons, List.not_mem_nil, or_false] at h
    exact h.elim f.b1 f.c3
  sep2_1 := fun h => f.b1 (List.mem_singleton.mp h).symm
/-- signs of a text and items of a list, in new pairs -/
def Itzs (K : PySem.W.Frag) (x : Str) (b : Addr) : It :=
  ⟨fun i H => ∃ (ys : List V) (c : Nat) (y : V), SqL K H b ys ∧ x.cps[i]? = some c ∧ ys[i]? = some y,
    fun i H v H' => ∃ (T : Addr) (c : Nat) (y : V), v = .ref T ∧ H T = none ∧ H' = L2.upd H T (.tup [.str ⟨#[c]⟩, y]) ∧ x.cps[i]? = some c ∧ ∀ ys, SqL K H b ys → ys[i]? = some y,
    fun i H => ∃ ys : List V, SqL K H b ys ∧ i ≤ x.cps.size ∧ i ≤ ys.length ∧ (i = x.cps.size ∨ i = ys.length)⟩
theorem turn_zips {P : Program} {w : World} {K : PySem.W.Frag} {elts : List Expr} {kk : Nat} {tpos : Pos} {z TI TO i1 i2 b : Addr} (x : Str) (t : Tok) (f : Far z TI TO i1 i2 b) :
    Turn P w K (.Tuple elts kk tpos) (Itzs K x b) [z, TI, TO, i1, i2] z (fun i h => IsZip h z TI TO .none ∧ IsTupOf2 h TI (.ref i1) (.ref i2) ∧ (∃ p q, IsTupOf2 h TO p q) ∧ h.IsStrIter i1 (strIterType x) x t i ∧ h.IsListIter i2 b i) where
  mem := List.mem_cons_self
  obj := fun i h st c hc => by
    obtain ⟨hz, hTI, ⟨p, q, hTO⟩, ⟨o1, e1, _, d1⟩, ⟨o2, e2, _, d2⟩⟩ := st
    simp only [List.mem_cons, List.not_mem_nil, or_false] at hc
    rcases hc with rfl | rfl | rfl | rfl | rfl
    · exact ⟨_, hz, fun v q => nomatch q⟩
    · exact ⟨_, hTI, fun v q => nomatch q⟩
    · exact ⟨_, hTO, fun v q => nomatch q⟩
    · exact ⟨o1, e1, fun v q => by rw [d1] at q; cases q⟩
    · exact ⟨o2, e2, fun v q => by rw [d2] at q; cases q⟩
  keep := fun i h h' st k => by
    obtain ⟨hz, hTI, ⟨p, q, hTO⟩, h1, h2⟩ := st
    obtain ⟨o1, e1, g1⟩ := h1
    exact ⟨k z (by simp) _ hz, k TI (by simp) _ hTI, ⟨p, q, k TO (by simp) _ hTO⟩, ⟨o1, k i1 (by simp) _ e1, g1⟩, h2.at fun o e => k i2 (by simp) o e⟩
  item := by
    intro X hP hw hK hc i pins s σ H E I hf st hg
    subst hP hw hK
    obtain ⟨hz, hTI, ⟨p0, q0, hTO⟩, h1, h2⟩ := st
    obtain ⟨ys, c, y, hq, hx, hy⟩ := hg
    obtain ⟨its, rv, p, _⟩ := I.list hq
    obtain ⟨u, hu, ru⟩ := rv.get hy
    have calm : X.A.in1.handled = none := by have := I.ok.hd hc; simp [this]
    have zl : z < s.heap.objs.size := Heap.lt_size hz
    have lt1 : i < x.cps.size := (Array.getElem?_eq_some_iff.mp hx).1
    have lt2 : i < its.toArray.size := by rw [List.size_toArray, ← rv.length]; exact (List.getElem?_eq_some_iff.mp hy).1
    refine wpAny_pyNext_zipD2_item f.sep (Draws.text (prog := X.prog) (w := X.w) calm i1 x t) (Draws.list (prog := X.prog) (w := X.w) calm i2 b (Ne.symm f.c4) its.toArray) hz hTI hTO h1 ⟨h2, p.isList⟩ lt1 lt2
      fun x1 x2 h' tk y1 y2 hz' hTO' d1 d2 hT hsz hk => ?_
    obtain ⟨c', t', hc', rfl⟩ := y1
    rw [hx] at hc'
    cases hc'
    have eu : u = x2 := by
      have q : its[i]? = some x2 := by simpa using y2
      rw [hu] at q
      exact Option.some.inj q
    subst eu
    refine ⟨_, rfl, wpAny_letOwnedTupleGo_zip (s := { s with heap := h', toks := tk }) hz' fun h'' z'' sb => ?_⟩
    have hT2 : h''.get? s.heap.objs.size = some { cls := .type "tuple", data := .seq #[.str ⟨#[c]⟩ t', u] } := (sb.2 _ (Nat.ne_of_gt zl)).trans hT
    have new : ObjOk X.prog X.w (L2.upd H s.heap.objs.size (.tup [.str ⟨#[c]⟩, y])) h'' s.heap.objs.size (.tup [.str ⟨#[c]⟩, y]) :=
      ⟨by show 2 ≤ sizeLine; decide, [.str ⟨#[c]⟩ t', u], .cons ⟨_, rfl⟩ (.cons ru .nil), ⟨_, hT2, rfl, _, rfl⟩⟩
    have I1 : Inv X pins σ (L2.upd H s.heap.objs.size (.tup [.str ⟨#[c]⟩, y])) { s with heap := h'', toks := tk } :=
      I.turnedNew (ch := [z, TI, TO, i1, i2]) (fun d o hb q => (sb.2 d (fun e => hb (by simp [e]))).trans (hk d o (fun e => hb (by simp [e])) (fun e => hb (by simp [e])) (fun e => hb (by simp [e])) (fun e => hb (by simp [e])) q)) hf (Nat.le_refl _) new
    obtain ⟨o1, e1, g1⟩ := d1
    refine ⟨.ref s.heap.objs.size, _, I1, rfl, ⟨_, c, y, rfl, I.hok.fresh (Nat.le_refl _), rfl, hx, fun l hl => by rw [I.list_inj hl hq]; exact hy⟩, ⟨z'', ?_, ⟨_, _, (sb.2 _ f.a2).trans hTO'⟩, ⟨o1, (sb.2 _ (Ne.symm f.a6)).trans e1, g1⟩, d2.1.at fun o q => (sb.2 _ (Ne.symm f.a7)).trans q⟩, fun d hd => ?_⟩
    · exact (sb.2 _ f.a1).trans (hk _ _ f.a1 f.a3 f.a4 f.a5 hTI)
    · have lt : d < s.heap.objs.size := by
        simp only [List.mem_cons, List.not_mem_nil, or_false] at hd
        rcases hd with rfl | rfl | rfl | rfl | rfl
        · exact zl
        · exact Heap.lt_size hTI
        · exact Heap.lt_size hTO
        · obtain ⟨_, e, _⟩ := h1; exact Heap.lt_size e
        · obtain ⟨_, e, _⟩ := h2; exact Heap.lt_size e
      rw [upd_ne (Nat.ne_of_lt lt)]
      exact (hf d hd).1
  done := by
    intro X hP hw hK hc i pins s σ H E I hf st hg
    subst hP hw hK
    obtain ⟨hz, hTI, ⟨p0, q0, hTO⟩, h1, h2⟩ := st
    obtain ⟨ys, hq, le1, le2, hend⟩ := hg
    obtain ⟨its, rv, p, _⟩ := I.list hq
    have l2 := rv.length
    have calm : X.A.in1.handled = none := by have := I.ok.hd hc; simp [this]
    refine wpAny_pyNext_zipD2_end f.sep (Draws.text (prog := X.prog) (w := X.w) calm i1 x t) (Draws.list (prog := X.prog) (w := X.w) calm i2 b (Ne.symm f.c4) its.toArray) hz hTI hTO h1 ⟨h2, p.isList⟩ le1 (by simp; omega) (by simp; omega)
      fun h' tk hk => ⟨rfl, I.turnedL (t' := tk) (ch := [z, TI, TO, i1, i2]) (fun d o hb q => hk d o (fun e => hb (by simp [e])) (fun e => hb (by simp [e])) (fun e => hb (by simp [e])) (fun e => hb (by simp [e])) q) hf⟩
  self := fun A i s Q E st h => wpAny_pyIter_zip st.1 h
def iZips (K : PySem.W.Frag) (ta : TA) : TI := fun σ H R => ta σ H fun vs H1 => ∃ x b ys, vs = [.str x, .ref b] ∧ SqL K H1 b ys ∧ R (Itzs K x b) H1
theorem pi_zips {X : Cx} {e e2 : Expr} {ta : TA} {p pos tpos : Pos} {elts : List Expr} {kk : Nat} (hg : Gl X "zip") (hm : X.mg "zip" = none) (ha : PA X [e, e2] ta)
    (hs : starEach [e, e2] X.env = (false, eval e X.env) :: starEach [e2] X.env := by rfl) (hpl : (backTo pos (starEach [e2] X.env)).any (·.1) = false := by rfl) :
    PI X (.Tuple elts kk tpos) (.Call (.Name "zip" p) [e, e2] [] pos) (iZips X.K ta) := by
  refine ⟨fun pins s σ H R I h => ?_⟩
  refine Call_ (ld_blt I hg hm PyProof.Rows.boot_zip (PyProof.Rows.callWith_type1 (thn (ha.run pos pins s σ H _ I h) fun us s1 hh => ?_) hs hpl))
  obtain ⟨vs, H1, I1, r1, x, b, ys, rfl, hq, q⟩ := hh
  cases r1 with
  | cons r rr =>
    cases rr with
    | cons r2 rr =>
      cases rr
      obtain ⟨t, rfl⟩ := r
      cases r2
      obtain ⟨its, rv, pl, _⟩ := I1.list hq
      have lb : b < s1.heap.objs.size := pl.lt
      refine zip_begins2 (begins_text x t) (begins_list b its.toArray) trivial pl.isList fun h' hz hTI hTO g1 g2 hsz hk => wpAny_pyIter_zip hz ?_
      have I2 : Inv X pins σ H1 { s1 with heap := h' } := I1.kept (t' := s1.toks) hk
      have far : Far (s1.heap.objs.size + 4) (s1.heap.objs.size + 2) (s1.heap.objs.size + 3) s1.heap.objs.size (s1.heap.objs.size + 1) b := by
        have ne : ∀ k : Nat, s1.heap.objs.size + k ≠ b := fun k => Nat.ne_of_gt (Nat.lt_of_lt_of_le lb (Nat.le_add_right _ _))
        refine ⟨?_, ?_, ?_, ?_, ?_, ?_, ?_, ?_, ?_, ?_, ne 4, ne 3, ne 0, ne 1⟩ <;> (intro h; have h' : (_ : Nat) = _ := h; omega)
      refine ⟨s1.heap.objs.size + 4, [s1.heap.objs.size + 4, s1.heap.objs.size + 2, s1.heap.objs.size + 3, s1.heap.objs.size, s1.heap.objs.size + 1], _, _, H1, rfl, I2, turn_zips x t far, ⟨hz, hTI, ⟨_, _, hTO⟩, ⟨_, g1, rfl, rfl⟩, ⟨_, g2, rfl, rfl⟩⟩, fun c hc => ?_, q⟩
      have hle : s1.heap.objs.size ≤ c := by
        simp only [List.mem_cons, List.not_mem_nil, or_false] at hc
        rcases hc with z | z | z | z | z <;> rw [z]
        · exact Nat.le_add_right _ _
        · exact Nat.le_add_right _ _
        · exact Nat.le_add_right _ _
        · exact Nat.le_refl _
        · exact Nat.le_add_right _ _
      exact I1.fpOk hle (I1.hok.fresh hle)
theorem walk_zips {K : PySem.W.Frag} {x : Str} {b : Addr} {ys : List V} (le : ys.length ≤ x.cps.size) : Walk (Itzs K x b) ys.length (fun H => SqL K H b ys)
    (fun i H v H' => ∃ (T : Addr) (c : Nat) (y : V), v = .ref T ∧ H T = none ∧ H' = L2.upd H T (.tup [.str ⟨#[c]⟩, y]) ∧ x.cps[i]? = some c ∧ ys[i]? = some y) where
  goes := fun i H hi g => ⟨ys, x.cps[i]'(by omega), ys[i], g, Array.getElem?_eq_getElem (by omega), List.getElem?_eq_getElem hi⟩
  stops := fun H g => ⟨ys, g, le, Nat.le_refl _, .inr rfl⟩
  yields := fun i H v H' hi g y => by
    obtain ⟨T, c, u, e1, e2, e3, e4, e5⟩ := y
    exact ⟨T, c, u, e1, e2, e3, e4, e5 ys g⟩
end Lf

set_option Elab.async false
set_option linter.all false
set_option maxRecDepth 100000
set_option maxHeartbeats 8000000
namespace K14
open PySem PySem.Spec PyProof.Rows L2 Lf
/-- a word as a text -/
def ws (x : List Nat) : Str := ⟨(x.map fun c => 97 + c).toArray⟩
abbrev wv (x : List Nat) : V := .str (ws x)
theorem ws_app {x : List Nat} {c : Nat} : (ws x ++ (⟨#[97 + c]⟩ : Str)) = ws (x ++ [c]) := by
  show Str.mk ((x.map fun c => 97 + c).toArray ++ #[97 + c]) = ws (x ++ [c])
  unfold ws
  simp
theorem ws_len {x : List Nat} : (ws x).length = x.length := by
  show ((x.map fun c => 97 + c).toArray).size = x.length
  simp
theorem word_shortF : ∀ (m : List (Nat × Nat)) (L : List (List Nat)) (n : Nat), (∀ w ∈ L, w.length ≤ n) → ∀ w ∈ m.foldl Mon.wordStep L, w.length ≤ n + m.length
  | [], L, n, h, w, hw => h w hw
  | p :: r, L, n, h, w, hw => by
    rw [List.length_cons, show n + (r.length + 1) = n + 1 + r.length by omega]
    refine word_shortF r (Mon.wordStep L p) (n + 1) (fun u hu => ?_) w hw
    unfold Mon.wordStep at hu
    rcases List.mem_append.mp hu with g | g
    · have := h u g
      omega
    · rw [List.mem_singleton.mp g, List.length_append, List.length_singleton]
      cases e : L[p.1]? with
      | none => rw [List.getD, e]; show 0 + 1 ≤ _; omega
      | some v =>
        rw [List.getD, e]
        have := h v (List.mem_of_getElem? e)
        show v.length + 1 ≤ _
        omega
theorem word_short {m : List (Nat × Nat)} {w : List Nat} (h : w ∈ Mon.wordTab m) : w.length ≤ m.length := by
  have := word_shortF m [[]] 0 (fun u hu => by rw [List.mem_singleton.mp hu]; exact Nat.le_refl _) w h
  omega
/-- what the search has found, as it lies -/
structure Lay (H : Hp) (pf pw pt pn : Addr) (as bs : List Addr) (found words rows : List (List Nat)) : Prop where
  f : H pf = some (.lst (as.map V.ref))
  fl : as.length = found.length
  fe : ∀ (j : Nat) a x, as[j]? = some a → found[j]? = some x → H a = some (.tup (x.map nv))
  w : H pw = some (.lst (words.map wv))
  t : H pt = some (.lst (bs.map V.ref))
  tl : bs.length = rows.length
  te : ∀ (j : Nat) b r, bs[j]? = some b → rows[j]? = some r → H b = some (.lst (r.map nv))
  tn : ∀ b ∈ bs, b ≠ pf ∧ b ≠ pw ∧ b ≠ pt
  d : H pn = some (.dT (dtab found))
  n1 : pf ≠ pw
  n2 : pf ≠ pt
  n3 : pw ≠ pt
section
variable {H : Hp} {pf pw pt pn : Addr} {as bs : List Addr} {found words rows : List (List Nat)}
theorem Lay.same {H' : Hp} (L : Lay H pf pw pt pn as bs found words rows) (s : Same H H') : Lay H' pf pw pt pn as bs found words rows :=
  ⟨s _ _ L.f, L.fl, fun j a x h1 h2 => s _ _ (L.fe j a x h1 h2), s _ _ L.w, s _ _ L.t, L.tl, fun j b r h1 h2 => s _ _ (L.te j b r h1 h2), L.tn, s _ _ L.d, L.n1, L.n2, L.n3⟩
theorem Lay.gn (L : Lay H pf pw pt pn as bs found words rows) : pn ≠ pf ∧ pn ≠ pw ∧ pn ≠ pt := by
  refine ⟨fun z => ?_, fun z => ?_, fun z => ?_⟩
  · have := L.d; rw [z, L.f] at this; cases this
  · have := L.d; rw [z, L.w] at this; cases this
  · have := L.d; rw [z, L.t] at this; cases this
theorem Lay.bn (L : Lay H pf pw pt pn as bs found words rows) {b : Addr} (hb : b ∈ bs) : b ≠ pn := fun z => by
  obtain ⟨j, hj⟩ := List.getElem?_of_mem hb
  obtain ⟨r, hr⟩ := lt_get (show j < rows.length by rw [← L.tl]; exact get_lt hj)
  have := L.te j b r hj hr
  rw [z, L.d] at this
  cases this
/-- a list that is not of it changes -/
theorem Lay.off (L : Lay H pf pw pt pn as bs found words rows) {p : Addr} {l l' : List V} (hp : H p = some (.lst l)) (np : p ≠ pf ∧ p ≠ pw ∧ p ≠ pt) (nb : p ∉ bs) : Lay (upd H p (.lst l')) pf pw pt pn as bs found words rows where
  f := by rw [upd_ne np.1.symm]; exact L.f
  fl := L.fl
  fe := fun j a x h1 h2 => by
    have e := L.fe j a x h1 h2
    rw [upd_ne (fun z => by rw [z, hp] at e; cases e)]
    exact e
  w := by rw [upd_ne np.2.1.symm]; exact L.w
  t := by rw [upd_ne np.2.2.symm]; exact L.t
  tl := L.tl
  te := fun j b r h1 h2 => by
    rw [upd_ne (fun z => nb (by rw [← z]; exact List.mem_of_getElem? h1))]
    exact L.te j b r h1 h2
  tn := L.tn
  d := by
    have e := L.d
    rw [upd_ne (fun z => by rw [z, hp] at e; cases e)]
    exact e
  n1 := L.n1
  n2 := L.n2
  n3 := L.n3
/-- a row more -/
theorem Lay.row (L : Lay H pf pw pt pn as bs found words rows) {p : Addr} {r : List Nat} (hp : H p = some (.lst (r.map nv))) (np : p ≠ pf ∧ p ≠ pw ∧ p ≠ pt) : Lay (upd H pt (.lst ((bs ++ [p]).map V.ref))) pf pw pt pn as (bs ++ [p]) found words (rows ++ [r]) where
  f := by rw [upd_ne L.n2]; exact L.f
  fl := L.fl
  fe := fun j a x h1 h2 => by
    have e := L.fe j a x h1 h2
    rw [upd_ne (fun z => by rw [z, L.t] at e; cases e)]
    exact e
  w := by rw [upd_ne L.n3]; exact L.w
  t := upd_same
  tl := by rw [List.length_append, List.length_append, L.tl]; rfl
  te := fun j b r' h1 h2 => by
    rcases Mon.snoc_cases h1 with h1 | ⟨rfl, rfl⟩
    · rcases Mon.snoc_cases h2 with h2 | ⟨rfl, rfl⟩
      · rw [upd_ne (L.tn b (List.mem_of_getElem? h1)).2.2]
        exact L.te j b r' h1 h2
      · have := get_lt h1
        rw [L.tl] at this
        omega
    · rcases Mon.snoc_cases h2 with h2 | ⟨_, rfl⟩
      · have := get_lt h2
        rw [L.tl] at this
        omega
      · rw [upd_ne np.2.2]
        exact hp
  tn := fun b hb => by
    rcases List.mem_append.mp hb with h | h
    · exact L.tn b h
    · rw [List.mem_singleton.mp h]
      exact np
  d := by rw [upd_ne L.gn.2.2]; exact L.d
  n1 := L.n1
  n2 := L.n2
  n3 := L.n3
/-- an element more -/
theorem Lay.add (L : Lay H pf pw pt pn as bs found words rows) {b : Addr} {x wd : List Nat} (hb : H b = some (.tup (x.map nv))) : Lay (upd (upd (upd H pn (.dT (dtab (found ++ [x])))) pf (.lst ((as ++ [b]).map V.ref))) pw (.lst ((words ++ [wd]).map wv))) pf pw pt pn (as ++ [b]) bs (found ++ [x]) (words ++ [wd]) rows where
  f := by rw [upd_ne L.n1, upd_same]
  fl := by rw [List.length_append, List.length_append, L.fl]; rfl
  fe := fun j a y h1 h2 => by
    have e : H a = some (.tup (y.map nv)) := by
      rcases Mon.snoc_cases h1 with h1 | ⟨rfl, rfl⟩
      · rcases Mon.snoc_cases h2 with h2 | ⟨rfl, rfl⟩
        · exact L.fe j a y h1 h2
        · have := get_lt h1
          rw [L.fl] at this
          omega
      · rcases Mon.snoc_cases h2 with h2 | ⟨_, rfl⟩
        · have := get_lt h2
          rw [L.fl] at this
          omega
        · exact hb
    rw [upd_ne (fun z => by rw [z, L.w] at e; cases e), upd_ne (fun z => by rw [z, L.f] at e; cases e), upd_ne (fun z => by rw [z, L.d] at e; cases e)]
    exact e
  w := upd_same
  t := by rw [upd_ne L.n3.symm, upd_ne L.n2.symm, upd_ne L.gn.2.2.symm]; exact L.t
  tl := L.tl
  te := fun j c r h1 h2 => by
    have m := List.mem_of_getElem? h1
    obtain ⟨a1, a2, a3⟩ := L.tn c m
    rw [upd_ne a2, upd_ne a1, upd_ne (L.bn m)]
    exact L.te j c r h1 h2
  tn := L.tn
  d := by rw [upd_ne L.gn.2.1, upd_ne L.gn.1, upd_same]
  n1 := L.n1
  n2 := L.n2
  n3 := L.n3
end
end K14

set_option Elab.async false
set_option linter.all false
set_option maxRecDepth 100000
set_option maxHeartbeats 8000000
namespace K14
open PySem PySem.Spec PyProof.Rows L2 Lf
def spTable (K : PySem.W.Frag) : Sp := fun vs H Q _ => ∃ r n gens, vs = [.ref r] ∧ Maps H r gens ∧ gens ≠ [] ∧ gens.length ≤ 6 ∧ 1 ≤ n ∧ n ≤ 4 ∧ (∀ g ∈ gens, Mon.Valid n g) ∧
  ∀ T pf pw pt pn as bs found rows m H', Same H H' → H T = none → H' T = some (.tup [.ref pf, .ref pw, .ref pt]) → Lay H' pf pw pt pn as bs found (Mon.wordTab m) rows → Mon.Tab n gens found rows → Mon.madeTab 0 rows [] = some m → m.length + 1 = rows.length → (H pf = none ∧ H pw = none ∧ H pt = none ∧ ∀ b ∈ bs, H b = none) → Q (.ref T) H'
abbrev teIm (K : PySem.W.Frag) : TE := tOp (rIxT K) (tVar 8) (tVar 10)
theorem rgV_nv {n : Nat} : rgV 0 (n : Nat) = (Mon.idm n).map nv := by
  unfold rgV Mon.idm
  simp
theorem letter_at {c cc : Nat} (h : c < 6) (e : ("abcdef" : Str).cps[c]? = some cc) : cc = 97 + c := by
  have : c = 0 ∨ c = 1 ∨ c = 2 ∨ c = 3 ∨ c = 4 ∨ c = 5 := by omega
  rcases this with rfl | rfl | rfl | rfl | rfl | rfl <;> exact (Option.some.inj ((show _ = some _ by decide +kernel).symm.trans e)).symm
section
variable {P : Program} {w : World} {K : PySem.W.Frag} {mg : Str → Option Value} {base : Heap}
theorem scTable : FnScope ["_law_rows", "_law_found", "_law_words", "_law_table_here", "_law_numbers", "_law_at", "_law_row", "_law_letter", "_law_other", "_law_product_here", "_law_image"] ["_law_rows"] (defScope s_L_table) := ⟨rfl, rfl, rfl, by decide +kernel, rfl, by decide +kernel, by decide +kernel⟩
theorem ok_table {f : Addr} {fd : FuncData} {q : Str} (F : FunD K "_law_table" q (defArgs s_L_table) (defBody s_L_table) (defScope s_L_table) [] [] f fd) (zr : mg "range" = none) (zt : mg "tuple" = none) (zn : mg "len" = none) (zz : mg "zip" = none) :
    FnOk P w K mg base CX0 1 f fd ["_law_rows"] (spTable K) := by
  refine F.ok scTable (fun vs H Q E h => ?_) (fun cdv A outer s H vs Q E hr h => ?_)
  · obtain ⟨r, n, gens, rfl, _⟩ := h
    rfl
  · obtain ⟨r, n, gens, rfl, M, ne, g6, n1, n4, gv, k⟩ := h
    have hu : (A.deeper (envOfC q (defScope s_L_table) s.heap.objs.size f cdv)).units + 1 < cLine := by have := hr.units; omega
    refine ⟨_, PSs.nox (pss_cons (ps_par3 (i := 1) (j := 2) (l := 3) rfl scTable.nd rfl rfl rfl (by decide) (by decide) (by decide) rfl rfl rfl
        (pa_cons (pe_lst (pa_cons (pe_tupRg rfl rfl zt (prg_1 rfl zr (pe_callB call_len_seq rfl zn boot_len (pa_cons (pe_ix ix_list (pv 0) pe_int (fun _ _ => rfl)) pa_nil)))) pa_nil)) (pa_cons (pe_lst (pa_cons pe_str pa_nil)) (pa_cons (pe_lst pa_nil) pa_nil))) (by rfl))
      (pss_cons (ps_set (i := 4) scTable.nd rfl (.inl rfl) (pe_dispT1 hu (pe_ix ix_list (pv 1) pe_int (fun _ _ => rfl)) pe_int))
      (pss_cons (ps_for PassesOwn.never rfl (pi_range1 rfl zr (pa_cons pe_int pa_nil)) (pg_name (i := 5) scTable.nd rfl (.inl rfl))
        (pss_cons (ps_if (pt_cmpR op_ge (pv 5) (pe_callB call_len_seq rfl zn boot_len (pa_cons (pv 1) pa_nil)) (nomark _)) (pss_one (ps_ret (pe_tup (pa_cons (pv 1) (pa_cons (pv 2) (pa_cons (pv 3) pa_nil)))))) pss_nil)
        (pss_cons (ps_set (i := 6) scTable.nd rfl (.inl rfl) (pe_lst pa_nil))
        (pss_cons (ps_for PassesOwn.never rfl (pi_zips rfl zz (pa_cons pe_str (pa_cons (pv 0) pa_nil))) (pg_tup rfl (pgs_cons (pg_name (i := 7) scTable.nd rfl (.inl rfl)) (pgs_cons (pg_name (i := 8) scTable.nd rfl (.inr rfl)) pgs_nil)))
          (pss_cons (ps_set (i := 9) scTable.nd rfl (.inl rfl) (pe_callTy call_tuple_of rfl zt PyProof.Rows.boot_tuple (pa_cons (pe_lc (own := [("_law_image", 10)]) (g := gName 10) (te := teIm K) (by rfl) scTable.nd (pi_tup (pe_ix ix_list (pv 1) (pv 5) (fun _ _ => rfl))) (blkOk_by (own := [("_law_image", 10)]) (N := ["_law_rows", "_law_found", "_law_words", "_law_table_here", "_law_numbers", "_law_at", "_law_row", "_law_letter", "_law_other", "_law_product_here", "_law_image"]) (sc := defScope s_L_table) (by decide +kernel)) (fun _ _ _ _ _ => pg_name (i := 10) scTable.nd rfl (Or.inl rfl)) (fun _ _ _ _ _ => pts_nil)
              (fun _ _ _ _ _ => by exact pe_ix ix_tup (pv 8) (pv 10) (fun _ _ => rfl))) pa_nil)))
          (pss_cons (ps_if (pt_cmp (pc_dnotin hu (pv 9) (pv 4)) (by rfl))
            (pss_cons (ps_dput hu (pv 4) (pv 9) (pe_callB call_len_seq rfl zn boot_len (pa_cons (pv 1) pa_nil)) rfl)
            (pss_cons (ps_expr (pe_bm PySem.F.plainAttrs_list PySem.F.slot_list_append PySem.F.type_list_append mt_append (pv 1) (pa_cons (pv 9) pa_nil)))
            (pss_one (ps_expr (pe_bm PySem.F.plainAttrs_list PySem.F.slot_list_append PySem.F.type_list_append mt_append (pv 2) (pa_cons (pe_op op_add_str (pe_ix ix_list (pv 2) (pv 5) (fun _ _ => rfl)) (pv 7)) pa_nil)))))) pss_nil)
          (pss_one (ps_expr (pe_bm PySem.F.plainAttrs_list PySem.F.slot_list_append PySem.F.type_list_append mt_append (pv 6) (pa_cons (pe_dget hu (pv 4) (pv 9) (fun _ _ => rfl)) pa_nil)))))))
        (pss_one (ps_expr (pe_bm PySem.F.plainAttrs_list PySem.F.slot_list_append PySem.F.type_list_append mt_append (pv 3) (pa_cons (pv 6) pa_nil))))))))
      (pss_one (ps_ret (pe_tup (pa_cons (pv 1) (pa_cons (pv 2) (pa_cons (pv 3) pa_nil))))))))), ?_⟩
    obtain ⟨gs, hr0, lg, eg⟩ := M.ex
    have n0 : 0 < gens.length := List.length_pos_iff.mpr ne
    obtain ⟨a0, ha0⟩ := lt_get (show 0 < gs.length by omega)
    obtain ⟨g0, hg0⟩ := lt_get n0
    have v0 := gv g0 (List.mem_of_getElem? hg0)
    refine ⟨_, rfl, r, gs.map V.ref, 0, .ref a0, rfl, rfl, SqL.of hr0, atI_nat (j := 0) (get_map ha0), a0, g0.map nv, rfl, .inr (SqT.of (eg 0 a0 g0 ha0 hg0)), (n : Nat), by rw [List.length_map, v0.1], ?_⟩
    refine ⟨⟨by decide, by decide, by omega, by omega, by omega⟩, fun i0 ni0 => ?_⟩
    rw [rgV_nv]
    have s1 := same_upd (o := .tup ((Mon.idm n).map nv)) ni0
    have h1 : upd H i0 (.tup ((Mon.idm n).map nv)) i0 = some (.tup ((Mon.idm n).map nv)) := upd_same
    generalize upd H i0 (.tup ((Mon.idm n).map nv)) = H1 at s1 h1 ⊢
    refine ⟨(by show 1 ≤ sizeLine; decide), fun pf nf => ⟨(by show 1 ≤ sizeLine; decide), fun pw nw => ⟨(by show 0 ≤ sizeLine; decide), fun pt nt => ⟨_, _, _, rfl, ?_⟩⟩⟩⟩
    have hpf0 : H pf = none := by
      cases e : H pf with
      | none => rfl
      | some o => rw [s1 _ _ e] at nf; cases nf
    have hf2 : upd H1 pf (.lst [.ref i0]) pf = some (.lst ([i0].map V.ref)) := upd_same
    have s2 := s1.trans (same_upd (o := .lst [.ref i0]) nf)
    have h2 := same_upd (o := .lst [.ref i0]) nf _ _ h1
    generalize upd H1 pf (.lst [.ref i0]) = H2 at s2 h2 hf2 nw nt ⊢
    have hpw0 : H pw = none := by
      cases e : H pw with
      | none => rfl
      | some o => rw [s2 _ _ e] at nw; cases nw
    have hw3 : upd H2 pw (.lst [.str ("" : Str)]) pw = some (.lst ([[]].map wv)) := upd_same
    have u3 := same_upd (o := .lst [.str ("" : Str)]) nw
    have s3 := s2.trans u3
    have h3 := u3 _ _ h2
    have hf3 := u3 _ _ hf2
    have d1 := ne_of_none hf2 nw
    generalize upd H2 pw (.lst [.str ("" : Str)]) = H3 at s3 h3 hf3 hw3 nt ⊢
    have hpt0 : H pt = none := by
      cases e : H pt with
      | none => rfl
      | some o => rw [s3 _ _ e] at nt; cases nt
    have ht4 : upd H3 pt (.lst []) pt = some (.lst (([] : List Addr).map V.ref)) := upd_same
    have u4 := same_upd (o := .lst []) nt
    have s4 := s3.trans u4
    have h4 := u4 _ _ h3
    have hf4 := u4 _ _ hf3
    have hw4 := u4 _ _ hw3
    have d2 := ne_of_none hf3 nt
    have d3 := ne_of_none hw3 nt
    generalize upd H3 pt (.lst []) = H4 at s4 h4 hf4 hw4 ht4 ⊢
    clear u3 u4 s1 s2 s3 h1 h2 h3 hf2 hf3 hw3 nf nw nt
    intro pn nn
    have u5 := same_upd (o := .dT []) nn
    have s5 := s4.trans u5
    have h5 := u5 _ _ h4
    have hf5 := u5 _ _ hf4
    have hw5 := u5 _ _ hw4
    have ht5 := u5 _ _ ht4
    have hn5 : upd H4 pn (.dT []) pn = some (.dT []) := upd_same
    have hn0 : H pn = none := by
      cases e : H pn with
      | none => rfl
      | some o => rw [s4 _ _ e] at nn; cases nn
    generalize upd H4 pn (.dT []) = H5 at s5 h5 hf5 hw5 ht5 hn5 ⊢
    refine ⟨_, rfl, pf, _, 0, .ref i0, rfl, rfl, SqL.of hf5, rfl, kt (Mon.idm n), i0, _, hn5, rfl, by rw [kt_map]; exact h5, rfl, ?_⟩
    have s6 : Same H (upd H5 pn (.dT [(kt (Mon.idm n), .int 0)])) := fun b o e => by
      rw [upd_ne (ne_of_none e hn0)]
      exact s5 b o e
    have L0 : Lay (upd H5 pn (.dT [(kt (Mon.idm n), .int 0)])) pf pw pt pn [i0] [] [Mon.idm n] (Mon.wordTab []) [] := by
      have e1 : pn ≠ pf := fun z => by rw [z, hf5] at hn5; cases hn5
      have e2 : pn ≠ pw := fun z => by rw [z, hw5] at hn5; cases hn5
      have e3 : pn ≠ pt := fun z => by rw [z, ht5] at hn5; cases hn5
      refine ⟨by rw [upd_ne e1.symm]; exact hf5, rfl, fun j a x g1 g2 => ?_, by rw [upd_ne e2.symm]; exact hw5, by rw [upd_ne e3.symm]; exact ht5, rfl, fun j b r g1 g2 => (by simp at g1), fun b hb => (by cases hb), upd_same, d1, d2, d3⟩
      cases j with
      | zero =>
        cases g1
        cases g2
        rw [upd_ne (fun z => by rw [z, hn5] at h5; cases h5)]
        exact h5
      | succ j => simp at g1
    generalize upd H5 pn (.dT [(kt (Mon.idm n), .int 0)]) = H6 at s6 L0 ⊢
    clear s5 h5 hf5 hw5 ht5 hn5 hf4 hw4 ht4 h4 u5 s4 nn
    have hp0 : ∀ {b : Addr} {o : HO}, H b = some o → b ≠ pn := fun e => ne_of_none e hn0
    refine ⟨3000, rfl, by decide, by decide, for_range (lo := 0) (n := 3000) (fun i σ Hn => ∃ v5 v6 v7 v8 v9 : Option V, σ = [some (.ref r), some (.ref pf), some (.ref pw), some (.ref pt), some (.ref pn), v5, v6, v7, v8, v9, none] ∧ Same H Hn ∧ ∃ as bs found rows m, Lay Hn pf pw pt pn as bs found (Mon.wordTab m) rows ∧ Mon.Bfs n gens i 0 found rows [] m ∧ ∀ b ∈ bs, H b = none)
      ⟨none, none, none, none, none, rfl, s6, [i0], [], [Mon.idm n], [], [], L0, Mon.Bfs.start gv, fun b hb => (by cases hb)⟩ (fun i σ Hn hi ⟨v5, v6, v7, v8, v9, eσ, sn, as, bs, found, rows, m, L, B, fr⟩ => ?_) (fun σ Hn ⟨v5, v6, v7, v8, v9, eσ, sn, as, bs, found, rows, m, L, B, fr⟩ => ?_)⟩
    · subst eσ
      have ei : (0 : Int) + (i : Nat) = (i : Nat) := by omega
      rw [ei]
      have f1 := B.few
      have f2 : n ^ n ≤ 256 := by
        have : n = 1 ∨ n = 2 ∨ n = 3 ∨ n = 4 := by omega
        rcases this with rfl | rfl | rfl | rfl <;> decide
      refine ⟨_, rfl, _, rfl, pf, as.map V.ref, rfl, .inl (SqL.of L.f), _, _, rfl, rfl, _, rfl, ?_⟩
      rw [List.length_map, L.fl]
      refine ite2 (fun h0 => ?_) (fun h0 => ?_)
      · have le := of_decide_eq_true h0
        refine ⟨_, rfl, _, rfl, _, rfl, (by show 3 ≤ sizeLine; decide), fun T nT => ?_⟩
        obtain ⟨Tb, hm, lm⟩ := B.tab (by omega)
        have u := same_upd (o := .tup [.ref pf, .ref pw, .ref pt]) nT
        have nT0 : H T = none := by
          cases e : H T with
          | none => rfl
          | some o => rw [sn _ _ e] at nT; cases nT
        exact k T pf pw pt pn as bs found rows m _ (sn.trans u) nT0 upd_same (L.same u) Tb hm lm ⟨hpf0, hpw0, hpt0, fr⟩
      · have il : i < found.length := by
          by_cases z : i < found.length
          · exact z
          · exact (h0 (decide_eq_true (by omega))).elim
        refine ⟨(by show 0 ≤ sizeLine; decide), fun pr nr => ?_⟩
        have np : pr ≠ pf ∧ pr ≠ pw ∧ pr ≠ pt := ⟨(ne_of_none L.f nr).symm, (ne_of_none L.w nr).symm, (ne_of_none L.t nr).symm⟩
        have nb : pr ∉ bs := fun hb => by
          obtain ⟨j, hj⟩ := List.getElem?_of_mem hb
          obtain ⟨r', hr'⟩ := lt_get (show j < rows.length by rw [← L.tl]; exact get_lt hj)
          have := L.te j pr r' hj hr'
          rw [nr] at this
          cases this
        have u := same_upd (o := .lst []) nr
        have L1 := L.same u
        have s7 := sn.trans u
        have hr7 : upd Hn pr (.lst []) pr = some (.lst (([] : List Nat).map nv)) := upd_same
        have nr0 : H pr = none := by
          cases e : H pr with
          | none => rfl
          | some o => rw [sn _ _ e] at nr; cases nr
        have nf0 : H pf = none ∧ H pw = none ∧ H pt = none := ⟨hpf0, hpw0, hpt0⟩
        generalize upd Hn pr (.lst []) = H7 at L1 s7 hr7 ⊢
        clear L nr u sn
        have wk : Walk (Itzs K ("abcdef" : Str) r) (gs.map V.ref).length (fun H2 => Same H H2) (fun i H v H' => ∃ (T : Addr) (c : Nat) (y : V), v = .ref T ∧ H T = none ∧ H' = L2.upd H T (.tup [.str ⟨#[c]⟩, y]) ∧ ("abcdef" : Str).cps[i]? = some c ∧ (gs.map V.ref)[i]? = some y) :=
          (walk_zips (x := ("abcdef" : Str)) (ys := gs.map V.ref) (by rw [List.length_map, lg]; exact g6)).mono (fun H s => L2.Same.seq s (SqL.of hr0)) (fun i H x H' _ _ y => y)
        refine ⟨_, rfl, _, r, gs.map V.ref, rfl, SqL.of (s7 _ _ hr0), for_it wk (fun c σ Hc => ∃ v7 v8 v9 : Option V, σ = [some (.ref r), some (.ref pf), some (.ref pw), some (.ref pt), some (.ref pn), some (.int (i : Nat)), some (.ref pr), v7, v8, v9, none] ∧ Same H Hc ∧ ∃ as found m row, Lay Hc pf pw pt pn as bs found (Mon.wordTab m) rows ∧ Mon.Bfs n gens i c found rows row m ∧ Hc pr = some (.lst (row.map nv)) ∧ i < found.length)
          ⟨_, _, _, rfl, s7, as, found, m, [], L1, B, hr7, il⟩ (fun c σ Hc _ ⟨_, _, _, _, z, _⟩ => z) (fun c y σ Hc H8 hc ⟨v7, v8, v9, eσ, sc, as, found, m, row, L, B, hR, il⟩ ⟨T, cc, z, ey, nT, e8, hcc, hz⟩ => ?_) (fun σ Hc ⟨v7, v8, v9, eσ, sc, as, found, m, row, L, B, hR, il⟩ => ?_)⟩
        · subst eσ ey e8
          obtain ⟨bg, hbg, rfl⟩ := map_get hz
          obtain ⟨g, hg⟩ := lt_get (show c < gens.length by rw [← lg]; exact get_lt hbg)
          obtain ⟨x, hx⟩ := lt_get il
          obtain ⟨a, ha⟩ := lt_get (show i < as.length by rw [L.fl]; exact il)
          have vx := B.val x (List.mem_of_getElem? hx)
          have vg := gv g (List.mem_of_getElem? hg)
          have cc6 : cc = 97 + c := letter_at (Nat.lt_of_lt_of_le (get_lt hg) g6) hcc
          refine ⟨T, _, rfl, SqT.of upd_same, rfl, _, _, rfl, _, _, rfl, rfl, ?_⟩
          have u8 := same_upd (o := .tup [.str ⟨#[cc]⟩, .ref bg]) nT
          have s8 := sc.trans u8
          have L8 := L.same u8
          have hR8 := u8 _ _ hR
          generalize L2.upd Hc T (.tup [.str ⟨#[cc]⟩, .ref bg]) = H8 at s8 L8 hR8 ⊢
          clear u8 nT L hR sc
          have hg8 : H8 bg = some (.tup (g.map nv)) := s8 _ _ (eg c bg g hbg hg)
          have ha8 := L8.fe i a x ha hx
          refine ⟨_, rfl, _, rfl, pf, as.map V.ref, _, .ref a, rfl, rfl, SqL.of L8.f, atI_nat (get_map ha), a, rfl, ⟨_, SqT.of ha8⟩, fun D nD => ?_⟩
          refine lc_tup (K := K) (a := a) (xs := x.map nv) (fun j Hd => But D H8 Hd ∧ Hd D = some (.lst (((x.take j).map fun i => g.getD i 0).map nv))) ⟨But.upd, upd_same⟩ (fun j Hd _ ⟨bd, _⟩ => Lf.SqT.same (Same.but (L2.Same.refl _) nD bd) (SqT.of ha8)) (fun j z Hd hz ⟨bd, hD⟩ => ?_) (fun Hd ⟨bd, hD⟩ => ?_)
          · obtain ⟨xi, hxi, rfl⟩ := map_get hz
            refine ⟨rfl, yesT ?_⟩
            have sd := Same.but (L2.Same.refl _) nD bd
            obtain ⟨e, he⟩ := lt_get (show xi < g.length by rw [vg.1]; exact vx.2 xi (List.mem_of_getElem? hxi))
            refine ⟨_, rfl, _, rfl, bg, g.map nv, _, nv e, rfl, rfl, SqT.of (sd _ _ hg8), atI_nat (get_map he), ?_⟩
            refine ⟨_, hD, ?_, But.trans bd But.upd, ?_⟩
            · rw [List.length_map, List.length_map, List.length_take]
              have := vx.1
              show min j x.length < 16777216
              omega
            · rw [upd_same, take_snoc hxi, List.map_append, List.map_append, List.map_cons, List.map_nil, List.map_cons, List.map_nil, Mon.getD_of he]
          · rw [List.length_map, List.take_length] at hD
            have sd := Same.but (L2.Same.refl _) nD bd
            refine ⟨D, _, rfl, .inl ⟨SqL.of hD, fun N nN => ?_⟩⟩
            have u9 := sd.trans (same_upd (o := .tup ((x.map fun i => g.getD i 0).map nv)) nN)
            have hN : L2.upd Hd N (.tup ((x.map fun i => g.getD i 0).map nv)) N = some (.tup ((kt (Mon.comp x g)).map kV)) := by rw [kt_map]; exact upd_same
            generalize L2.upd Hd N (.tup ((x.map fun i => g.getD i 0).map nv)) = H9 at u9 hN ⊢
            have s9 := s8.trans u9
            have L9 := L8.same u9
            have hR9 := u9 _ _ hR8
            have hNn : H9 N = some (.tup ((Mon.comp x g).map nv)) := by rw [hN, kt_map]
            clear hD bd sd nN u9 s8 L8 hR8 hg8 ha8
            have f1 := B.few
            have f2 : n ^ n ≤ 256 := by
              have : n = 1 ∨ n = 2 ∨ n = 3 ∨ n = 4 := by omega
              rcases this with rfl | rfl | rfl | rfl <;> decide
            have rl : (row.map nv).length < 16777216 := by rw [List.length_map, B.rlen]; have := get_lt hg; omega
            refine ⟨_, rfl, _, rfl, pn, _, rfl, DGet.t L9.d hN, _, rfl, ?_⟩
            by_cases hm : Mon.comp x g ∈ found
            · obtain ⟨t, ht⟩ := List.getElem?_of_mem hm
              have hv : valV (dtab found) (kt (Mon.comp x g)) = some (nv t) := by
                have := dtabF_some (k := 0) B.nd ht
                rwa [Nat.zero_add] at this
              rw [hv]
              refine ifF rfl ?_
              refine ⟨_, rfl, .inl ⟨rfl, _, SqL.of hR9⟩, _, rfl, _, rfl, pn, nv t, rfl, hv ▸ DGet.t L9.d hN, pr, row.map nv, _, rfl, rfl, hR9, rl, _, _, _, rfl, fun b o e => ?_, as, found, m, row ++ [t], L9.off hR9 np nb, B.old hx hg ht, ?_, il⟩
              · rw [upd_ne (ne_of_none e nr0)]
                exact s9 b o e
              · rw [upd_same, List.map_append]
                rfl
            · have hv : valV (dtab found) (kt (Mon.comp x g)) = none := dtabF_none hm
              rw [hv]
              refine ifT rfl ?_
              obtain ⟨wd, hwd⟩ := lt_get (show i < (Mon.wordTab m).length by rw [Mon.word_len, B.mlen]; exact il)
              have lwd := word_short (List.mem_of_getElem? hwd)
              have ml := B.mlen
              obtain ⟨e1, e2, e3⟩ := L9.gn
              have epr : pr ≠ pn := fun z => by
                have := L9.d
                rw [← z, hR9] at this
                cases this
              refine ⟨_, rfl, pf, as.map V.ref, rfl, .inl (SqL.of L9.f), _, rfl, _, rfl, pn, _, rfl, DPut.t L9.d hN (by rw [dtabF_len]; show found.length < 16777216; omega), ?_⟩
              rw [List.length_map, L9.fl, dtab_put hm]
              have hf10 : L2.upd H9 pn (.dT (dtab (found ++ [Mon.comp x g]))) pf = some (.lst (as.map V.ref)) := by rw [upd_ne e1.symm]; exact L9.f
              have hw11 : L2.upd (L2.upd H9 pn (.dT (dtab (found ++ [Mon.comp x g])))) pf (.lst (as.map V.ref ++ [.ref N])) pw = some (.lst ((Mon.wordTab m).map wv)) := by rw [upd_ne L9.n1.symm, upd_ne e2.symm]; exact L9.w
              refine ⟨_, rfl, .inl ⟨rfl, _, SqL.of hf10⟩, _, rfl, pf, as.map V.ref, _, rfl, rfl, hf10, (by rw [List.length_map, L9.fl]; show found.length < 16777216; omega), ?_⟩
              refine ⟨_, rfl, .inl ⟨rfl, _, SqL.of hw11⟩, _, rfl, _, rfl, pw, _, _, wv wd, rfl, rfl, SqL.of hw11, atI_nat (get_map hwd), _, rfl, ws wd, ⟨#[cc]⟩, rfl, rfl, (by rw [ws_len]; show wd.length + 1 ≤ 16777216; omega), pw, (Mon.wordTab m).map wv, _, rfl, rfl, hw11, (by rw [List.length_map, Mon.word_len]; show m.length + 1 < 16777216; omega), ?_⟩
              have B2 := B.new hx hg hm
              have L12 : Lay (L2.upd (L2.upd (L2.upd H9 pn (.dT (dtab (found ++ [Mon.comp x g])))) pf (.lst (as.map V.ref ++ [.ref N]))) pw (.lst ((Mon.wordTab m).map wv ++ [.str (ws wd ++ (⟨#[cc]⟩ : Str))]))) pf pw pt pn (as ++ [N]) bs (found ++ [Mon.comp x g]) (Mon.wordTab (m ++ [(i, c)])) rows := by
                have q := L9.add (wd := wd ++ [c]) hNn
                rw [Mon.word_snoc, Mon.wordStep, Mon.getD_of hwd, cc6, ws_app]
                simp only [List.map_append, List.map_cons, List.map_nil] at q
                exact q
              have hR12 : L2.upd (L2.upd (L2.upd H9 pn (.dT (dtab (found ++ [Mon.comp x g])))) pf (.lst (as.map V.ref ++ [.ref N]))) pw (.lst ((Mon.wordTab m).map wv ++ [.str (ws wd ++ (⟨#[cc]⟩ : Str))])) pr = some (.lst (row.map nv)) := by
                rw [upd_ne np.2.1, upd_ne np.1, upd_ne epr]
                exact hR9
              have hN12 : L2.upd (L2.upd (L2.upd H9 pn (.dT (dtab (found ++ [Mon.comp x g])))) pf (.lst (as.map V.ref ++ [.ref N]))) pw (.lst ((Mon.wordTab m).map wv ++ [.str (ws wd ++ (⟨#[cc]⟩ : Str))])) N = some (.tup ((kt (Mon.comp x g)).map kV)) := by
                rw [upd_ne (fun z => by rw [z, L9.w] at hN; cases hN), upd_ne (fun z => by rw [z, L9.f] at hN; cases hN), upd_ne (fun z => by rw [z, L9.d] at hN; cases hN)]
                exact hN
              have s12 : Same H (L2.upd (L2.upd (L2.upd H9 pn (.dT (dtab (found ++ [Mon.comp x g])))) pf (.lst (as.map V.ref ++ [.ref N]))) pw (.lst ((Mon.wordTab m).map wv ++ [.str (ws wd ++ (⟨#[cc]⟩ : Str))]))) := fun b o e => by
                rw [upd_ne (ne_of_none e hpw0), upd_ne (ne_of_none e hpf0), upd_ne (ne_of_none e hn0)]
                exact s9 b o e
              generalize L2.upd (L2.upd (L2.upd H9 pn (.dT (dtab (found ++ [Mon.comp x g])))) pf (.lst (as.map V.ref ++ [.ref N]))) pw (.lst ((Mon.wordTab m).map wv ++ [.str (ws wd ++ (⟨#[cc]⟩ : Str))])) = H12 at L12 hR12 hN12 s12 ⊢
              have hv2 : valV (dtab (found ++ [Mon.comp x g])) (kt (Mon.comp x g)) = some (nv found.length) := by
                have := dtabF_some (k := 0) (i := found.length) B2.nd (by rw [List.getElem?_append_right (Nat.le_refl _), Nat.sub_self]; rfl)
                rwa [Nat.zero_add] at this
              refine ⟨_, rfl, .inl ⟨rfl, _, SqL.of hR12⟩, _, rfl, _, rfl, pn, nv found.length, rfl, hv2 ▸ DGet.t L12.d hN12, pr, row.map nv, _, rfl, rfl, hR12, rl, _, _, _, rfl, fun b o e => ?_, as ++ [N], _, _, row ++ [found.length], L12.off hR12 np nb, B2, ?_, by rw [List.length_append]; omega⟩
              · rw [upd_ne (ne_of_none e nr0)]
                exact s12 b o e
              · rw [upd_same, List.map_append]
                rfl
        · subst eσ
          have gl : (gs.map V.ref).length = gens.length := by rw [List.length_map, lg]
          rw [gl] at B
          obtain ⟨x, hx⟩ := lt_get il
          refine ⟨_, rfl, .inl ⟨rfl, _, SqL.of L.t⟩, _, rfl, pt, bs.map V.ref, _, rfl, rfl, L.t, by rw [List.length_map, L.tl, B.len]; show i < 16777216; omega, _, _, _, _, _, rfl, fun b o e => ?_, as, bs ++ [pr], found, rows ++ [row], m, ?_, B.next rfl (by omega) hx, fun b hb => ?_⟩
          · rw [upd_ne (ne_of_none e nf0.2.2)]
            exact sc b o e
          · have := L.row hR np
            rw [List.map_append] at this
            exact this
          · rcases List.mem_append.mp hb with z | z
            · exact fr b z
            · rw [List.mem_singleton.mp z]
              exact nr0
    · exfalso
      have f1 := B.few
      have f2 : n ^ n ≤ 256 := by
        have : n = 1 ∨ n = 2 ∨ n = 3 ∨ n = 4 := by omega
        rcases this with rfl | rfl | rfl | rfl <;> decide
      have := B.le
      omega
end
end K14

set_option Elab.async false
set_option linter.all false
set_option maxRecDepth 100000
set_option maxHeartbeats 4000000
/-! Small things that many texts want. -/
namespace Lf
open PySem PySem.Spec PyProof.Rows L2
theorem yesT {σ : L2.St} {H : Hp} {A B : Hp → Prop} (h : A H) : tYes σ H fun b H3 => if b = true then A H3 else B H3 := by
  show if true = true then A H else B H
  rw [if_pos rfl]
  exact h
theorem pe_gstr {X : Cx} {x v : Str} {t : Tok} {pos : Pos} (hg : Gl X x) (hm : X.mg x = some (.str v t)) (hd : (x == ("__debug__" : Str)) = false := by decide +kernel) : PE X (.Name x pos) (tC (.str v)) := pe_glob hg hm ⟨t, rfl⟩ hd
theorem map_get {α β : Type} {f : α → β} {l : List α} {i : Nat} {y : β} (h : (l.map f)[i]? = some y) : ∃ a, l[i]? = some a ∧ y = f a := by
  rw [List.getElem?_map] at h
  cases z : l[i]? with
  | none => rw [z] at h; cases h
  | some a => rw [z] at h; exact ⟨a, rfl, (Option.some.inj h).symm⟩
theorem get_map {α β : Type} {f : α → β} {l : List α} {i : Nat} {a : α} (h : l[i]? = some a) : (l.map f)[i]? = some (f a) := by rw [List.getElem?_map, h]; rfl
theorem get_lt {α : Type} {l : List α} {i : Nat} {a : α} (h : l[i]? = some a) : i < l.length := (List.getElem?_eq_some_iff.mp h).1
theorem lt_get {α : Type} {l : List α} {i : Nat} (h : i < l.length) : ∃ a, l[i]? = some a := ⟨_, List.getElem?_eq_getElem h⟩
theorem nil_of {H H' : Hp} {p : Addr} (s : Same H H') (n : H' p = none) : H p = none := by
  cases e : H p with
  | none => rfl
  | some o => rw [s _ _ e] at n; cases n
theorem But.nil {H H' : Hp} {l p : Addr} (s : But l H H') (np : p ≠ l) (n : H' p = none) : H p = none := by
  cases e : H p with
  | none => rfl
  | some o => rw [s _ _ np e] at n; cases n
theorem tyx_same {K : PySem.W.Frag} {H H' : Hp} {x : V} {t : Value} (e : Same H H') (h : TyX K H x t) : TyX K H' x t := by
  cases h with
  | base b =>
    cases b with
    | non => exact .base .non
    | bl b => exact .base (.bl b)
    | int i => exact .base (.int i)
    | str s => exact .base (.str s)
    | flt f => exact .base (.flt f)
    | lst h => exact .base (.lst (e _ _ h))
    | frz h => exact .base (.frz (e _ _ h))
    | tup h => exact .base (.tup (e _ _ h))
    | dK h => exact .base (.dK (e _ _ h))
    | dT h => exact .base (.dT (e _ _ h))
    | ins h a b c d f => exact .base (.ins (e _ _ h) a b c d f)
  | byt b => exact .byt b
  | set h => exact .set (e _ _ h)
  | kList h c => exact .kList h c
  | kTuple h c => exact .kTuple h c
  | kDict h c => exact .kDict h c
  | fTuple h => exact .fTuple (e _ _ h)
  | fDict h => exact .fDict (e _ _ h)
/-- a number, or what is none -/
inductive NumK (K : PySem.W.Frag) (H : Hp) : V → Option Int → Prop
  | int (i : Int) : NumK K H (.int i) (some i)
  | bl (b : Bool) : NumK K H (.bl b) none
  | oth {x : V} {n : String} (ty : TyX K H x (.type n)) (e : kitB n "int" = some false) : NumK K H x none
theorem NumK.same {K : PySem.W.Frag} {H H' : Hp} {x : V} {o : Option Int} (e : Same H H') (h : NumK K H x o) : NumK K H' x o := by
  cases h with
  | int i => exact .int i
  | bl b => exact .bl b
  | oth t q => exact .oth (tyx_same e t) q
/-- a text, or what is none -/
inductive TxtK (K : PySem.W.Frag) (H : Hp) : V → Option Str → Prop
  | str (z : Str) : TxtK K H (.str z) (some z)
  | oth {x : V} {n : String} (ty : TyX K H x (.type n)) (e : kitB n "str" = some false) : TxtK K H x none
theorem TxtK.same {K : PySem.W.Frag} {H H' : Hp} {x : V} {o : Option Str} (e : Same H H') (h : TxtK K H x o) : TxtK K H' x o := by
  cases h with
  | str i => exact .str i
  | oth t q => exact .oth (tyx_same e t) q
def isTx : Option Str → Bool
  | some _ => true
  | none => false
theorem TxtK.ty {K : PySem.W.Frag} {H : Hp} {x : V} {o : Option Str} (h : TxtK K H x o) : ∃ n, TyX K H x (.type n) ∧ PySem.W.kitOne K (.type n) (.type "str") = some (isTx o) := by
  cases h with
  | str z => exact ⟨_, .base (.str z), kit_ty (show kitB "str" "str" = some true by decide +kernel)⟩
  | oth t q => exact ⟨_, t, kit_ty q⟩
end Lf

set_option Elab.async false
set_option linter.all false
set_option maxRecDepth 100000
set_option maxHeartbeats 8000000
namespace K14
open PySem PySem.Spec PyProof.Rows L2 Lf
def spPick : Sp := fun vs H Q _ => ∃ l n, Src H l n ∧ n ≤ 1000000 ∧
  ((∃ ls ys, vs = [.ref l, .ref ls] ∧ H ls = some (.lst ys) ∧ ls ≠ l ∧ 0 < ys.length ∧ ys.length ≤ 1000 ∧ ∀ (k : Nat) y H', ys[k]? = some y → But l H H' → Src H' l (n + 1) → Q y H') ∨
   ∃ x : List Nat, vs = [.ref l, .str (ws x)] ∧ 0 < x.length ∧ x.length ≤ 100 ∧ ∀ (k : Nat) c H', x[k]? = some c → But l H H' → Src H' l (n + 1) → Q (.str (ws [c])) H')
def spProd (K : PySem.W.Frag) : Sp := fun vs H Q _ => ∃ a b x y n, vs = [.ref a, .ref b] ∧ SqT K H a (x.map nv) ∧ SqT K H b (y.map nv) ∧ Mon.Valid n x ∧ Mon.Valid n y ∧ n ≤ 1000 ∧
  ∀ t H', H t = none → Same H H' → H' t = some (.tup ((Mon.comp x y).map nv)) → Q (.ref t) H'
theorem ws_at {x : List Nat} {k c : Nat} (h : x[k]? = some c) : atI (ws x).cps.toList ((k : Nat) : Int) = some (97 + c) := atI_nat (show (x.map fun c => 97 + c)[k]? = some (97 + c) by rw [List.getElem?_map, h]; rfl)
section
variable {P : Program} {w : World} {K : PySem.W.Frag} {mg : Str → Option Value} {base : Heap}
theorem scPick : FnScope ["_law_source_here", "_law_some"] ["_law_source_here", "_law_some"] (defScope s_L_pick) := ⟨rfl, rfl, rfl, by decide +kernel, rfl, by decide +kernel, by decide +kernel⟩
theorem ok_pick {f : Addr} {fd : FuncData} {q : Str} (F : FunD K "_law_pick" q (defArgs s_L_pick) (defBody s_L_pick) (defScope s_L_pick) [] [] f fd) (zn : mg "len" = none)
    (DD : Def P w K mg base CX0 1 "_law_draw" ["_law_source_here", "_law_many"] spDraw) :
    FnOk P w K mg base CX0 2 f fd ["_law_source_here", "_law_some"] spPick := by
  refine F.ok scPick (fun vs H Q E h => ?_) (fun cdv A outer s H vs Q E hr h => ?_)
  · obtain ⟨l, n, _, _, ⟨ls, ys, rfl, _⟩ | ⟨x, rfl, _⟩⟩ := h
    · rfl
    · rfl
  · obtain ⟨l, n, src, n1, ⟨ls, ys, rfl, hls, nl, y0, y1, k⟩ | ⟨x, rfl, x0, x1, k⟩⟩ := h
    · refine ⟨_, PSs.nox (pss_one (ps_ret (pe_ix ix_list (pv 1) (pe_def DD hr pass0 rfl (pa_cons (pv 0) (pa_cons (pe_callB call_len_seq rfl zn boot_len (pa_cons (pv 1) pa_nil)) pa_nil))) (fun _ _ => rfl)))), ?_⟩
      refine ⟨_, rfl, _, rfl, _, rfl, ls, ys, rfl, .inl (SqL.of hls), l, n, _, rfl, src, n1, by omega, by omega, fun j H1 j0 j1 b1 src1 => ?_⟩
      obtain ⟨j, rfl⟩ : ∃ j' : Nat, j = (j' : Nat) := ⟨j.toNat, by omega⟩
      obtain ⟨y, hy⟩ := lt_get (show j < ys.length by omega)
      exact ⟨ls, ys, _, y, rfl, rfl, SqL.of (b1 _ _ nl hls), atI_nat hy, k j y H1 hy b1 src1⟩
    · refine ⟨_, PSs.nox (pss_one (ps_ret (pe_ix ix_str (pv 1) (pe_def DD hr pass0 rfl (pa_cons (pv 0) (pa_cons (pe_callB call_len_str rfl zn boot_len (pa_cons (pv 1) pa_nil)) pa_nil))) (fun _ _ => rfl)))), ?_⟩
      refine ⟨_, rfl, _, rfl, _, rfl, ws x, rfl, by rw [ws_len]; show x.length ≤ 16777216; omega, l, n, (x.length : Nat), by rw [ws_len], src, n1, by omega, by omega, fun j H1 j0 j1 b1 src1 => ?_⟩
      obtain ⟨j, rfl⟩ : ∃ j' : Nat, j = (j' : Nat) := ⟨j.toNat, by omega⟩
      obtain ⟨y, hy⟩ := lt_get (show j < x.length by omega)
      exact ⟨ws x, _, _, rfl, rfl, by rw [ws_len]; show x.length ≤ 16777216; omega, ws_at hy, k j y H1 hy b1 src1⟩
theorem scProd : FnScope ["_law_one", "_law_other", "_law_image"] ["_law_one", "_law_other"] (defScope s_L_product) := ⟨rfl, rfl, rfl, by decide +kernel, rfl, by decide +kernel, by decide +kernel⟩
theorem ok_prod {f : Addr} {fd : FuncData} {q : Str} (F : FunD K "_law_product" q (defArgs s_L_product) (defBody s_L_product) (defScope s_L_product) [] [] f fd) (zt : mg "tuple" = none) :
    FnOk P w K mg base CX0 1 f fd ["_law_one", "_law_other"] (spProd K) := by
  refine F.ok scProd (fun vs H Q E h => ?_) (fun cdv A outer s H vs Q E hr h => ?_)
  · obtain ⟨a, b, x, y, n, rfl, _⟩ := h
    rfl
  · obtain ⟨a, b, x, y, n, rfl, ha, hb, vx, vy, n1, k⟩ := h
    refine ⟨_, PSs.nox (pss_one (ps_ret (pe_callTy call_tuple_of rfl zt PyProof.Rows.boot_tuple (pa_cons (pe_lc (own := [("_law_image", 2)]) (g := gName 2) (te := tOp (rIxT K) (tVar 1) (tVar 2)) (by rfl) scProd.nd (pi_tup (pv 0)) (blkOk_by (own := [("_law_image", 2)]) (N := ["_law_one", "_law_other", "_law_image"]) (sc := defScope s_L_product) (by decide +kernel)) (fun _ _ _ _ _ => pg_name (i := 2) scProd.nd rfl (Or.inl rfl)) (fun _ _ _ _ _ => pts_nil)
      (fun _ _ _ _ _ => by exact pe_ix ix_tup (pv 1) (pv 2) (fun _ _ => rfl))) pa_nil)))), ?_⟩
    refine ⟨_, rfl, a, rfl, ⟨_, ha⟩, fun D nD => ?_⟩
    refine lc_tup (K := K) (a := a) (xs := x.map nv) (fun j Hd => But D H Hd ∧ Hd D = some (.lst (((x.take j).map fun i => y.getD i 0).map nv))) ⟨But.upd, upd_same⟩ (fun j Hd _ ⟨bd, _⟩ => Lf.SqT.same (Same.but (L2.Same.refl _) nD bd) ha) (fun j z Hd hz ⟨bd, hD⟩ => ?_) (fun Hd ⟨bd, hD⟩ => ?_)
    · obtain ⟨xi, hxi, rfl⟩ := map_get hz
      refine ⟨rfl, yesT ?_⟩
      have sd := Same.but (L2.Same.refl _) nD bd
      obtain ⟨e, he⟩ := lt_get (show xi < y.length by rw [vy.1]; exact vx.2 xi (List.mem_of_getElem? hxi))
      refine ⟨_, rfl, _, rfl, b, y.map nv, _, nv e, rfl, rfl, Lf.SqT.same sd hb, atI_nat (get_map he), ?_⟩
      refine ⟨_, hD, ?_, But.trans bd But.upd, ?_⟩
      · rw [List.length_map, List.length_map, List.length_take]
        have := vx.1
        show min j x.length < 16777216
        omega
      · rw [upd_same, take_snoc hxi, List.map_append, List.map_append, List.map_cons, List.map_nil, List.map_cons, List.map_nil, Mon.getD_of he]
    · rw [List.length_map, List.take_length] at hD
      have sd := Same.but (L2.Same.refl _) nD bd
      refine ⟨D, _, rfl, .inl ⟨SqL.of hD, fun t nt => k t _ (nil_of sd nt) (sd.trans (same_upd nt)) upd_same⟩⟩
end
end K14

set_option Elab.async false
set_option linter.all false
set_option maxRecDepth 100000
set_option maxHeartbeats 4000000
/-! How many words lead to each element: pure. -/
namespace Mon
/-- how often each number below N stands in I -/
def cvec (N : Nat) (I : List Nat) : List Nat := (List.range N).map fun k => I.count k
theorem cvec_len {N : Nat} {I : List Nat} : (cvec N I).length = N := by simp [cvec]
theorem cvec_get {N k : Nat} {I : List Nat} (h : k < N) : (cvec N I)[k]? = some (I.count k) := by simp [cvec, h]
def bump (f : List Nat) (t many : Nat) : List Nat := f.set t (f.getD t 0 + many)
def rowBump (f row : List Nat) (many : Nat) : List Nat := row.foldl (fun f t => bump f t many) f
def stepF (f : List Nat) : List (List Nat) → List Nat → List Nat
  | row :: rows, c :: cs => stepF (rowBump f row c) rows cs
  | _, _ => f
def stepC (rows : List (List Nat)) (cs : List Nat) : List Nat := stepF (List.replicate rows.length 0) rows cs
def dp (rows : List (List Nat)) : Nat → List Nat
  | 0 => (List.replicate rows.length 0).set 0 1
  | t + 1 => stepC rows (dp rows t)
theorem bump_len {f : List Nat} {t many : Nat} : (bump f t many).length = f.length := by simp [bump]
theorem rowBump_len : ∀ {row f : List Nat} {many : Nat}, (rowBump f row many).length = f.length
  | [], f, many => rfl
  | t :: row, f, many => by
    show (rowBump (bump f t many) row many).length = _
    rw [rowBump_len, bump_len]
theorem bump_at {f : List Nat} {t many k : Nat} (h : t < f.length) : (bump f t many).getD k 0 = f.getD k 0 + (if t = k then many else 0) := by
  unfold bump
  by_cases e : t = k
  · subst e
    rw [if_pos rfl]
    simp [List.getD, h]
  · rw [if_neg e]
    simp [List.getD, List.getElem?_set_ne e]
theorem rowBump_at : ∀ {row f : List Nat} {many k : Nat}, (∀ t ∈ row, t < f.length) → (rowBump f row many).getD k 0 = f.getD k 0 + row.count k * many
  | [], f, many, k, _ => by
    show f.getD k 0 = f.getD k 0 + 0 * many
    omega
  | t :: row, f, many, k, h => by
    show (rowBump (bump f t many) row many).getD k 0 = _
    rw [rowBump_at (fun u hu => by rw [bump_len]; exact h u (List.mem_cons_of_mem _ hu)), bump_at (h t List.mem_cons_self), List.count_cons]
    by_cases e : t = k
    · subst e
      simp only [if_true, beq_self_eq_true]
      rw [Nat.add_mul]
      omega
    · have e' : (t == k) = false := beq_eq_false_iff_ne.mpr e
      rw [if_neg e, e', if_neg (by decide), Nat.add_zero, Nat.add_zero]
/-- what the rows add to number k -/
def wsum (k : Nat) : List (List Nat) → List Nat → Nat
  | row :: rows, c :: cs => row.count k * c + wsum k rows cs
  | _, _ => 0
theorem stepF_len : ∀ {rows : List (List Nat)} {cs f : List Nat}, (stepF f rows cs).length = f.length
  | [], cs, f => by cases cs <;> rfl
  | row :: rows, [], f => rfl
  | row :: rows, c :: cs, f => by
    show (stepF (rowBump f row c) rows cs).length = _
    rw [stepF_len, rowBump_len]
theorem stepF_at {k : Nat} : ∀ {rows : List (List Nat)} {cs f : List Nat}, (∀ row ∈ rows, ∀ t ∈ row, t < f.length) → (stepF f rows cs).getD k 0 = f.getD k 0 + wsum k rows cs
  | [], cs, f, _ => by
    cases cs <;> rfl
  | row :: rows, [], f, _ => rfl
  | row :: rows, c :: cs, f, h => by
    show (stepF (rowBump f row c) rows cs).getD k 0 = f.getD k 0 + (row.count k * c + wsum k rows cs)
    rw [stepF_at (fun r hr t ht => by rw [rowBump_len]; exact h r (List.mem_cons_of_mem _ hr) t ht), rowBump_at (h row List.mem_cons_self)]
    omega
theorem stepC_len {rows : List (List Nat)} {cs : List Nat} : (stepC rows cs).length = rows.length := by rw [stepC, stepF_len, List.length_replicate]
theorem dp_len {rows : List (List Nat)} : ∀ {t : Nat}, (dp rows t).length = rows.length
  | 0 => by simp [dp]
  | t + 1 => by rw [dp, stepC_len]
/-- summed over the places, or over what stands there -/
theorem sum_set {h : Nat → Nat} : ∀ (I : List Nat) (N s : Nat), (∀ x ∈ I, s ≤ x ∧ x < s + N) → (I.map h).sum = ((List.range' s N).map fun j => I.count j * h j).sum
  | [], N, s, _ => by
    rw [List.map_nil, List.sum_nil]
    induction N generalizing s with
    | zero => rfl
    | succ N ih => rw [List.range'_succ, List.map_cons, List.sum_cons, ← ih (s + 1) fun y hy => (by cases hy)]; simp
  | x :: I, N, s, hx => by
    have ih := sum_set (h := h) I N s fun y hy => hx y (List.mem_cons_of_mem _ hy)
    have hb := hx x List.mem_cons_self
    rw [List.map_cons, List.sum_cons, ih]
    suffices g : ∀ (N s : Nat), ((List.range' s N).map fun j => (x :: I).count j * h j).sum = (if s ≤ x ∧ x < s + N then h x else 0) + ((List.range' s N).map fun j => I.count j * h j).sum by
      rw [g, if_pos hb]
    intro N
    induction N with
    | zero =>
      intro s
      rw [if_neg (by omega)]
      rfl
    | succ N ih2 =>
      intro s
      rw [List.range'_succ, List.map_cons, List.sum_cons, List.map_cons, List.sum_cons, ih2, List.count_cons]
      by_cases e : x = s
      · subst e
        rw [beq_self_eq_true, if_pos rfl, if_neg (show ¬ (x + 1 ≤ x ∧ x < x + 1 + N) by omega), if_pos (show x ≤ x ∧ x < x + (N + 1) by omega), Nat.add_mul]
        omega
      · have e' : (x == s) = false := beq_eq_false_iff_ne.mpr e
        rw [e', if_neg (by decide), Nat.add_zero]
        by_cases b : s + 1 ≤ x ∧ x < s + 1 + N
        · rw [if_pos b, if_pos (show s ≤ x ∧ x < s + (N + 1) by omega)]
          omega
        · rw [if_neg b, if_neg (show ¬ (s ≤ x ∧ x < s + (N + 1)) by omega)]
          omega
theorem wsum_eq {k : Nat} : ∀ (rows : List (List Nat)) (g : Nat → Nat) (s : Nat), wsum k rows ((List.range' s rows.length).map g) = ((List.range' s rows.length).map fun j => g j * (rows.getD (j - s) []).count k).sum
  | [], g, s => rfl
  | row :: rows, g, s => by
    rw [List.length_cons, List.range'_succ, List.map_cons, List.map_cons, List.sum_cons]
    show row.count k * g s + wsum k rows _ = _
    rw [wsum_eq rows g (s + 1)]
    have e : (List.range' (s + 1) rows.length).map (fun j => g j * (rows.getD (j - (s + 1)) []).count k) = (List.range' (s + 1) rows.length).map fun j => g j * ((row :: rows).getD (j - s) []).count k := by
      refine List.map_congr_left fun j hj => ?_
      have := List.mem_range'_1.mp hj
      obtain ⟨d, rfl⟩ : ∃ d, j = s + 1 + d := ⟨j - (s + 1), by omega⟩
      rw [show s + 1 + d - (s + 1) = d by omega, show s + 1 + d - s = d + 1 by omega]
      rfl
    rw [e, Nat.sub_self, Nat.mul_comm]
    rfl
theorem ext_getD {f g : List Nat} (l : f.length = g.length) (h : ∀ k, k < f.length → f.getD k 0 = g.getD k 0) : f = g := by
  refine List.ext_getElem l fun k h1 h2 => ?_
  have := h k h1
  rwa [getD_at h1, getD_at h2] at this
/-- a letter more -/
theorem step_cvec {rows : List (List Nat)} {I : List Nat} (hr : ∀ row ∈ rows, ∀ t ∈ row, t < rows.length) (hI : ∀ x ∈ I, x < rows.length) : stepC rows (cvec rows.length I) = cvec rows.length (I.flatMap fun j => rows.getD j []) := by
  refine ext_getD (by rw [stepC_len, cvec_len]) fun k hk => ?_
  rw [stepC_len] at hk
  rw [stepC, stepF_at (fun r hr' t ht => by rw [List.length_replicate]; exact hr r hr' t ht), getD_of (cvec_get hk), cvec, List.range_eq_range', wsum_eq, List.count_flatMap]
  have z : (List.replicate rows.length 0).getD k 0 = 0 := by simp [List.getD, hk]
  rw [z, Nat.zero_add]
  have s := sum_set (h := fun j => (rows.getD j []).count k) I rows.length 0 fun x hx => ⟨Nat.zero_le _, by have := hI x hx; omega⟩
  simp only [Nat.sub_zero]
  exact s.symm
/-- the numbers of the products of all words of a length -/
def idx (rows : List (List Nat)) : Nat → List Nat
  | 0 => [0]
  | t + 1 => (idx rows t).flatMap fun j => rows.getD j []
theorem idx_lt {rows : List (List Nat)} (h0 : 0 < rows.length) (hr : ∀ row ∈ rows, ∀ t ∈ row, t < rows.length) : ∀ (t : Nat), ∀ x ∈ idx rows t, x < rows.length
  | 0, x, hx => by
    rw [idx, List.mem_singleton] at hx
    omega
  | t + 1, x, hx => by
    rw [idx] at hx
    obtain ⟨j, _, hj⟩ := List.mem_flatMap.mp hx
    cases e : rows[j]? with
    | none => rw [List.getD, e] at hj; cases hj
    | some row =>
      rw [getD_of e] at hj
      exact hr row (List.mem_of_getElem? e) x hj
theorem dp_idx {rows : List (List Nat)} (h0 : 0 < rows.length) (hr : ∀ row ∈ rows, ∀ t ∈ row, t < rows.length) : ∀ (t : Nat), dp rows t = cvec rows.length (idx rows t)
  | 0 => by
    refine ext_getD (by rw [dp_len, cvec_len]) fun k hk => ?_
    rw [dp_len] at hk
    rw [getD_of (cvec_get hk), dp, idx]
    cases k with
    | zero => simp [List.getD, h0]
    | succ k => simp [List.getD, hk, List.count_cons]
  | t + 1 => by rw [dp, dp_idx h0 hr t, step_cvec hr (idx_lt h0 hr t), idx]
theorem ones : ∀ (I : List Nat), (I.map fun _ => 1).sum = I.length
  | [] => rfl
  | x :: I => by rw [List.map_cons, List.sum_cons, ones I, List.length_cons, Nat.add_comm]
theorem cvec_sum {N : Nat} {I : List Nat} (h : ∀ x ∈ I, x < N) : (cvec N I).sum = I.length := by
  have s : (I.map fun _ => 1).sum = ((List.range' 0 N).map fun j => I.count j * 1).sum := sum_set I N 0 fun x hx => ⟨Nat.zero_le _, by have := h x hx; omega⟩
  rw [cvec, List.range_eq_range']
  rw [show ((List.range' 0 N).map fun j => I.count j * 1) = (List.range' 0 N).map fun k => I.count k from List.map_congr_left fun j _ => Nat.mul_one _] at s
  rw [← s]
  exact ones I
end Mon

set_option Elab.async false
set_option linter.all false
/-! How long the words are: pure. -/
namespace Mon
theorem pw_const {v : Nat} : ∀ {l : List Nat}, (∀ a ∈ l, a = v) → l.Pairwise (· ≤ ·)
  | [], _ => .nil
  | x :: l, h => .cons (fun a ha => by rw [h x List.mem_cons_self, h a (List.mem_cons_of_mem _ ha)]; exact Nat.le_refl _) (pw_const fun a ha => h a (List.mem_cons_of_mem _ ha))
theorem madeTab_sorted : ∀ {rows : List (List Nat)} {i : Nat} {m m' : List (Nat × Nat)}, madeTab i rows m = some m' → ∃ e, m' = m ++ e ∧ (e.map (·.1)).Pairwise (· ≤ ·) ∧ ∀ p ∈ e, i ≤ p.1
  | [], i, m, m', h => by
    simp only [madeTab, Option.some.injEq] at h
    exact ⟨[], by simp [h], by simp, fun p hp => by cases hp⟩
  | row :: rows, i, m, m', h => by
    simp only [madeTab] at h
    split at h
    · cases h
    · cases hr : madeRow i 0 row m with
      | none => rw [hr] at h; cases h
      | some m1 =>
        rw [hr, Option.bind_some] at h
        obtain ⟨e1, he1, q1⟩ := madeRow_ok hr
        obtain ⟨e2, he2, p2, g2⟩ := madeTab_sorted h
        have all1 : ∀ p ∈ e1, p.1 = i := fun p hp => by
          obtain ⟨k, hk⟩ := List.getElem?_of_mem hp
          exact (q1 k p hk).1
        refine ⟨e1 ++ e2, by rw [he2, he1, List.append_assoc], ?_, fun p hp => ?_⟩
        · rw [List.map_append, List.pairwise_append]
          refine ⟨?_, p2, fun a ha b hb => ?_⟩
          · exact pw_const (v := i) fun a ha => by
              obtain ⟨p, hp, rfl⟩ := List.mem_map.mp ha
              exact all1 p hp
          · obtain ⟨pa, hpa, rfl⟩ := List.mem_map.mp ha
            obtain ⟨pb, hpb, rfl⟩ := List.mem_map.mp hb
            have := g2 pb hpb
            rw [all1 pa hpa]
            omega
        · rcases List.mem_append.mp hp with z | z
          · rw [all1 p z]
            exact Nat.le_refl _
          · have := g2 p z
            omega
theorem made_le {rows : List (List Nat)} {m : List (Nat × Nat)} (h : madeTab 0 rows [] = some m) {i j : Nat} {p q : Nat × Nat} (hp : m[i]? = some p) (hq : m[j]? = some q) (ij : i ≤ j) : p.1 ≤ q.1 := by
  obtain ⟨e, he, pw, _⟩ := madeTab_sorted h
  rw [List.nil_append] at he
  subst he
  rcases Nat.eq_or_lt_of_le ij with z | z
  · subst z
    rw [hp] at hq
    cases hq
    exact Nat.le_refl _
  · obtain ⟨a1, a2⟩ := List.getElem?_eq_some_iff.mp hp
    obtain ⟨b1, b2⟩ := List.getElem?_eq_some_iff.mp hq
    rw [List.pairwise_map] at pw
    have := List.pairwise_iff_getElem.mp pw i j a1 b1 z
    rw [a2, b2] at this
    exact this
/-- the lengths of the words -/
def lens (m : List (Nat × Nat)) : List Nat := (wordTab m).map List.length
theorem lens_len {m : List (Nat × Nat)} : (lens m).length = m.length + 1 := by rw [lens, List.length_map, word_len]
theorem lens_snoc {m : List (Nat × Nat)} {p : Nat × Nat} (h : p.1 < m.length + 1) : lens (m ++ [p]) = lens m ++ [(lens m).getD p.1 0 + 1] := by
  unfold lens
  rw [word_snoc, wordStep, List.map_append, List.map_cons, List.map_nil, List.length_append]
  have e : (wordTab m)[p.1]? = some ((wordTab m)[p.1]'(by rw [word_len]; exact h)) := List.getElem?_eq_getElem (by rw [word_len]; exact h)
  rw [getD_of e]
  have e2 : ((wordTab m).map List.length)[p.1]? = some ((wordTab m)[p.1]'(by rw [word_len]; exact h)).length := by rw [List.getElem?_map, e]; rfl
  rw [getD_of e2]
  rfl
section
variable {m : List (Nat × Nat)}
theorem take_app_len {α : Type} {l : List α} {k : Nat} {x : α} (h : l[k]? = some x) : l.take (k + 1) = l.take k ++ [x] := (take_cons h).2.1
theorem lens_take (hm : ∀ (k : Nat) p, m[k]? = some p → p.1 < k + 1) : ∀ (k : Nat), k ≤ m.length → lens (m.take k) = (lens m).take (k + 1) := by
  suffices g : ∀ (d k : Nat), k + d = m.length → lens (m.take k) = (lens m).take (k + 1) from fun k hk => g (m.length - k) k (by omega)
  intro d
  induction d with
  | zero =>
    intro k e
    rw [List.take_of_length_le (by omega), List.take_of_length_le (by rw [lens_len]; omega)]
  | succ d ih =>
    intro k e
    have hk : k < m.length := by omega
    have hp : m[k]? = some m[k] := List.getElem?_eq_getElem hk
    have q := ih (k + 1) (by omega)
    have lk : (m.take k).length = k := by rw [List.length_take]; omega
    rw [take_app_len hp, lens_snoc (by rw [lk]; exact hm k _ hp)] at q
    have l1 : (lens (m.take k)).length = k + 1 := by rw [lens_len, lk]
    have q2 := congrArg (List.take (k + 1)) q
    rw [List.take_left' l1, List.take_take, Nat.min_eq_left (by omega)] at q2
    exact q2
theorem lens_at (hm : ∀ (k : Nat) p, m[k]? = some p → p.1 < k + 1) {k : Nat} {p : Nat × Nat} (hp : m[k]? = some p) : (lens m).getD (k + 1) 0 = (lens m).getD p.1 0 + 1 := by
  have hk := (List.getElem?_eq_some_iff.mp hp).1
  have lk : (m.take k).length = k := by rw [List.length_take]; omega
  have pk := hm k p hp
  have q := lens_take hm (k + 1) hk
  rw [take_app_len hp, lens_snoc (by rw [lk]; exact pk)] at q
  have l1 : (lens (m.take k)).length = k + 1 := by rw [lens_len, lk]
  have a : ((lens m).take (k + 2))[k + 1]? = some ((lens (m.take k)).getD p.1 0 + 1) := by
    rw [← q, List.getElem?_append_right (by omega), l1, Nat.sub_self]
    rfl
  rw [List.getElem?_take_of_lt (by omega)] at a
  rw [getD_of a, lens_take hm k (by omega)]
  have b : ((lens m).take (k + 1))[p.1]? = (lens m)[p.1]? := List.getElem?_take_of_lt pk
  rw [List.getD, List.getD, b]
theorem lens_0 : (lens m).getD 0 0 = 0 := by
  have e : (lens m)[0]? = some 0 := by
    have h : (lens m).take 1 = lens (m.take 0) ∨ True := .inr trivial
    unfold lens wordTab
    suffices g : ∀ (m : List (Nat × Nat)) (L : List (List Nat)), L[0]? = some [] → ((m.foldl wordStep L))[0]? = some [] by
      rw [List.getElem?_map, g m [[]] rfl]
      rfl
    intro m
    induction m with
    | nil => intro L h; exact h
    | cons p r ih =>
      intro L h
      rw [List.foldl_cons]
      refine ih _ ?_
      unfold wordStep
      exact get_app _ h
  rw [getD_of e]
theorem lens_mono {rows : List (List Nat)} (h : madeTab 0 rows [] = some m) : ∀ (N i j : Nat), i ≤ j → j ≤ N → N < m.length + 1 → (lens m).getD i 0 ≤ (lens m).getD j 0 := by
  have hm : ∀ (k : Nat) p, m[k]? = some p → p.1 < k + 1 := fun k p hp => (madeTab_lt h hp).1
  intro N
  induction N with
  | zero =>
    intro i j ij jN _
    rw [show i = j by omega]
    exact Nat.le_refl _
  | succ N ih =>
    intro i j ij jN hN
    by_cases z : j ≤ N
    · exact ih i j ij z (by omega)
    · by_cases z2 : i = j
      · rw [z2]
        exact Nat.le_refl _
      · have ej : j = N + 1 := by omega
        subst ej
        have hq : m[N]? = some m[N] := List.getElem?_eq_getElem (by omega)
        have s1 := ih i N (by omega) (Nat.le_refl _) (by omega)
        refine Nat.le_trans s1 ?_
        rw [lens_at hm hq]
        cases N with
        | zero => rw [lens_0]; exact Nat.zero_le _
        | succ N =>
          have hp : m[N]? = some m[N] := List.getElem?_eq_getElem (by omega)
          rw [lens_at hm hp]
          have := made_le h hp hq (by omega)
          have b := hm _ _ hq
          exact Nat.succ_le_succ (ih _ _ this (by omega) (by omega))
theorem lens_all {rows : List (List Nat)} (h : madeTab 0 rows [] = some m) : ∀ (N k l : Nat), k ≤ N → k < m.length + 1 → l ≤ (lens m).getD k 0 → ∃ j, j < m.length + 1 ∧ (lens m).getD j 0 = l := by
  have hm : ∀ (k : Nat) p, m[k]? = some p → p.1 < k + 1 := fun k p hp => (madeTab_lt h hp).1
  intro N
  induction N with
  | zero =>
    intro k l hk hk2 hl
    have : k = 0 := by omega
    subst this
    rw [lens_0] at hl
    exact ⟨0, hk2, by rw [lens_0]; omega⟩
  | succ N ih =>
    intro k l hk hk2 hl
    by_cases e : l = (lens m).getD k 0
    · exact ⟨k, hk2, e.symm⟩
    · cases k with
      | zero => exact ih 0 l (Nat.zero_le _) hk2 hl
      | succ k =>
        have hp : m[k]? = some m[k] := List.getElem?_eq_getElem (by omega)
        have b := hm _ _ hp
        rw [lens_at hm hp] at hl e
        exact ih m[k].1 l (by omega) (by omega) (by omega)
/-- the greatest length -/
def top (m : List (Nat × Nat)) : Nat := (lens m).getD m.length 0
theorem lens_le {rows : List (List Nat)} (h : madeTab 0 rows [] = some m) : ∀ x ∈ lens m, x < top m + 1 := fun x hx => by
  obtain ⟨i, hi⟩ := List.getElem?_of_mem hx
  have il := (List.getElem?_eq_some_iff.mp hi).1
  rw [lens_len] at il
  have := lens_mono h m.length i m.length (by omega) (Nat.le_refl _) (by omega)
  rw [getD_of hi] at this
  exact Nat.lt_succ_of_le this
theorem top_short {m : List (Nat × Nat)} (hs : ∀ w ∈ wordTab m, w.length ≤ m.length) : top m ≤ m.length := by
  have e : (lens m)[m.length]? = some ((lens m)[m.length]'(by rw [lens_len]; omega)) := List.getElem?_eq_getElem _
  rw [top, getD_of e]
  have hm := List.mem_of_getElem? e
  generalize (lens m)[m.length]'(by rw [lens_len]; omega) = z at hm
  unfold lens at hm
  obtain ⟨w, hw, rfl⟩ := List.mem_map.mp hm
  exact hs w hw
/-- how many words have each length -/
def grow (m : List (Nat × Nat)) : List Nat := cvec (top m + 1) (lens m)
theorem grow_bump {rows : List (List Nat)} (h : madeTab 0 rows [] = some m) : rowBump (List.replicate (top m + 1) 0) (lens m) 1 = grow m := by
  refine ext_getD (by rw [rowBump_len, List.length_replicate, grow, cvec_len]) fun k hk => ?_
  rw [rowBump_len, List.length_replicate] at hk
  rw [rowBump_at (fun t ht => by rw [List.length_replicate]; exact lens_le h t ht), grow, getD_of (cvec_get hk)]
  simp [List.getD, hk]
theorem grow_pos {rows : List (List Nat)} (h : madeTab 0 rows [] = some m) : 0 ∉ grow m := fun hz => by
  unfold grow cvec at hz
  obtain ⟨l, hl, e⟩ := List.mem_map.mp hz
  obtain ⟨j, hj, e2⟩ := lens_all h m.length m.length l (Nat.le_refl _) (by omega) (by have := List.mem_range.mp hl; unfold top at this; omega)
  have hj' : (lens m)[j]? = some l := by
    have : j < (lens m).length := by rw [lens_len]; exact hj
    rw [List.getElem?_eq_getElem this, ← e2, getD_at this]
  have := List.count_pos_iff.mpr (List.mem_of_getElem? hj')
  omega
theorem grow_le : ∀ x ∈ grow m, x ≤ m.length + 1 := fun x hx => by
  unfold grow cvec at hx
  obtain ⟨l, _, rfl⟩ := List.mem_map.mp hx
  rw [← lens_len]
  exact List.count_le_length
theorem grow_len : (grow m).length = top m + 1 := cvec_len
end
end Mon

set_option Elab.async false
set_option linter.all false
/-! Words letter by letter, the table walked: pure. -/
namespace Mon
section
variable {m : List (Nat × Nat)}
theorem word_take (hm : ∀ (k : Nat) p, m[k]? = some p → p.1 < k + 1) : ∀ (k : Nat), k ≤ m.length → wordTab (m.take k) = (wordTab m).take (k + 1) := by
  suffices g : ∀ (d k : Nat), k + d = m.length → wordTab (m.take k) = (wordTab m).take (k + 1) from fun k hk => g (m.length - k) k (by omega)
  intro d
  induction d with
  | zero =>
    intro k e
    rw [List.take_of_length_le (by omega), List.take_of_length_le (by rw [word_len]; omega)]
  | succ d ih =>
    intro k e
    have hk : k < m.length := by omega
    have hp : m[k]? = some m[k] := List.getElem?_eq_getElem hk
    have q := ih (k + 1) (by omega)
    have lk : (m.take k).length = k := by rw [List.length_take]; omega
    rw [take_app_len hp, word_snoc, wordStep] at q
    have l1 : (wordTab (m.take k)).length = k + 1 := by rw [word_len, lk]
    have q2 := congrArg (List.take (k + 1)) q
    rw [List.take_left' l1, List.take_take, Nat.min_eq_left (by omega)] at q2
    exact q2
/-- the word of a number, by that of the number before it -/
theorem word_at (hm : ∀ (k : Nat) p, m[k]? = some p → p.1 < k + 1) {k : Nat} {p : Nat × Nat} (hp : m[k]? = some p) : (wordTab m).getD (k + 1) [] = (wordTab m).getD p.1 [] ++ [p.2] := by
  have hk := (List.getElem?_eq_some_iff.mp hp).1
  have lk : (m.take k).length = k := by rw [List.length_take]; omega
  have pk := hm k p hp
  have q := word_take hm (k + 1) hk
  rw [take_app_len hp, word_snoc, wordStep] at q
  have l1 : (wordTab (m.take k)).length = k + 1 := by rw [word_len, lk]
  have a : ((wordTab m).take (k + 2))[k + 1]? = some ((wordTab (m.take k)).getD p.1 [] ++ [p.2]) := by
    rw [← q, List.getElem?_append_right (by omega), l1, Nat.sub_self]
    rfl
  rw [List.getElem?_take_of_lt (by omega)] at a
  rw [getD_of a, word_take hm k (by omega)]
  have b : ((wordTab m).take (k + 1))[p.1]? = (wordTab m)[p.1]? := List.getElem?_take_of_lt pk
  rw [List.getD, List.getD, b]
theorem word_0 : (wordTab m).getD 0 [] = [] := by
  have e : (wordTab m)[0]? = some [] := by
    unfold wordTab
    suffices g : ∀ (m : List (Nat × Nat)) (L : List (List Nat)), L[0]? = some [] → ((m.foldl wordStep L))[0]? = some [] from g m [[]] rfl
    intro m
    induction m with
    | nil => intro L h; exact h
    | cons p r ih =>
      intro L h
      rw [List.foldl_cons]
      refine ih _ ?_
      unfold wordStep
      exact get_app _ h
  rw [getD_of e]
end
/-- where letters lead -/
def walk (rows : List (List Nat)) (s : Nat) (w : List Nat) : Nat := w.foldl (fun i c => (rows.getD i []).getD c 0) s
def compW (gens : List (List Nat)) (x : List Nat) (w : List Nat) : List Nat := w.foldl (fun x c => comp x (gens.getD c [])) x
theorem walk_app {rows : List (List Nat)} {s : Nat} {u v : List Nat} : walk rows s (u ++ v) = walk rows (walk rows s u) v := by
  unfold walk
  rw [List.foldl_append]
/-- the table acts as the maps do -/
theorem Tab.walk {n : Nat} {gens found rows : List (List Nat)} (T : Tab n gens found rows) : ∀ {w : List Nat} {s : Nat} {x : List Nat}, found[s]? = some x → (∀ c ∈ w, c < gens.length) → found[Mon.walk rows s w]? = some (compW gens x w)
  | [], s, x, h, _ => h
  | c :: w, s, x, h, hw => by
    have hg : gens[c]? = some (gens[c]'(hw c List.mem_cons_self)) := List.getElem?_eq_getElem _
    have e := T.get h hg
    have r := T.walk (w := w) e fun d hd => hw d (List.mem_cons_of_mem _ hd)
    show found[Mon.walk rows ((rows.getD s []).getD c 0) w]? = some (compW gens (comp x (gens.getD c [])) w)
    rw [getD_of hg]
    exact r
end Mon

set_option Elab.async false
set_option linter.all false
set_option maxRecDepth 100000
set_option maxHeartbeats 2000000
/-! Powers of a map, products of elements by their words: pure. -/
namespace Mon
theorem lt_get' {α : Type} {l : List α} {i : Nat} (h : i < l.length) : ∃ a, l[i]? = some a := ⟨_, List.getElem?_eq_getElem h⟩
theorem get_lt' {α : Type} {l : List α} {i : Nat} {a : α} (h : l[i]? = some a) : i < l.length := (List.getElem?_eq_some_iff.mp h).1
def pw (n : Nat) (f : List Nat) : Nat → List Nat
  | 0 => idm n
  | k + 1 => comp (pw n f k) f
theorem pw_valid {n : Nat} {f : List Nat} (hf : Valid n f) : ∀ k, Valid n (pw n f k)
  | 0 => idm_valid
  | k + 1 => comp_valid (pw_valid hf k) hf
theorem pw_comm {n : Nat} {f : List Nat} (hf : Valid n f) : ∀ k, comp f (pw n f k) = pw n f (k + 1)
  | 0 => by
    show comp f (idm n) = comp (idm n) f
    rw [comp_id hf, id_comp hf]
  | k + 1 => by
    show comp f (comp (pw n f k) f) = comp (pw n f (k + 1)) f
    rw [← comp_assoc hf (pw_valid hf k), pw_comm hf k]
/-- the powers 0 to L - 1 are unlike, power L is power i -/
structure Cyc (n : Nat) (f : List Nat) (L i : Nat) : Prop where
  inj : ∀ a b, a < b → b < L → pw n f a ≠ pw n f b
  lt : i < L
  again : pw n f L = pw n f i
theorem Cyc.uniq {n : Nat} {f : List Nat} {L i L' i' : Nat} (A : Cyc n f L i) (B : Cyc n f L' i') : L = L' ∧ i = i' := by
  have e : L = L' := by
    rcases Nat.lt_trichotomy L L' with h | h | h
    · exact absurd A.again.symm (B.inj i L A.lt h)
    · exact h
    · exact absurd B.again.symm (A.inj i' L' B.lt h)
  subst e
  refine ⟨rfl, ?_⟩
  rcases Nat.lt_trichotomy i i' with h | h | h
  · exact absurd (A.again.symm.trans B.again) (A.inj i i' h B.lt)
  · exact h
  · exact absurd (B.again.symm.trans A.again) (A.inj i' i h A.lt)
theorem p1 : ∀ a < 1, pw 1 [a] 15 = pw 1 [a] 3 := by decide +kernel
theorem p2 : ∀ a < 2, ∀ b < 2, pw 2 [a, b] 15 = pw 2 [a, b] 3 := by decide +kernel
theorem p3 : ∀ a < 3, ∀ b < 3, ∀ c < 3, pw 3 [a, b, c] 15 = pw 3 [a, b, c] 3 := by decide +kernel
theorem p4 : ∀ a < 4, ∀ b < 4, ∀ c < 4, ∀ d < 4, pw 4 [a, b, c, d] 15 = pw 4 [a, b, c, d] 3 := by decide +kernel
theorem pw_small {n : Nat} {f : List Nat} (hf : Valid n f) (n1 : 1 ≤ n) (n4 : n ≤ 4) : pw n f 15 = pw n f 3 := by
  obtain ⟨l, h⟩ := hf
  have : n = 1 ∨ n = 2 ∨ n = 3 ∨ n = 4 := by omega
  rcases this with rfl | rfl | rfl | rfl
  · match f, l with
    | [a], _ => exact p1 a (h a (by simp))
  · match f, l with
    | [a, b], _ => exact p2 a (h a (by simp)) b (h b (by simp))
  · match f, l with
    | [a, b, c], _ => exact p3 a (h a (by simp)) b (h b (by simp)) c (h c (by simp))
  · match f, l with
    | [a, b, c, d], _ => exact p4 a (h a (by simp)) b (h b (by simp)) c (h c (by simp)) d (h d (by simp))
theorem inj_le {n : Nat} {f : List Nat} (hf : Valid n f) (n1 : 1 ≤ n) (n4 : n ≤ 4) {L : Nat} (inj : ∀ a b, a < b → b < L → pw n f a ≠ pw n f b) : L ≤ 15 := by
  by_cases h : L ≤ 15
  · exact h
  · exact absurd (pw_small hf n1 n4).symm (inj 3 15 (by decide) (by omega))
theorem walk_word {rows : List (List Nat)} {m : List (Nat × Nat)} (hm : madeTab 0 rows [] = some m) : ∀ (k j : Nat), j ≤ k → j < m.length + 1 → walk rows 0 ((wordTab m).getD j []) = j
  | k, 0, _, _ => by rw [word_0]; rfl
  | 0, j + 1, h, _ => by omega
  | k + 1, j + 1, h, hj => by
    obtain ⟨p, hp⟩ := lt_get' (show j < m.length by omega)
    have hlt : ∀ (k : Nat) p, m[k]? = some p → p.1 < k + 1 := fun k p h => (madeTab_lt hm h).1
    obtain ⟨a, row, b, c⟩ := madeTab_lt hm hp
    rw [word_at hlt hp, walk_app, walk_word hm k p.1 (by omega) (by omega)]
    show (rows.getD p.1 []).getD p.2 0 = j + 1
    rw [getD_of b, getD_of c]
theorem compW_comp {n : Nat} {gens : List (List Nat)} (gv : ∀ g ∈ gens, Valid n g) {x : List Nat} (hx : Valid n x) : ∀ {w : List Nat} {y : List Nat}, Valid n y → (∀ c ∈ w, c < gens.length) → compW gens (comp x y) w = comp x (compW gens y w)
  | [], y, _, _ => rfl
  | c :: w, y, hy, hw => by
    obtain ⟨g, hg⟩ := lt_get' (hw c List.mem_cons_self)
    show compW gens (comp (comp x y) (gens.getD c [])) w = comp x (compW gens (comp y (gens.getD c [])) w)
    rw [getD_of hg, comp_assoc hx hy]
    exact compW_comp gv hx (comp_valid hy (gv g (List.mem_of_getElem? hg))) fun d hd => hw d (List.mem_cons_of_mem _ hd)
section
variable {n : Nat} {gens found rows : List (List Nat)} {m : List (Nat × Nat)}
theorem Tab.vg (T : Tab n gens found rows) : ∀ g ∈ gens, Valid n g := T.gval
theorem Tab.vf (T : Tab n gens found rows) {i : Nat} {x : List Nat} (h : found[i]? = some x) : Valid n x := T.val x (List.mem_of_getElem? h)
/-- products by words are products of maps -/
theorem Tab.prodW (T : Tab n gens found rows) (hm : madeTab 0 rows [] = some m) (lm : m.length + 1 = rows.length) {i j : Nat} {x y : List Nat} (hx : found[i]? = some x) (hy : found[j]? = some y) (wl : ∀ c ∈ (wordTab m).getD j [], c < gens.length) :
    found[Mon.walk rows i ((wordTab m).getD j [])]? = some (comp x y) := by
  have hj : j < m.length + 1 := by rw [lm, T.len]; exact get_lt' hy
  have e0 := T.walk (s := 0) T.head wl
  rw [walk_word hm j j (Nat.le_refl _) hj, hy] at e0
  have e1 := T.walk hx wl
  have e2 := compW_comp T.vg (T.vf hx) (w := (wordTab m).getD j []) (y := idm n) idm_valid wl
  rw [comp_id (T.vf hx)] at e2
  rw [e1, e2, ← Option.some.inj e0]
end
/-- numbers of powers -/
structure Pows (n : Nat) (found : List (List Nat)) (f : List Nat) (pl : List Nat) (i : Nat) : Prop where
  cyc : Cyc n f pl.length i
  at' : ∀ k r, pl[k]? = some r → found[r]? = some (pw n f k)
end Mon
namespace Mon
section
variable {n : Nat} {gens found rows : List (List Nat)} {f : List Nat}
/-- what the search for powers has found: numbers of the powers, all unlike -/
structure PI (n : Nat) (found : List (List Nat)) (f : List Nat) (pl : List Nat) : Prop where
  at' : ∀ (k r : Nat), pl[k]? = some r → found[r]? = some (pw n f k)
  inj : ∀ a b, a < b → b < pl.length → pw n f a ≠ pw n f b
theorem PI.nd (h : PI n found f pl) : pl.Nodup := by
  rw [List.Nodup, List.pairwise_iff_getElem]
  intro i j hi hj ij e
  have a := h.at' i pl[i] (List.getElem?_eq_getElem hi)
  have b := h.at' j pl[j] (List.getElem?_eq_getElem hj)
  rw [e] at a
  exact h.inj i j ij hj (Option.some.inj (a.symm.trans b))
theorem PI.more (h : PI n found f pl) (nd : found.Nodup) {r : Nat} (hr : found[r]? = some (pw n f pl.length)) (nr : r ∉ pl) : PI n found f (pl ++ [r]) where
  at' := fun k t ht => by
    by_cases hk : k < pl.length
    · rw [List.getElem?_append_left hk] at ht
      exact h.at' k t ht
    · have l := get_lt' ht
      rw [List.length_append, List.length_singleton] at l
      have e : k = pl.length := by omega
      subst e
      rw [List.getElem?_append_right (Nat.le_refl _), Nat.sub_self] at ht
      cases ht
      exact hr
  inj := fun a b ab hb e => by
    rw [List.length_append, List.length_singleton] at hb
    by_cases hk : b < pl.length
    · exact h.inj a b ab hk e
    · have eb : b = pl.length := by omega
      subst eb
      obtain ⟨t, ht⟩ := lt_get' (l := pl) (i := a) ab
      have := h.at' a t ht
      rw [e] at this
      have : t = r := nodup_at nd this hr
      exact nr (this ▸ List.mem_of_getElem? ht)
theorem PI.done (h : PI n found f pl) {r i : Nat} (hr : found[r]? = some (pw n f pl.length)) (hi : pl[i]? = some r) : Pows n found f pl i :=
  ⟨⟨h.inj, get_lt' hi, Option.some.inj (hr.symm.trans (h.at' i r hi))⟩, h.at'⟩
theorem PI.zero (T : Tab n gens found rows) : PI n found f [0] where
  at' := fun k r h => by
    have l := get_lt' h
    have e : k = 0 := by simpa using l
    subst e
    cases h
    exact T.head
  inj := fun a b ab hb => by
    have : b < 1 := hb
    omega
end
end Mon

set_option Elab.async false
set_option linter.all false
set_option maxRecDepth 100000
set_option maxHeartbeats 2000000
/-! Tuples of numbers, and rows of them, as data: equal, in, index. -/
namespace Lf
open PySem PySem.Spec PyProof.Rows L2
def dN (i : Nat) : PyData := .int ((i : Nat) : Int)
def dI (x : List Nat) : PyData := .tuple (x.map dN)
theorem all_lay {k : Nat} : ∀ {ds : List PyData}, (∀ d ∈ ds, d.canLay0 = true ∧ d.depth ≤ k) → PyData.canLayAll0 ds = true ∧ PyData.depthAll ds ≤ k
  | [], _ => by simp [PyData.canLayAll0, PyData.depthAll]
  | d :: ds, h => by
    obtain ⟨a, b⟩ := all_lay fun e he => h e (List.mem_cons_of_mem _ he)
    obtain ⟨c, e⟩ := h d List.mem_cons_self
    refine ⟨by simp [PyData.canLayAll0, a, c], ?_⟩
    rw [PyData.depthAll]
    omega
theorem tup_lay {k : Nat} {ds : List PyData} (h : ∀ d ∈ ds, d.canLay0 = true ∧ d.depth ≤ k) : (PyData.tuple ds).canLay0 = true ∧ (PyData.tuple ds).depth ≤ k + 1 := by
  obtain ⟨a, b⟩ := all_lay h
  refine ⟨by rw [PyData.canLay0]; exact a, ?_⟩
  rw [PyData.depth]
  omega
theorem lst_lay {k : Nat} {ds : List PyData} (h : ∀ d ∈ ds, d.canLay0 = true ∧ d.depth ≤ k) : (PyData.list ds).canLay0 = true ∧ (PyData.list ds).depth ≤ k + 1 := by
  obtain ⟨a, b⟩ := all_lay h
  refine ⟨by rw [PyData.canLay0]; exact a, ?_⟩
  rw [PyData.depth]
  omega
theorem sh_lay {d : PyData} {k : Nat} (h : d.canLay0 = true ∧ d.depth ≤ k) (hk : k ≤ 64) : SeqAt.shaped d = true := by
  unfold SeqAt.shaped
  rw [h.1, decide_eq_true (by omega)]
  rfl
theorem dN_lay (i : Nat) : (dN i).canLay0 = true ∧ (dN i).depth ≤ 0 := by simp [dN, PyData.canLay0, PyData.depth]
theorem dI_lay (x : List Nat) : (dI x).canLay0 = true ∧ (dI x).depth ≤ 0 + 1 := tup_lay fun d hd => by
  obtain ⟨i, _, rfl⟩ := List.mem_map.mp hd
  exact dN_lay i
theorem dI_sh (x : List Nat) : SeqAt.shaped (dI x) = true := sh_lay (dI_lay x) (by decide)
theorem rows_sh (l : List (List Nat)) : SeqAt.shaped (.list (l.map dI)) = true := sh_lay (lst_lay fun d hd => by
  obtain ⟨i, _, rfl⟩ := List.mem_map.mp hd
  exact dI_lay i) (by decide)
theorem trows_sh (l : List (List Nat)) : SeqAt.shaped (.tuple (l.map dI)) = true := sh_lay (tup_lay fun d hd => by
  obtain ⟨i, _, rfl⟩ := List.mem_map.mp hd
  exact dI_lay i) (by decide)
theorem ints_sh (l : List Nat) : SeqAt.shaped (.list (l.map dN)) = true := sh_lay (lst_lay fun d hd => by
  obtain ⟨i, _, rfl⟩ := List.mem_map.mp hd
  exact dN_lay i) (by decide)
theorem dI_eqv (x y : List Nat) : PyData.eqv (dI x) (dI y) = decide (x = y) := by
  have e : ∀ l : List Nat, l.map dN = (l.map fun i => ((i : Nat) : Int)).map PyData.int := fun l => by rw [List.map_map]; rfl
  unfold dI
  rw [PyData.eqv, e, e, PySem.W.ked_eqvAll]
  refine decide_eq_decide.mpr ⟨fun h => ?_, fun h => by rw [h]⟩
  exact List.map_inj_right (fun a b h => by omega) |>.mp h
section
variable {K : PySem.W.Frag} {H : Hp}
theorem dpN : ∀ {x : List Nat}, DpAll K H (x.map fun i => V.int (i : Nat)) (x.map dN)
  | [] => .nil
  | i :: x => .cons (.int _) dpN
theorem dpI {a : Addr} {x : List Nat} (h : SqT K H a (x.map fun i => V.int (i : Nat))) : Dp K H (.ref a) (dI x) := .tup h dpN
theorem dpR : ∀ {as : List Addr} {rows : List (List Nat)}, as.length = rows.length → (∀ (j : Nat) a x, as[j]? = some a → rows[j]? = some x → SqT K H a (x.map fun i => V.int (i : Nat))) → DpAll K H (as.map V.ref) (rows.map dI)
  | [], [], _, _ => .nil
  | a :: as, x :: rows, l, h => .cons (dpI (h 0 a x rfl rfl)) (dpR (by simpa using l) fun j b y h1 h2 => h (j + 1) b y h1 h2)
theorem any_dI {l : List (List Nat)} {x : List Nat} : ((l.map dI).any fun z => PyData.eqv z (dI x)) = decide (x ∈ l) := by
  rw [List.any_map]
  by_cases h : x ∈ l
  · rw [decide_eq_true h, List.any_eq_true]
    exact ⟨x, h, by show PyData.eqv (dI x) (dI x) = true; rw [dI_eqv]; simp⟩
  · rw [decide_eq_false h, List.any_eq_false]
    intro y hy e
    have : PyData.eqv (dI y) (dI x) = true := e
    rw [dI_eqv] at this
    exact h (of_decide_eq_true this ▸ hy)
/-- for l.index(x): x stands at j and nowhere else -/
theorem index_pre {l : List (List Nat)} {x : List Nat} {j : Nat} (nd : l.Nodup) (hj : l[j]? = some x) : (l.map dI)[j]? = some (dI x) ∧ PyData.eqv (dI x) (dI x) = true ∧ ∀ (k : Nat) z, k < j → (l.map dI)[k]? = some z → PyData.eqv z (dI x) = false := by
  refine ⟨by rw [List.getElem?_map, hj]; rfl, by rw [dI_eqv]; simp, fun k z kj hz => ?_⟩
  rw [List.getElem?_map] at hz
  obtain ⟨y, hy, rfl⟩ := Option.map_eq_some_iff.mp hz
  rw [dI_eqv]
  refine decide_eq_false fun e => ?_
  subst e
  have := (List.getElem?_inj (List.getElem?_eq_some_iff.mp hy).1 nd).mp (hy.trans hj.symm)
  omega
theorem in_dI {p c : Addr} {l : List (List Nat)} {x : List Nat} {Q : VK} (hl : Dp K H (.ref p) (.list (l.map dI))) (hx : Dp K H (.ref c) (dI x)) (q : Q (.bl (decide (x ∈ l))) H) : rInD K (.ref c) (.ref p) H Q :=
  ⟨dI x, l.map dI, hx, hl, dI_sh x, rows_sh l, by rw [any_dI]; exact q⟩
theorem ne_dI {a b : V} {d : PyData} {Q : VK} (ha : Dp K H a d) (hb : Dp K H b d) (sh : SeqAt.shaped d = true) (q : Q (.bl false) H) : rNeD K a b H Q :=
  ⟨d, d, ha, hb, sh, sh, by rw [SeqAt.eqv_refl _ (SeqAt.canLay_of_shaped sh)]; exact q⟩
theorem eq_dI {a b : V} {d : PyData} {Q : VK} (ha : Dp K H a d) (hb : Dp K H b d) (sh : SeqAt.shaped d = true) (q : Q (.bl true) H) : rEqD K a b H Q :=
  ⟨d, d, ha, hb, sh, sh, by rw [SeqAt.eqv_refl _ (SeqAt.canLay_of_shaped sh)]; exact q⟩
end
end Lf

set_option Elab.async false
set_option linter.all false
set_option maxRecDepth 100000
set_option maxHeartbeats 8000000
namespace K14
open PySem PySem.Spec PyProof.Rows L2 Lf
def pws (n : Nat) (f : List Nat) (L : Nat) : List (List Nat) := (List.range L).map (Mon.pw n f)
theorem pws_len {n : Nat} {f : List Nat} {L : Nat} : (pws n f L).length = L := by rw [pws, List.length_map, List.length_range]
theorem pws_at {n : Nat} {f : List Nat} {L j : Nat} (h : j < L) : (pws n f L)[j]? = some (Mon.pw n f j) := by
  rw [pws, List.getElem?_map, List.getElem?_range h]
  rfl
theorem pws_get {n : Nat} {f : List Nat} {L j : Nat} {x : List Nat} (h : (pws n f L)[j]? = some x) : x = Mon.pw n f j := by
  have l := get_lt h
  rw [pws_len] at l
  rw [pws_at l] at h
  exact (Option.some.inj h).symm
theorem pws_nd {n : Nat} {f : List Nat} {L : Nat} (inj : ∀ a b, a < b → b < L → Mon.pw n f a ≠ Mon.pw n f b) : (pws n f L).Nodup := by
  rw [List.Nodup, List.pairwise_iff_getElem]
  intro i j hi hj ij e
  have a := pws_get (List.getElem?_eq_getElem hi)
  have b := pws_get (List.getElem?_eq_getElem hj)
  rw [pws_len] at hj
  exact inj i j ij hj (a.symm.trans (e.trans b))
/-- the powers of a map, as they lie -/
structure PwL (H : Hp) (l : Addr) (n : Nat) (f : List Nat) (L : Nat) : Prop where
  ex : ∃ as : List Addr, H l = some (.lst (as.map V.ref)) ∧ as.length = L ∧ ∀ (j : Nat) a, as[j]? = some a → H a = some (.tup ((Mon.pw n f j).map nv))
theorem PwL.same {H H' : Hp} {l : Addr} {n : Nat} {f : List Nat} {L : Nat} (h : PwL H l n f L) (e : Same H H') : PwL H' l n f L := by
  obtain ⟨as, a, b, c⟩ := h.ex
  exact ⟨as, e _ _ a, b, fun j x h => e _ _ (c j x h)⟩
theorem PwL.dp {K : PySem.W.Frag} {H : Hp} {l : Addr} {n : Nat} {f : List Nat} {L : Nat} (h : PwL H l n f L) : Dp K H (.ref l) (.list ((pws n f L).map dI)) := by
  obtain ⟨as, a, b, c⟩ := h.ex
  exact .lst (SqL.of a) (dpR (by rw [b, pws_len]) fun j x y h1 h2 => by
    rw [pws_get h2]
    exact SqT.of (c j x h1))
def spPowersL (K : PySem.W.Frag) : Sp := fun vs H Q _ => ∃ a f n, vs = [.ref a] ∧ SqT K H a (f.map nv) ∧ Mon.Valid n f ∧ 1 ≤ n ∧ n ≤ 4 ∧
  ∀ T l L i H', Same H H' → H T = none → H l = none → H' T = some (.tup [.ref l, .int (i : Nat)]) → PwL H' l n f L → Mon.Cyc n f L i → Q (.ref T) H'
section
variable {P : Program} {w : World} {K : PySem.W.Frag} {mg : Str → Option Value} {base : Heap}
theorem scPowersL : FnScope ["_law_images", "_law_found", "_law_power", "_law_turn"] ["_law_images"] (defScope s_L_powers) := ⟨rfl, rfl, rfl, by decide +kernel, rfl, by decide +kernel, by decide +kernel⟩
theorem ok_powersL {f : Addr} {fd : FuncData} {q : Str} (F : FunD K "_law_powers" q (defArgs s_L_powers) (defBody s_L_powers) (defScope s_L_powers) [] [] f fd) (zr : mg "range" = none) (zt : mg "tuple" = none) (zn : mg "len" = none)
    (DP : Def P w K mg base CX0 1 "_law_product" ["_law_one", "_law_other"] (spProd K)) :
    FnOk P w K mg base CX0 2 f fd ["_law_images"] (spPowersL K) := by
  refine F.ok scPowersL (fun vs H Q E h => ?_) (fun cdv A outer s H vs Q E hr h => ?_)
  · obtain ⟨a, g, n, rfl, _⟩ := h
    rfl
  · obtain ⟨a, g, n, rfl, ha, vg, n1, n4, k⟩ := h
    have hu : (A.deeper (envOfC q (defScope s_L_powers) s.heap.objs.size f cdv)).units + 65 < cLine := by have := hr.un; omega
    refine ⟨_, PSs.nox (pss_cons (ps_par (i := 1) (j := 2) rfl scPowersL.nd rfl rfl (by decide) rfl rfl (pa_cons (pe_lst pa_nil) (pa_cons (pe_tupRg rfl rfl zt (prg_1 rfl zr (pe_callB call_len_seq rfl zn boot_len (pa_cons (pv 0) pa_nil)))) pa_nil)) (by rfl))
      (pss_cons (ps_for PassesOwn.never rfl (pi_range1 rfl zr (pa_cons pe_int pa_nil)) (pg_name (i := 3) scPowersL.nd rfl (.inl rfl))
        (pss_cons (ps_if (pt_cmpR (op_inD hu) (pv 2) (pv 1) (by rfl)) (pss_one (ps_ret (pe_tup (pa_cons (pv 1) (pa_cons (pe_bm PySem.F.plainAttrs_list PySem.F.slot_list_index PySem.F.type_list_index (mt_indexD hu) (pv 1) (pa_cons (pv 2) pa_nil)) pa_nil))))) pss_nil)
        (pss_cons (ps_expr (pe_bm PySem.F.plainAttrs_list PySem.F.slot_list_append PySem.F.type_list_append mt_append (pv 1) (pa_cons (pv 2) pa_nil)))
        (pss_one (ps_set (i := 2) scPowersL.nd rfl (.inl rfl) (pe_def DP hr pass0 rfl (pa_cons (pv 2) (pa_cons (pv 0) pa_nil))))))))
      (pss_one (ps_ret (pe_tup (pa_cons (pv 1) (pa_cons pe_int pa_nil))))))), ?_⟩
    refine ⟨(by show 0 ≤ sizeLine; decide), fun B nB => ?_⟩
    have nB0 := nB
    have s1 := same_upd (o := .lst []) nB
    have hB1 : L2.upd H B (.lst []) B = some (.lst (([] : List Addr).map V.ref)) := upd_same
    generalize L2.upd H B (.lst []) = H1 at s1 hB1 ⊢
    refine ⟨_, rfl, a, g.map nv, rfl, .inr (Lf.SqT.same s1 ha), (n : Nat), by rw [List.length_map, vg.1], ?_⟩
    refine ⟨⟨by decide, by decide, by omega, by omega, by omega⟩, fun c0 nc0 => ?_⟩
    rw [rgV_nv]
    have u2 := same_upd (o := .tup ((Mon.idm n).map nv)) nc0
    have s2 := s1.trans u2
    have hB2 := u2 _ _ hB1
    have hc2 : L2.upd H1 c0 (.tup ((Mon.idm n).map nv)) c0 = some (.tup ((Mon.pw n g 0).map nv)) := upd_same
    generalize L2.upd H1 c0 (.tup ((Mon.idm n).map nv)) = H2 at s2 hB2 hc2 ⊢
    clear u2 s1 hB1 nB
    refine ⟨_, _, rfl, ?_⟩
    refine ⟨200, rfl, by decide, by decide, for_range (lo := 0) (n := 200) (fun i σ Hn => ∃ (v3 : Option V) (cur : Addr), σ = [some (.ref a), some (.ref B), some (.ref cur), v3] ∧ Same H Hn ∧ PwL Hn B n g i ∧ Hn cur = some (.tup ((Mon.pw n g i).map nv)) ∧ ∀ x y, x < y → y < i → Mon.pw n g x ≠ Mon.pw n g y)
      ⟨none, c0, rfl, s2, ⟨[], hB2, rfl, fun j x h => by simp at h⟩, hc2, fun x y _ h => absurd h (Nat.not_lt_zero _)⟩ (fun i σ Hn hi ⟨v3, cur, eσ, sn, PL, hcur, inj⟩ => ?_) (fun σ Hn ⟨v3, cur, eσ, sn, PL, hcur, inj⟩ => ?_)⟩
    · subst eσ
      have dB := PL.dp (K := K)
      have dc : Dp K Hn (.ref cur) (dI (Mon.pw n g i)) := dpI (SqT.of hcur)
      refine ⟨_, rfl, _, rfl, in_dI dB dc ⟨_, rfl, ?_⟩⟩
      obtain ⟨as, hB, la, el⟩ := PL.ex
      by_cases hin : Mon.pw n g i ∈ pws n g i
      · rw [decide_eq_true hin]
        refine ifT rfl ?_
        obtain ⟨j, hj⟩ := List.getElem?_of_mem hin
        have ej := pws_get hj
        have lj := get_lt hj
        obtain ⟨i1, i2, i3⟩ := index_pre (pws_nd inj) hj
        rw [pws_len] at lj
        refine ⟨_, rfl, _, rfl, .inl ⟨rfl, _, SqL.of hB⟩, _, rfl, B, .ref cur, dI (Mon.pw n g i), _, j, dI (Mon.pw n g i), rfl, rfl, dB, dc, rows_sh _, dI_sh _, i1, i2, i3, ?_⟩
        refine ⟨(by show 2 ≤ sizeLine; decide), fun T nT => ?_⟩
        have u := same_upd (o := .tup [.ref B, .int (j : Nat)]) nT
        exact k T B i j _ (sn.trans u) (nil_of sn nT) nB0 upd_same (PL.same u) ⟨inj, lj, ej⟩
      · rw [decide_eq_false hin]
        refine ifF rfl ?_
        have inj' : ∀ x y, x < y → y < i + 1 → Mon.pw n g x ≠ Mon.pw n g y := fun x y xy hy e => by
          by_cases h : y < i
          · exact inj x y xy h e
          · have : y = i := by omega
            subst this
            exact hin (e ▸ List.mem_of_getElem? (pws_at xy))
        have i15 := Mon.inj_le vg n1 n4 inj'
        refine ⟨_, rfl, .inl ⟨rfl, _, SqL.of hB⟩, _, rfl, B, _, _, rfl, rfl, hB, by rw [List.length_map, la]; show i < 16777216; omega, ?_⟩
        have e1 : as.map V.ref ++ [V.ref cur] = (as ++ [cur]).map V.ref := by simp
        rw [e1]
        have nBc : cur ≠ B := fun z => by rw [z, hB] at hcur; cases hcur
        have s5 : Same H (L2.upd Hn B (.lst ((as ++ [cur]).map V.ref))) := fun b o e => by
          rw [upd_ne (ne_of_none e nB0)]
          exact sn b o e
        have PL5 : PwL (L2.upd Hn B (.lst ((as ++ [cur]).map V.ref))) B n g (i + 1) := by
          refine ⟨as ++ [cur], upd_same, by rw [List.length_append, la]; rfl, fun j x hx => ?_⟩
          rcases Mon.snoc_cases hx with hx | ⟨ej, rfl⟩
          · have e := el j x hx
            rw [upd_ne (fun z => by rw [z, hB] at e; cases e)]
            exact e
          · rw [ej, la, upd_ne nBc]
            exact hcur
        have hcur5 : L2.upd Hn B (.lst ((as ++ [cur]).map V.ref)) cur = some (.tup ((Mon.pw n g i).map nv)) := by rw [upd_ne nBc]; exact hcur
        generalize L2.upd Hn B (.lst ((as ++ [cur]).map V.ref)) = H5 at s5 PL5 hcur5 ⊢
        refine ⟨_, rfl, _, rfl, cur, a, Mon.pw n g i, g, n, rfl, SqT.of hcur5, Lf.SqT.same s5 ha, Mon.pw_valid vg i, vg, by omega, fun t H6 nt s6 ht => ?_⟩
        exact ⟨_, t, rfl, s5.trans s6, PL5.same s6, ht, inj'⟩
    · have := Mon.inj_le vg n1 n4 inj
      omega
end
end K14

set_option Elab.async false
set_option linter.all false
set_option maxRecDepth 100000
set_option maxHeartbeats 4000000
/-! list(text), text * n; texts by their signs. -/
namespace Lf
open PySem PySem.Spec PyProof.Rows L2
/-- a text of signs -/
def tx (cs : List Nat) : Str := ⟨cs.toArray⟩
theorem tx_len (cs : List Nat) : (tx cs).length = cs.length := by
  show cs.toArray.size = _
  simp
theorem tx_list (cs : List Nat) : (tx cs).cps.toList = cs := rfl
theorem tx_app (a b : List Nat) : tx a ++ tx b = tx (a ++ b) := by
  show Str.mk (a.toArray ++ b.toArray) = Str.mk (a ++ b).toArray
  simp
theorem tx_inj {a b : List Nat} (h : tx a = tx b) : a = b := by
  have := congrArg (fun z : Str => z.cps.toList) h
  exact this
theorem tx_of (z : Str) : z = tx z.cps.toList := by
  obtain ⟨⟨l⟩⟩ := z
  rfl
theorem call_listStr {X : Cx} (hc : X.calm = true) : CallR X (.type "list") (fun xs H Q => ∃ cs : List Nat, xs = [.str (tx cs)] ∧ cs.length ≤ sizeLine ∧ ∀ l, H l = none → Q (.ref l) (upd H l (.lst (cs.map fun c => V.str (tx [c]))))) := by
  intro pins s σ H xs us Q I r h
  obtain ⟨cs, rfl, hz, q⟩ := h
  obtain ⟨u, rfl, rx⟩ := vals1 r
  obtain ⟨t, rfl⟩ := rx
  have sz : (tx cs).cps.size = cs.length := by simp [tx]
  refine call_list_str (I.ok.hd hc) (tx cs) t (fun h' tk acc' c' kp e it => ?_) (by rw [sz]; exact hz)
  have la : acc'.toList.length = cs.length := by rw [Array.length_toList, it.1, sz]
  have rv : Vals (cs.map fun c => V.str (tx [c])) acc'.toList := by
    have g : ∀ (cs : List Nat) (us : List Value), us.length = cs.length → (∀ (j : Nat) (v : Value), us[j]? = some v → ∃ (c : Nat) (u : Tok), cs[j]? = some c ∧ v = Value.str ⟨#[c]⟩ u) → Vals (cs.map fun c => V.str (tx [c])) us := by
      intro cs
      induction cs with
      | nil =>
        intro us hl _
        cases us with
        | nil => exact .nil
        | cons a b => simp at hl
      | cons c cs ih =>
        intro us hl hv
        cases us with
        | nil => simp at hl
        | cons a b =>
          refine .cons ?_ (ih b (by simpa using hl) fun j v hj => hv (j + 1) v hj)
          obtain ⟨c', u, e1, e2⟩ := hv 0 a rfl
          cases e1
          exact ⟨u, e2⟩
    refine g cs _ la fun j v hj => ?_
    have hj' : acc'[j]? = some v := by rw [← Array.getElem?_toList]; exact hj
    obtain ⟨c, u, e1, e2⟩ := it.2 j v hj'
    refine ⟨c, u, ?_, e2⟩
    rw [← Array.getElem?_toList] at e1
    exact e1
  refine ⟨.ref s.heap.objs.size, _, I.laid (t' := tk) kp (Nat.le_refl _) (show ObjOk X.prog X.w _ h' _ (.lst (cs.map fun c => V.str (tx [c]))) from ⟨by rw [List.length_map]; exact hz, acc'.toList, c', rv, ?_⟩), rfl, q _ (I.hok.fresh (Nat.le_refl _))⟩
  exact e
theorem foldl_app (x : Array Nat) : ∀ (n : Nat) (a : Array Nat), (List.replicate n x).foldl (· ++ ·) a = a ++ (List.replicate n x.toList).flatten.toArray
  | 0, a => by simp
  | n + 1, a => by
    rw [List.replicate_succ, List.foldl_cons, foldl_app x n, List.replicate_succ, List.flatten_cons]
    apply Array.ext'
    simp
theorem flat_len (n : Nat) (cs : List Nat) : (List.replicate n cs).flatten.length = n * cs.length := by
  induction n with
  | zero => rw [Nat.zero_mul]; rfl
  | succ n ih => rw [List.replicate_succ, List.flatten_cons, List.length_append, ih, Nat.succ_mul, Nat.add_comm]
theorem op_mul_str {X : Cx} : OpR X (binaryOp .Mult) (fun x y H Q => ∃ (cs : List Nat) (n : Nat), x = .str (tx cs) ∧ y = .int (n : Nat) ∧ 2 ≤ n ∧ n ≤ 1000 ∧ 1 ≤ cs.length ∧ cs.length ≤ 1000 ∧ Q (.str (tx (List.replicate n cs).flatten)) H) := by
  intro pins s σ H x y v u Q I rx ry h
  obtain ⟨cs, n, rfl, rfl, h2, hn, l1, l2, q⟩ := h
  obtain ⟨t, rfl⟩ := rx
  obtain ⟨t', rfl⟩ := ry
  have ll : (tx cs).length = cs.length := tx_len cs
  have nl : ¬ ((n : Nat) : Int) < 1 := by omega
  have no : (((n : Nat) : Int) == 1 || (tx cs).length == 0) = false := by
    rw [ll]
    have a : (((n : Nat) : Int) == 1) = false := by
      apply beq_false_of_ne
      omega
    have b : (cs.length == 0) = false := by
      apply beq_false_of_ne
      omega
    rw [a, b]
    rfl
  have hm : cs.length * n ≤ 1000000 := by
    have := Nat.mul_le_mul l2 hn
    omega
  refine P.mul_str ?_ (fun _ _ => ?_) (fun _ _ => ?_) ?_
  · rw [decide_eq_false (by omega), decide_eq_false (by omega)]
    rfl
  · rw [ll]
    have : (cs.length : Int) ≤ (2 ^ 63 - 1) / (n : Nat) := by
      rw [Int.le_ediv_iff_mul_le (by omega)]
      have : ((cs.length * n : Nat) : Int) ≤ 1000000 := Int.ofNat_le.mpr hm
      rw [Int.natCast_mul] at this
      omega
    omega
  · rw [ll, Int.toNat_natCast]
    have : ¬ cs.length * n > sizeLine := by rw [sizeLine_eq]; omega
    show decide (cs.length * n > sizeLine) = false
    exact decide_eq_false this
  · rw [if_neg nl, no, if_neg (by decide), Int.toNat_natCast]
    have e : (⟨(List.replicate n (tx cs).cps).foldl (· ++ ·) #[]⟩ : Str) = tx (List.replicate n cs).flatten := by
      rw [foldl_app]
      show Str.mk (#[] ++ (List.replicate n cs).flatten.toArray) = _
      rw [Array.empty_append]
      rfl
    rw [e]
    refine ⟨?_, ⟨.str (tx (List.replicate n cs).flatten), H, I.tok _, ⟨_, rfl⟩, q⟩⟩
    rw [tx_len]
    have : (List.replicate n cs).flatten.length = n * cs.length := flat_len n cs
    rw [this, sizeLine_eq, Nat.mul_comm]
    omega
end Lf

set_option Elab.async false
set_option linter.all false
set_option maxRecDepth 100000
set_option maxHeartbeats 8000000
namespace K14
open PySem PySem.Spec PyProof.Rows L2 Lf
theorem tIf_k {t : TT} {ta tb : TE} {σ : L2.St} {H : Hp} {Q : VK} (R : V → Hp → Prop) (h : (∀ v H1, R v H1 → Q v H1) → tIf t ta tb σ H Q) (hR : ∀ v H1, R v H1 → Q v H1) : tIf t ta tb σ H Q := h hR
theorem gName_k {i : Nat} {v : V} {σ : L2.St} {H : Hp} {Q : L2.St → Hp → Prop} (h : Q (σ.set i (some v)) H) : gName i v σ H Q := h
theorem tSeq_k {t u : TS} {D : Ends} {σ : L2.St} {H : Hp} (h : t { D with nx := u D } σ H) : tSeq t u D σ H := h
theorem tAsg_k {te : TE} {g : TG} {D : Ends} {σ : L2.St} {H : Hp} (h : te σ H fun x H1 => g x σ H1 D.nx) : tAsg te g D σ H := h
theorem ws_tx (x : List Nat) : ws x = tx (x.map fun c => 97 + c) := rfl
theorem join_ws : ∀ (acc : List Nat), Txt.join ("" : Str) (acc.map fun c => ws [c]) = ws acc := by
  intro acc
  rw [TL.join_eq]
  induction acc with
  | nil => rfl
  | cons c r ih =>
    cases r with
    | nil => rfl
    | cons d r =>
      show ws [c] ++ ("" : Str) ++ Str.join "" ((d :: r).map fun c => ws [c]) = _
      rw [ih]
      show tx ([c].map fun c => 97 + c) ++ tx [] ++ tx ((d :: r).map fun c => 97 + c) = _
      rw [tx_app, tx_app]
      rfl
theorem cut_1 {wd : Nat} (h1 : 1 ≤ wd) (h6 : wd ≤ 6) : cutS (ws (List.range wd)) none (some 1) = ws [0] := by
  have : wd = 1 ∨ wd = 2 ∨ wd = 3 ∨ wd = 4 ∨ wd = 5 ∨ wd = 6 := by omega
  rcases this with rfl | rfl | rfl | rfl | rfl | rfl <;> decide +kernel
theorem cut_l {wd : Nat} (h1 : 1 ≤ wd) (h6 : wd ≤ 6) : cutS (ws (List.range wd)) (some (-1)) none = ws [wd - 1] := by
  have : wd = 1 ∨ wd = 2 ∨ wd = 3 ∨ wd = 4 ∨ wd = 5 ∨ wd = 6 := by omega
  rcases this with rfl | rfl | rfl | rfl | rfl | rfl <;> decide +kernel
theorem ws_two (a b : Nat) : ws [a] ++ ws [b] = ws [a, b] := by
  show tx [97 + a] ++ tx [97 + b] = tx [97 + a, 97 + b]
  rw [tx_app]
  rfl
def spWordL : Sp := fun vs H Q _ => ∃ l n wd, vs = [.ref l, .str (ws (List.range wd))] ∧ Src H l n ∧ n + 110 ≤ 1000000 ∧ 1 ≤ wd ∧ wd ≤ 6 ∧ ∀ x H', But l H H' → (∀ c ∈ x, c < wd) → x.length ≤ 100 → Src H' l (n + 110) → Q (.str (ws x)) H'
abbrev teP : TE := fun σ H Q => (tCons (tVar 0) (tCons (tVar 3) tNil)) σ H fun vs H1 => spPick vs H1 Q E0
section
variable {P : Program} {w : World} {K : PySem.W.Frag} {mg : Str → Option Value} {base : Heap}
theorem scWordL : FnScope ["_law_source_here", "_law_letters", "_law_many", "_law_some", "_law_turn"] ["_law_source_here", "_law_letters"] (defScope s_L_word) := ⟨rfl, rfl, rfl, by decide +kernel, rfl, by decide +kernel, by decide +kernel⟩
theorem ok_wordL {f : Addr} {fd : FuncData} {q : Str} (F : FunD K "_law_word" q (defArgs s_L_word) (defBody s_L_word) (defScope s_L_word) [] [] f fd) (zr : mg "range" = none)
    (DD : Def P w K mg base CX0 1 "_law_draw" ["_law_source_here", "_law_many"] spDraw) (DP : Def P w K mg base CX0 2 "_law_pick" ["_law_source_here", "_law_some"] spPick) :
    FnOk P w K mg base CX0 3 f fd ["_law_source_here", "_law_letters"] spWordL := by
  refine F.ok scWordL (fun vs H Q E h => ?_) (fun cdv A outer s H vs Q E hr h => ?_)
  · obtain ⟨l, n, wd, rfl, _⟩ := h
    rfl
  · obtain ⟨l, n, wd, rfl, src, n1, w1, w6, k⟩ := h
    have r1 : Room 1 _ := hr.mono (by decide)
    refine ⟨_, PSs.nox (pss_cons (ps_set (i := 2) scWordL.nd rfl (.inl rfl) (pe_def DP hr pass0 rfl (pa_cons (pv 0) (pa_cons (pe_lst (pa_cons pe_int (pa_cons pe_int (pa_cons pe_int (pa_cons pe_int (pa_cons pe_int (pa_cons pe_int (pa_cons pe_int pa_nil)))))))) pa_nil))))
      (pss_cons (ps_set (i := 3) scWordL.nd rfl (.inr rfl) (pe_ifExp (pt_cmpR op_gt (pe_def DD r1 pass0 rfl (pa_cons (pv 0) (pa_cons pe_int pa_nil))) pe_int (nomark _)) (pv 1) (pe_op op_add_str (pe_slice sl_str (pv 1) po_none (po_some pe_int)) (pe_slice sl_str (pv 1) (po_some (pe_un un_neg pe_int)) po_none))))
      (pss_one (ps_ret (pe_join pe_str (pe_lc (own := [("_law_turn", 4)]) (g := gName 4) (te := teP) (by rfl) scWordL.nd (pi_range1 rfl zr (pa_cons (pv 2) pa_nil)) (blkOk_by (own := [("_law_turn", 4)]) (N := ["_law_source_here", "_law_letters", "_law_many", "_law_some", "_law_turn"]) (sc := defScope s_L_word) (by decide +kernel)) (fun _ _ _ _ _ => pg_name (i := 4) scWordL.nd rfl (Or.inl rfl)) (fun _ _ _ _ _ => pts_nil)
        (fun _ _ _ _ _ => by exact pe_def DP hr pass0 rfl (pa_cons (pv 0) (pa_cons (pv 3) pa_nil))))))))), ?_⟩
    refine ⟨_, rfl, (by show 7 ≤ sizeLine; decide), fun p np => ?_⟩
    have pl := src.ne np
    refine ⟨l, n, src.upd pl, by omega, .inl ⟨p, _, rfl, upd_same, pl, (by decide), (by decide), fun kk v H1 hv b1 src1 => ?_⟩⟩
    obtain ⟨many, rfl, m1⟩ : ∃ m : Nat, v = .int (m : Nat) ∧ m ≤ 100 := by
      have hm := List.mem_of_getElem? hv
      simp only [List.mem_cons, List.not_mem_nil, or_false] at hm
      rcases hm with rfl | rfl | rfl | rfl | rfl | rfl | rfl
      · exact ⟨0, rfl, by decide⟩
      · exact ⟨1, rfl, by decide⟩
      · exact ⟨2, rfl, by decide⟩
      · exact ⟨5, rfl, by decide⟩
      · exact ⟨20, rfl, by decide⟩
      · exact ⟨99, rfl, by decide⟩
      · exact ⟨100, rfl, by decide⟩
    have b0 : But l H H1 := But.trans (But.of (same_upd np)) b1
    clear b1 hv src
    refine gName_k ?_
    dsimp only
    refine tSeq_k ?_
    refine tAsg_k ?_
    refine tIf_k (R := fun v H2 => ∃ ys : List Nat, v = .str (ws ys) ∧ 0 < ys.length ∧ ys.length ≤ 6 ∧ (∀ c ∈ ys, c < wd) ∧ But l H H2 ∧ Src H2 l (n + 2)) (fun key => ?_) (fun v H2 ⟨ys, ev, y0, y6, yw, b2, src2⟩ => ?_)
    · refine ⟨_, rfl, l, n + 1, 3, rfl, src1, by omega, by omega, by omega, fun d H2 d0 d1 b2 src2 => ?_⟩
      refine ⟨d, 0, rfl, rfl, _, rfl, ?_⟩
      refine ite2 (fun _ => ?_) (fun _ => ?_)
      · exact ⟨_, rfl, key _ H2 ⟨List.range wd, rfl, by rw [List.length_range]; omega, by rw [List.length_range]; omega, fun c hc => List.mem_range.mp hc, But.trans b0 b2, src2⟩⟩
      · refine ⟨_, rfl, 1, rfl, ws (List.range wd), rfl, by rw [ws_len, List.length_range]; show wd ≤ 16777216; omega, _, rfl, 1, rfl, -1, rfl, ws (List.range wd), rfl, by rw [ws_len, List.length_range]; show wd ≤ 16777216; omega, _, _, rfl, rfl, ?_, ?_⟩
        · rw [cut_1 w1 w6, cut_l w1 w6, ws_len, ws_len]
          show 1 + 1 ≤ 16777216
          decide
        · rw [cut_1 w1 w6, cut_l w1 w6, ws_two]
          exact key _ H2 ⟨[0, wd - 1], rfl, (by show 0 < 2; decide), (by show 2 ≤ 6; decide), fun c hc => by
            simp only [List.mem_cons, List.not_mem_nil, or_false] at hc
            omega, But.trans b0 b2, src2⟩
    · subst ev
      refine ⟨⟨_, rfl⟩, _, rfl, (many : Nat), rfl, by omega, by omega, fun D nD => ?_⟩
      have Dl := src2.ne nD
      refine lc_range (lo := 0) (n := many) (fun i Hc => (∀ b o, b ≠ l → b ≠ D → H2 b = some o → Hc b = some o) ∧ Src Hc l (n + 2 + i) ∧ ∃ acc : List Nat, Hc D = some (.lst (acc.map fun c => V.str (ws [c]))) ∧ acc.length = i ∧ ∀ c ∈ acc, c < wd)
        ⟨fun b o _ nb e => by rw [upd_ne nb]; exact e, src2.upd Dl, [], upd_same, rfl, fun z hz => by cases hz⟩ (fun i Hc hi ⟨bc, sc, acc, hD, la, oa⟩ => ?_) (fun Hc ⟨bc, sc, acc, hD, la, oa⟩ => ?_)
      · refine ⟨rfl, yesT ?_⟩
        refine ⟨_, rfl, _, rfl, l, n + 2 + i, sc, by omega, .inr ⟨ys, rfl, y0, by omega, fun kk c H' hc b' src' => ?_⟩⟩
        have hD' := b' _ _ Dl hD
        refine ⟨_, hD', by rw [List.length_map, la]; show i < 16777216; omega, fun b o nl nb e => ?_, src'.upd Dl, acc ++ [c], by rw [upd_same]; simp, by simp [la], fun z hz => ?_⟩
        · rw [upd_ne nb]
          exact b' _ _ nl (bc _ _ nl nb e)
        · rcases List.mem_append.mp hz with h | h
          · exact oa z h
          · rw [List.mem_singleton.mp h]
            exact yw c (List.mem_of_getElem? hc)
      · have bD : But l H Hc := fun b o nl e => bc _ _ nl (ne_of_none (b2 _ _ nl e) nD) (b2 _ _ nl e)
        refine ⟨_, D, acc.map fun c => ws [c], rfl, rfl, .inl (by rw [List.map_map]; exact SqL.of hD), ?_, ?_⟩
        · rw [List.map_map, List.length_map, la]
          have : ((acc.map ((fun z : Str => z.length) ∘ fun c => ws [c])).sum) = acc.length := by
            clear oa la hD
            induction acc with
            | nil => rfl
            | cons c r ih => rw [List.map_cons, List.sum_cons, ih, List.length_cons]; show 1 + _ = _; omega
          show (acc.map _).sum + many * 0 ≤ _
          rw [this]
          omega
        · rw [join_ws]
          exact k acc Hc bD oa (by omega) (sc.up (by omega))
end
end K14

set_option Elab.async false
set_option linter.all false
set_option maxRecDepth 100000
set_option maxHeartbeats 8000000
namespace K14
open PySem PySem.Spec PyProof.Rows L2 Lf
/-- a method of Monoid -/
structure DefM (P : Program) (w : World) (K : PySem.W.Frag) (mg : Str → Option Value) (base : Heap) (CX : CXT) (k : Nat) (m : Str) (ps : List Str) (sp : Sp) : Prop where
  ex : ∃ f fd, Meth K (He.ga K "Monoid") m f ∧ FnOk P w K mg base CX k f fd ps sp ∧ Binds K fd ps []
def spSize (K : PySem.W.Frag) : Sp := fun vs H Q _ => ∃ p rows m, vs = [.ref p] ∧ Mo K H p rows m ∧ Q (.int (rows.length : Nat)) H
theorem flat_rep {n : Nat} : (List.replicate n [V.int 0]).flatten = (List.replicate n 0).map nv := by
  induction n with
  | zero => rfl
  | succ n ih => rw [List.replicate_succ, List.replicate_succ, List.flatten_cons, ih]; rfl
/-- o[i], i from the front -/
def rGetN (K : PySem.W.Frag) : V → V → Hp → VK → Prop := fun o i H Q => ∃ (p : Addr) (xs : List V) (j : Nat) (v : V), o = .ref p ∧ i = .int (j : Nat) ∧ SqL K H p xs ∧ xs[j]? = some v ∧ Q v H
theorem get_listN {X : Cx} : PGet X (rGetN X.K) := by
  intro pins s σ H o i ov iv Q I ro ri h
  obtain ⟨p, xs, j, v, rfl, rfl, hq, hv, q⟩ := h
  cases ro
  obtain ⟨t, rfl⟩ := ri
  obtain ⟨its, r, pl, hz⟩ := I.list hq
  obtain ⟨w, ew, rw'⟩ := r.get hv
  have lj := (List.getElem?_eq_some_iff.mp hv).1
  have z : sizeLine = 16777216 := sizeLine_eq
  exact wpAny_getItem_list pl.isList (by omega) (by omega) (by rw [show ((j : Nat) : Int).toNat = j by omega]; simpa using ew) ⟨v, H, I, rw', q⟩
theorem bump_nv {f : List Nat} {t many : Nat} : (f.map nv).set t (.int ((f.getD t 0 : Nat) + (many : Nat) : Int)) = (Mon.bump f t many).map nv := by
  unfold Mon.bump
  rw [List.map_set]
  rfl
theorem ixn {n j : Nat} (h : j < n) : ixN n (j : Nat) = some j := by
  unfold ixN
  rw [if_pos (by omega), if_pos (by omega)]
  rfl
theorem stepF_app {r2 : List (List Nat)} {c2 : List Nat} : ∀ {r1 : List (List Nat)} {c1 f : List Nat}, r1.length = c1.length → Mon.stepF f (r1 ++ r2) (c1 ++ c2) = Mon.stepF (Mon.stepF f r1 c1) r2 c2
  | [], [], f, _ => rfl
  | [], _ :: _, _, h => by simp at h
  | _ :: _, [], _, h => by simp at h
  | r :: r1, c :: c1, f, h => by
    show Mon.stepF (Mon.rowBump f r c) (r1 ++ r2) (c1 ++ c2) = Mon.stepF (Mon.stepF (Mon.rowBump f r c) r1 c1) r2 c2
    exact stepF_app (by simpa using h)
theorem stepF_snoc {rows : List (List Nat)} {cs f : List Nat} {j c : Nat} {row : List Nat} (h1 : rows[j]? = some row) (h2 : cs[j]? = some c) : Mon.stepF f (rows.take (j + 1)) (cs.take (j + 1)) = Mon.rowBump (Mon.stepF f (rows.take j) (cs.take j)) row c := by
  rw [take_snoc h1, take_snoc h2, stepF_app (by rw [List.length_take, List.length_take]; have := get_lt h1; have := get_lt h2; omega)]
  rfl
theorem rowBump_snoc {f row : List Nat} {c k t : Nat} (h : row[k]? = some t) : Mon.rowBump f (row.take (k + 1)) c = Mon.bump (Mon.rowBump f (row.take k) c) t c := by
  rw [take_snoc h]
  unfold Mon.rowBump
  rw [List.foldl_append]
  rfl
theorem dp_pos {rows : List (List Nat)} : ∀ {t : Nat}, (Mon.dp rows t).length = rows.length := fun {t} => Mon.dp_len
section
variable {P : Program} {w : World} {K : PySem.W.Frag} {mg : Str → Option Value} {base : Heap}
theorem scSize : FnScope ["self"] ["self"] (defScope s_Monoid_size) := ⟨rfl, rfl, rfl, by decide +kernel, rfl, by decide +kernel, by decide +kernel⟩
theorem ok_size {f : Addr} {fd : FuncData} {q : Str} (F : FunD K "size" q (defArgs s_Monoid_size) (defBody s_Monoid_size) (defScope s_Monoid_size) [] [] f fd) (T : Txt P w K mg base) :
    FnOk P w K mg base CX0 1 f fd ["self"] (spSize K) := by
  have cl : L2.Cls K (He.ga K "Monoid") := He.cls_ok (T.d.fact 46 (f := .cls "Monoid") rfl)
  have n1 : NoAttr K (He.ga K "Monoid") "right" := He.noat_ok (T.d.fact 58 (f := .noat "Monoid" "right") rfl)
  have zn : mg "len" = none := T.fr 39 "len" rfl
  refine F.ok scSize (fun vs H Q E h => ?_) (fun cdv A outer s H vs Q E hr h => ?_)
  · obtain ⟨p, rows, m, rfl, _⟩ := h
    rfl
  · obtain ⟨p, rows, m, rfl, M, k⟩ := h
    obtain ⟨dx, t, u, v, hp, R, _, _⟩ := M.ex
    obtain ⟨as, sr, la, _⟩ := R.ex
    refine ⟨_, PSs.nox (pss_one (ps_ret (pe_callB call_len_seq rfl zn boot_len (pa_cons (pe_fld (pv 0) rfl) pa_nil)))), ?_⟩
    refine ⟨_, rfl, p, _, dx, _, _, rfl, hp, cl, n1, rfl, t, as.map V.ref, rfl, .inr sr, ?_⟩
    rw [List.length_map, la]
    exact k
end
end K14

set_option Elab.async false
set_option linter.all false
set_option maxRecDepth 100000
set_option maxHeartbeats 8000000
namespace K14
open PySem PySem.Spec PyProof.Rows L2 Lf
def spLettersOf (K : PySem.W.Frag) : Sp := fun vs H Q _ => ∃ u m n, vs = [.ref u, .int (n : Nat)] ∧ MadeT K H u m ∧ (∀ (k : Nat) p, m[k]? = some p → p.1 < k + 1) ∧ n < m.length + 1 ∧ m.length ≤ 2000 ∧
  ∀ l H', Same H H' → H l = none → H' l = some (.lst (((Mon.wordTab m).getD n []).map nv)) → Q (.ref l) H'
def spEnd (K : PySem.W.Frag) : Sp := fun vs H Q _ => ∃ r l rows wd s w, vs = [.ref r, .int (s : Nat), .ref l] ∧ RowsT K H r rows ∧ Form rows wd ∧ s < rows.length ∧ SqL K H l (w.map nv) ∧ (∀ c ∈ w, c < wd) ∧ Q (.int (Mon.walk rows s w : Nat)) H
section
variable {P : Program} {w : World} {K : PySem.W.Frag} {mg : Str → Option Value} {base : Heap}
theorem scEnd : FnScope ["right", "start", "letters", "number", "letter"] ["right", "start", "letters"] (defScope s_end) := ⟨rfl, rfl, rfl, by decide +kernel, rfl, by decide +kernel, by decide +kernel⟩
theorem ok_end {f : Addr} {fd : FuncData} {q : Str} (F : FunD K "_end" q (defArgs s_end) (defBody s_end) (defScope s_end) [] [] f fd) : FnOk P w K mg base CX0 1 f fd ["right", "start", "letters"] (spEnd K) := by
  refine F.ok scEnd (fun vs H Q E h => ?_) (fun cdv A outer s H vs Q E hr h => ?_)
  · obtain ⟨r, l, rows, wd, s0, wl, rfl, _⟩ := h
    rfl
  · obtain ⟨r, l, rows, wd, s0, wl, rfl, R, FO, hs, sl, hw, k⟩ := h
    obtain ⟨as, sr, la, srow⟩ := R.ex
    obtain ⟨f1, f2, f3, f4, f5⟩ := FO
    refine ⟨_, PSs.nox (pss_cons (ps_set (i := 3) scEnd.nd rfl (.inl rfl) (pv 1))
      (pss_cons (ps_for PassesOwn.never rfl (pi_list (pv 2)) (pg_name (i := 4) scEnd.nd rfl (.inl rfl))
        (pss_one (ps_set (i := 3) scEnd.nd rfl (.inl rfl) (pe_ix ix_tup (pe_ix ix_tup (pv 0) (pv 3) (fun _ _ => rfl)) (pv 4) (fun _ _ => rfl)))))
      (pss_one (ps_ret (pv 3))))), ?_⟩
    refine ⟨_, rfl, _, rfl, l, rfl, ⟨_, sl⟩, for_list (K := K) (a := l) (xs := wl.map nv) (fun i σ Hn => ∃ v4 : Option V, σ = [some (.ref r), some (.int (s0 : Nat)), some (.ref l), some (.int (Mon.walk rows s0 (wl.take i) : Nat)), v4] ∧ Hn = H ∧ Mon.walk rows s0 (wl.take i) < rows.length)
      ⟨none, rfl, rfl, hs⟩ (fun i σ Hn _ ⟨_, _, e, _⟩ => by rw [e]; exact sl) (fun i x σ Hn hx ⟨v4, eσ, eH, lt⟩ => ?_) (fun σ Hn ⟨v4, eσ, eH, lt⟩ => ?_)⟩
    · subst eσ eH
      obtain ⟨c, hc, rfl⟩ := map_get hx
      have cw := hw c (List.mem_of_getElem? hc)
      have e : Mon.walk rows s0 (wl.take (i + 1)) = (rows.getD (Mon.walk rows s0 (wl.take i)) []).getD c 0 := by
        rw [take_snoc hc, Mon.walk_app]
        rfl
      rw [e]
      generalize Mon.walk rows s0 (wl.take i) = s1 at lt ⊢
      obtain ⟨a, ha⟩ := lt_get (show s1 < as.length by omega)
      obtain ⟨row, hrow⟩ := lt_get lt
      obtain ⟨l1, l2⟩ := f5 row (List.mem_of_getElem? hrow)
      obtain ⟨t, ht⟩ := lt_get (show c < row.length by omega)
      rw [Mon.getD_of hrow, Mon.getD_of ht]
      refine ⟨_, rfl, _, rfl, r, as.map V.ref, _, .ref a, rfl, rfl, sr, atI_nat (get_map ha), _, rfl, a, row.map nv, _, nv t, rfl, rfl, srow s1 a row ha hrow, atI_nat (get_map ht), _, rfl, rfl, l2 t (List.mem_of_getElem? ht)⟩
    · subst eσ eH
      rw [List.length_map, List.take_length]
      exact ⟨_, rfl, k⟩
theorem scLet : FnScope ["made", "number", "letters", "letter"] ["made", "number"] (defScope s_letters_of) := ⟨rfl, rfl, rfl, by decide +kernel, rfl, by decide +kernel, by decide +kernel⟩
theorem ok_letters {f : Addr} {fd : FuncData} {q : Str} (F : FunD K "_letters_of" q (defArgs s_letters_of) (defBody s_letters_of) (defScope s_letters_of) [] [] f fd) : FnOk P w K mg base CX0 1 f fd ["made", "number"] (spLettersOf K) := by
  refine F.ok scLet (fun vs H Q E h => ?_) (fun cdv A outer s H vs Q E hr h => ?_)
  · obtain ⟨u, m, n, rfl, _⟩ := h
    rfl
  · obtain ⟨u, m, n, rfl, MM, hlt, hn, m2, k⟩ := h
    obtain ⟨ps, sm, lp, sp⟩ := MM.ex
    refine ⟨_, PSs.nox (pss_cons (ps_set (i := 2) scLet.nd rfl (.inl rfl) (pe_lst pa_nil))
      (pss_cons (ps_while PassesOwn.never (pt_cmpR op_gt (pv 1) pe_int (nomark _))
        (pss_cons (ps_asg (pe_ix ix_tup (pv 0) (pv 1) (fun _ _ => rfl)) (pg_tup rfl (pgs_cons (pg_name (i := 1) scLet.nd rfl (.inl rfl)) (pgs_cons (pg_name (i := 3) scLet.nd rfl (.inl rfl)) pgs_nil))))
        (pss_one (ps_expr (pe_bm PySem.F.plainAttrs_list PySem.F.slot_list_append PySem.F.type_list_append mt_append (pv 2) (pa_cons (pv 3) pa_nil))))))
      (pss_one (ps_ret (pe_revL (pv 2)))))), ?_⟩
    refine ⟨(by show 0 ≤ sizeLine; decide), fun B nB => ?_⟩
    have s1 := same_upd (o := .lst []) nB
    have hB : L2.upd H B (.lst []) B = some (.lst (([] : List Nat).map nv)) := upd_same
    generalize L2.upd H B (.lst []) = H1 at s1 hB ⊢
    refine ⟨fun i σ Hn => ∃ (v3 : Option V) (acc : List Nat), σ = [some (.ref u), some (.int (i : Nat)), some (.ref B), v3] ∧ Same H Hn ∧ Hn B = some (.lst (acc.map nv)) ∧ i < m.length + 1 ∧ acc.length + i ≤ n ∧ (Mon.wordTab m).getD n [] = (Mon.wordTab m).getD i [] ++ acc.reverse,
      ⟨n, none, [], rfl, s1, hB, hn, by simp, by simp⟩, ?_⟩
    rintro i σ Hn ⟨v3, acc, rfl, sn, hBn, il, ln, ew⟩
    refine ⟨_, rfl, _, 0, rfl, rfl, _, rfl, ?_⟩
    by_cases i0 : i = 0
    · subst i0
      rw [show decide ((0 : Int) < ((0 : Nat) : Int)) = false by decide]
      refine ifF rfl ?_
      refine ⟨_, rfl, B, _, rfl, SqL.of hBn, fun l nl => ?_⟩
      have nl0 : H l = none := by
        cases e : H l with
        | none => rfl
        | some o => rw [sn _ _ e] at nl; cases nl
      refine k l _ (sn.trans (same_upd nl)) nl0 ?_
      rw [upd_same, ew, Mon.word_0, List.nil_append, List.map_reverse]
    · obtain ⟨j, rfl⟩ : ∃ j, i = j + 1 := ⟨i - 1, by omega⟩
      rw [show decide ((0 : Int) < ((j + 1 : Nat) : Int)) = true from decide_eq_true (by omega)]
      refine ifT rfl ?_
      obtain ⟨pr, hpr⟩ := lt_get (show j < m.length by omega)
      obtain ⟨pa, hpa⟩ := lt_get (show j < ps.length by omega)
      have b1 := hlt j pr hpr
      have hat : (V.non :: ps.map V.ref)[j + 1]? = some (.ref pa) := by
        rw [List.getElem?_cons_succ]
        exact get_map hpa
      refine ⟨fun σ' H' => ∃ i', i' < j + 1 ∧ ∃ (v3 : Option V) (acc : List Nat), σ' = [some (.ref u), some (.int (i' : Nat)), some (.ref B), v3] ∧ Same H H' ∧ H' B = some (.lst (acc.map nv)) ∧ i' < m.length + 1 ∧ acc.length + i' ≤ n ∧ (Mon.wordTab m).getD n [] = (Mon.wordTab m).getD i' [] ++ acc.reverse, fun σ' H' z => z, ?_⟩
      refine ⟨_, rfl, _, rfl, u, _, _, .ref pa, rfl, rfl, Lf.SqT.same sn sm, atI_nat hat, pa, _, rfl, Lf.SqT.same sn (sp j pa pr hpa hpr), rfl, _, _, rfl, _, _, rfl, rfl, ?_⟩
      refine ⟨_, rfl, .inl ⟨rfl, _, SqL.of hBn⟩, _, rfl, B, _, _, rfl, rfl, hBn, by rw [List.length_map]; show acc.length < 16777216; omega, pr.1, b1, _, acc ++ [pr.2], rfl, fun b o e => ?_, by rw [upd_same, List.map_append]; rfl, by omega, by rw [List.length_append, List.length_singleton]; omega, ?_⟩
      · rw [upd_ne (ne_of_none e nB)]
        exact sn b o e
      · rw [ew, Mon.word_at hlt hpr, List.reverse_append, List.append_assoc]
        rfl
end
end K14

set_option Elab.async false
set_option linter.all false
set_option maxRecDepth 100000
set_option maxHeartbeats 8000000
namespace K14
open PySem PySem.Spec PyProof.Rows L2 Lf
def spCkN (K : PySem.W.Frag) : Sp := fun vs H Q _ => ∃ p rows m n, vs = [.ref p, .int (n : Nat)] ∧ Mo K H p rows m ∧ n < rows.length ∧ Q .non H
def spLeftM (K : PySem.W.Frag) : Sp := fun vs H Q _ => ∃ p rows m, vs = [.ref p] ∧ Mo K H p rows m ∧ ∀ v, RowsT K H v (Mon.leftTab rows m) → Q (.ref v) H
def spTimes (K : PySem.W.Frag) : Sp := fun vs H Q _ => ∃ p rows m wd i j, vs = [.ref p, .int (i : Nat), .int (j : Nat)] ∧ Mo K H p rows m ∧ Form rows wd ∧ Mon.madeTab 0 rows [] = some m ∧ m.length + 1 = rows.length ∧ i < rows.length ∧ j < rows.length ∧
  ∀ H', Same H H' → Q (.int (Mon.walk rows i ((Mon.wordTab m).getD j []) : Nat)) H'
theorem word_lettersF {wd : Nat} : ∀ (m : List (Nat × Nat)) (L : List (List Nat)), (∀ p ∈ m, p.2 < wd) → (∀ w ∈ L, ∀ c ∈ w, c < wd) → ∀ w ∈ m.foldl Mon.wordStep L, ∀ c ∈ w, c < wd
  | [], L, _, h, w, hw => h w hw
  | p :: r, L, hm, h, w, hw => by
    refine word_lettersF r (Mon.wordStep L p) (fun q hq => hm q (List.mem_cons_of_mem _ hq)) (fun u hu c hc => ?_) w hw
    unfold Mon.wordStep at hu
    rcases List.mem_append.mp hu with g | g
    · exact h u g c hc
    · rw [List.mem_singleton.mp g] at hc
      rcases List.mem_append.mp hc with hc | hc
      · cases e : L[p.1]? with
        | none => rw [List.getD, e] at hc; cases hc
        | some v => rw [List.getD, e] at hc; exact h v (List.mem_of_getElem? e) c hc
      · rw [List.mem_singleton.mp hc]
        exact hm p List.mem_cons_self
/-- the letters of words are letters -/
theorem word_letters {rows : List (List Nat)} {wd : Nat} {m : List (Nat × Nat)} (FO : Form rows wd) (hm : Mon.madeTab 0 rows [] = some m) (j : Nat) : ∀ c ∈ (Mon.wordTab m).getD j [], c < wd := fun c hc => by
  have all : ∀ p ∈ m, p.2 < wd := fun p hp => by
    obtain ⟨k, hk⟩ := List.getElem?_of_mem hp
    obtain ⟨_, row, b, c⟩ := Mon.madeTab_lt hm hk
    have := (FO.2.2.2.2 row (List.mem_of_getElem? b)).1
    have := get_lt c
    omega
  cases e : (Mon.wordTab m)[j]? with
  | none => rw [List.getD, e] at hc; cases hc
  | some w =>
    rw [Mon.getD_of e] at hc
    exact word_lettersF m [[]] all (fun u hu d hd => by rw [List.mem_singleton.mp hu] at hd; cases hd) w (List.mem_of_getElem? e) c hc
section
variable {P : Program} {w : World} {K : PySem.W.Frag} {mg : Str → Option Value} {base : Heap}
theorem scCkN : FnScope ["self", "number"] ["self", "number"] (defScope s_Monoid_check_number) := ⟨rfl, rfl, rfl, by decide +kernel, rfl, by decide +kernel, by decide +kernel⟩
theorem ok_ckn {f : Addr} {fd : FuncData} {q : Str} (F : FunD K "_check_number" q (defArgs s_Monoid_check_number) (defBody s_Monoid_check_number) (defScope s_Monoid_check_number) [] [] f fd) (T : Txt P w K mg base)
    (DB : Def P w K mg base CX0 2 "is_between" ["thing", "least", "most"] spBtw) (DZ : DefM P w K mg base CX0 1 "size" ["self"] (spSize K)) : FnOk P w K mg base CX0 3 f fd ["self", "number"] (spCkN K) := by
  have cl : L2.Cls K (He.ga K "Monoid") := He.cls_ok (T.d.fact 46 (f := .cls "Monoid") rfl)
  obtain ⟨fz, fdz, mz, Fz, bz⟩ := DZ.ex
  refine F.ok scCkN (fun vs H Q E h => ?_) (fun cdv A outer s H vs Q E hr h => ?_)
  · obtain ⟨p, rows, m, n, rfl, _⟩ := h
    rfl
  · obtain ⟨p, rows, m, n, rfl, M, hn, k⟩ := h
    have r1 : Room 1 _ := hr.mono (by decide)
    obtain ⟨dx, _, _, _, hp, _⟩ := id M.ex
    refine ⟨_, PSs.nox (pss_one (ps_if (pt_not (pt_val (pe_def DB hr pass0 rfl (pa_cons (pv 1) (pa_cons pe_int (pa_cons (pe_op op_sub (pe_meth0 (pv 0) cl mz Fz r1 bz .nil pass0) pe_int) pa_nil)))))) (pss_one ps_never) pss_nil)), ?_⟩
    refine ⟨_, rfl, _, rfl, p, dx, _, rfl, hp, rfl, p, rows, m, rfl, M, _, 1, rfl, rfl, .int (n : Nat), 0, (rows.length : Int) - 1, rfl, True.intro, _, rfl, ?_⟩
    rw [show btw 0 ((rows.length : Int) - 1) (.int (n : Nat)) = true from btw_nv hn]
    exact ifF rfl k
theorem scLeftM : FnScope ["self"] ["self"] (defScope s_Monoid_left) := ⟨rfl, rfl, rfl, by decide +kernel, rfl, by decide +kernel, by decide +kernel⟩
theorem ok_leftM {f : Addr} {fd : FuncData} {q : Str} (F : FunD K "left" q (defArgs s_Monoid_left) (defBody s_Monoid_left) (defScope s_Monoid_left) [] [] f fd) (T : Txt P w K mg base) : FnOk P w K mg base CX0 1 f fd ["self"] (spLeftM K) := by
  have cl : L2.Cls K (He.ga K "Monoid") := He.cls_ok (T.d.fact 46 (f := .cls "Monoid") rfl)
  have n3 : NoAttr K (He.ga K "Monoid") "_left" := He.noat_ok (T.d.fact 60 (f := .noat "Monoid" "_left") rfl)
  refine F.ok scLeftM (fun vs H Q E h => ?_) (fun cdv A outer s H vs Q E hr h => ?_)
  · obtain ⟨p, rows, m, rfl, _⟩ := h
    rfl
  · obtain ⟨p, rows, m, rfl, M, k⟩ := h
    obtain ⟨dx, t, u, v, hp, R, MM, LL⟩ := id M.ex
    refine ⟨_, PSs.nox (pss_one (ps_ret (pe_fld (pv 0) rfl))), ?_⟩
    exact ⟨_, rfl, p, _, dx, _, _, rfl, hp, cl, n3, rfl, k v LL⟩
theorem scTimes : FnScope ["self", "one", "other"] ["self", "one", "other"] (defScope s_Monoid_times) := ⟨rfl, rfl, rfl, by decide +kernel, rfl, by decide +kernel, by decide +kernel⟩
theorem ok_times {f : Addr} {fd : FuncData} {q : Str} (F : FunD K "times" q (defArgs s_Monoid_times) (defBody s_Monoid_times) (defScope s_Monoid_times) [] [] f fd) (T : Txt P w K mg base)
    (DN : DefM P w K mg base CX0 3 "_check_number" ["self", "number"] (spCkN K)) (DE : Def P w K mg base CX0 1 "_end" ["right", "start", "letters"] (spEnd K)) (DL : Def P w K mg base CX0 1 "_letters_of" ["made", "number"] (spLettersOf K)) :
    FnOk P w K mg base CX0 4 f fd ["self", "one", "other"] (spTimes K) := by
  have cl : L2.Cls K (He.ga K "Monoid") := He.cls_ok (T.d.fact 46 (f := .cls "Monoid") rfl)
  have n1 : NoAttr K (He.ga K "Monoid") "right" := He.noat_ok (T.d.fact 58 (f := .noat "Monoid" "right") rfl)
  have n2 : NoAttr K (He.ga K "Monoid") "_made" := He.noat_ok (T.d.fact 59 (f := .noat "Monoid" "_made") rfl)
  obtain ⟨fn', fdn, mn, Fn, bn⟩ := DN.ex
  refine F.ok scTimes (fun vs H Q E h => ?_) (fun cdv A outer s H vs Q E hr h => ?_)
  · obtain ⟨p, rows, m, wd, i, j, rfl, _⟩ := h
    rfl
  · obtain ⟨p, rows, m, wd, i, j, rfl, M, FO, hm, lm, hi, hj, k⟩ := h
    have r1 : Room 1 _ := hr.mono (by decide)
    obtain ⟨dx, t, u, v, hp, R, MM, _⟩ := id M.ex
    have n2000 := FO.2.1
    refine ⟨_, PSs.nox (pss_cons (ps_expr (pe_meth (pv 0) cl mn Fn hr bn .nil pass0 (pa_cons (pv 1) pa_nil)))
      (pss_cons (ps_expr (pe_meth (pv 0) cl mn Fn hr bn .nil pass0 (pa_cons (pv 2) pa_nil)))
      (pss_one (ps_ret (pe_def DE r1 pass0 rfl (pa_cons (pe_fld (pv 0) rfl) (pa_cons (pv 1) (pa_cons (pe_def DL r1 pass0 rfl (pa_cons (pe_fld (pv 0) rfl) (pa_cons (pv 2) pa_nil))) pa_nil)))))))), ?_⟩
    refine ⟨_, rfl, p, dx, _, rfl, hp, rfl, _, rfl, p, rows, m, i, rfl, M, hi, ?_⟩
    refine ⟨_, rfl, p, dx, _, rfl, hp, rfl, _, rfl, p, rows, m, j, rfl, M, hj, ?_⟩
    refine ⟨_, rfl, p, _, dx, _, _, rfl, hp, cl, n1, rfl, _, rfl, _, rfl, p, _, dx, _, _, rfl, hp, cl, n2, rfl, _, rfl, u, m, j, rfl, MM, fun k' p' h' => (Mon.madeTab_lt hm h').1, by omega, by omega, fun l H1 s1 _ hl => ?_⟩
    exact ⟨t, l, rows, wd, i, _, rfl, R.same s1, FO, hi, SqL.of hl, word_letters FO hm j, k H1 s1⟩
end
end K14

set_option Elab.async false
set_option linter.all false
set_option maxRecDepth 100000
set_option maxHeartbeats 8000000
namespace K14
open PySem PySem.Spec PyProof.Rows L2 Lf
def spWords (K : PySem.W.Frag) : Sp := fun vs H Q _ => ∃ p rows m wd, vs = [.ref p] ∧ Mo K H p rows m ∧ Form rows wd ∧ Mon.madeTab 0 rows [] = some m ∧ m.length ≤ 2000 ∧ ∀ l H', Same H H' → H l = none → H' l = some (.lst ((Mon.wordTab m).map wv)) → Q (.ref l) H'
theorem letter_of {c : Nat} (h : c < 6) : atI ("abcdef" : Str).cps.toList ((c : Nat) : Int) = some (97 + c) := by
  have : c = 0 ∨ c = 1 ∨ c = 2 ∨ c = 3 ∨ c = 4 ∨ c = 5 := by omega
  rcases this with rfl | rfl | rfl | rfl | rfl | rfl <;> decide +kernel
section
variable {P : Program} {w : World} {K : PySem.W.Frag} {mg : Str → Option Value} {base : Heap}
theorem scWords : FnScope ["self", "found", "before", "letter"] ["self"] (defScope s_Monoid_words) := ⟨rfl, rfl, rfl, by decide +kernel, rfl, by decide +kernel, by decide +kernel⟩
theorem ok_words {f : Addr} {fd : FuncData} {q : Str} (F : FunD K "words" q (defArgs s_Monoid_words) (defBody s_Monoid_words) (defScope s_Monoid_words) [] [] f fd) (T : Txt P w K mg base) :
    FnOk P w K mg base CX0 1 f fd ["self"] (spWords K) := by
  have cl : L2.Cls K (He.ga K "Monoid") := He.cls_ok (T.d.fact 46 (f := .cls "Monoid") rfl)
  have n2 : NoAttr K (He.ga K "Monoid") "_made" := He.noat_ok (T.d.fact 59 (f := .noat "Monoid" "_made") rfl)
  obtain ⟨tL, gL⟩ := T.st 30 "LETTERS" "abcdef" rfl
  refine F.ok scWords (fun vs H Q E h => ?_) (fun cdv A outer s H vs Q E hr h => ?_)
  · obtain ⟨p, rows, m, wd, rfl, _⟩ := h
    rfl
  · obtain ⟨p, rows, m, wd, rfl, M, FO, hm, m2, k⟩ := h
    refine ⟨_, PSs.nox (pss_cons (ps_set (i := 1) scWords.nd rfl (.inl rfl) (pe_lst (pa_cons pe_str pa_nil)))
      (pss_cons (ps_for PassesOwn.never rfl (pi_tup (pe_slice sl_tup (pe_fld (pv 0) rfl) (po_some pe_int) po_none)) (pg_tup rfl (pgs_cons (pg_name (i := 2) scWords.nd rfl (.inl rfl)) (pgs_cons (pg_name (i := 3) scWords.nd rfl (.inl rfl)) pgs_nil)))
        (pss_one (ps_expr (pe_bm PySem.F.plainAttrs_list PySem.F.slot_list_append PySem.F.type_list_append mt_append (pv 1) (pa_cons (pe_op op_add_str (pe_ix ix_list (pv 1) (pv 2) (fun _ _ => rfl)) (pe_ix ix_str (pe_gstr rfl gL) (pv 3) (fun _ _ => rfl))) pa_nil)))))
      (pss_one (ps_ret (pv 1))))), ?_⟩
    obtain ⟨dx, tr, u, v, hp, R, MM, _⟩ := id M.ex
    obtain ⟨ps, sm, lp, sp⟩ := MM.ex
    obtain ⟨f1, f2, f3, f4, f5⟩ := FO
    have hlt : ∀ (k : Nat) p, m[k]? = some p → p.1 < k + 1 ∧ p.2 < 6 := fun k p h => by
      obtain ⟨a, row, b, c⟩ := Mon.madeTab_lt hm h
      have := (f5 row (List.mem_of_getElem? b)).1
      have := get_lt c
      exact ⟨a, by omega⟩
    refine ⟨(by show 1 ≤ sizeLine; decide), fun B nB => ?_⟩
    have nB0 := nB
    have s1 := same_upd (o := .lst [V.str ("" : Str)]) nB
    have hB1 : L2.upd H B (.lst [V.str ("" : Str)]) B = some (.lst ((Mon.wordTab []).map wv)) := upd_same
    generalize L2.upd H B (.lst [V.str ("" : Str)]) = H1 at s1 hB1 ⊢
    refine ⟨_, rfl, p, _, dx, _, _, rfl, s1 _ _ hp, cl, n2, rfl, 1, rfl, u, _, rfl, Lf.SqT.same s1 sm, ?_, fun S nS => ⟨S, rfl, ⟨_, SqT.of upd_same⟩, ?_⟩⟩
    · rw [List.length_cons, sIx1]
      rintro ⟨z, _⟩
      exact absurd z (by decide)
    rw [cut1]
    have u2 := same_upd (o := .tup (ps.map V.ref)) nS
    have hS : L2.upd H1 S (.tup (ps.map V.ref)) S = some (.tup (ps.map V.ref)) := upd_same
    have s2 := s1.trans u2
    have hB2 := u2 _ _ hB1
    have nSB : S ≠ B := fun z => by rw [z, hB1] at nS; cases nS
    generalize L2.upd H1 S (.tup (ps.map V.ref)) = H2 at s2 hS hB2 ⊢
    clear u2 s1 hB1 nS
    refine for_tup (K := K) (a := S) (xs := ps.map V.ref) (fun i σ Hn => ∃ v2 v3 : Option V, σ = [some (.ref p), some (.ref B), v2, v3] ∧ Same H Hn ∧ Hn S = some (.tup (ps.map V.ref)) ∧ Hn B = some (.lst ((Mon.wordTab (m.take i)).map wv)))
      ⟨none, none, rfl, s2, hS, hB2⟩ (fun i σ Hn _ ⟨_, _, _, _, h, _⟩ => SqT.of h) (fun i x σ Hn hx ⟨v2, v3, eσ, sn, hSn, hBn⟩ => ?_) (fun σ Hn ⟨v2, v3, eσ, sn, hSn, hBn⟩ => ?_)
    · subst eσ
      obtain ⟨pa, hpa, rfl⟩ := map_get hx
      obtain ⟨pr, hpr⟩ := lt_get (show i < m.length by have := get_lt hpa; omega)
      have il := get_lt hpr
      have lk : (m.take i).length = i := by rw [List.length_take]; omega
      obtain ⟨b1, b2⟩ := hlt i pr hpr
      have lL : (Mon.wordTab (m.take i)).length = i + 1 := by rw [Mon.word_len, lk]
      obtain ⟨wp, hwp⟩ := lt_get (show pr.1 < (Mon.wordTab (m.take i)).length by omega)
      have lwp := word_short (List.mem_of_getElem? hwp)
      have eL : Mon.wordTab (m.take (i + 1)) = Mon.wordTab (m.take i) ++ [wp ++ [pr.2]] := by
        rw [take_snoc hpr, Mon.word_snoc, Mon.wordStep, Mon.getD_of hwp]
      rw [eL]
      generalize Mon.wordTab (m.take i) = L0 at hBn lL hwp lwp ⊢
      refine ⟨pa, _, rfl, Lf.SqT.same sn (sp i pa pr hpa hpr), rfl, _, _, rfl, _, _, rfl, rfl, ?_⟩
      refine ⟨_, rfl, .inl ⟨rfl, _, SqL.of hBn⟩, _, rfl, _, rfl, B, _, _, wv wp, rfl, rfl, SqL.of hBn, atI_nat (get_map hwp), _, rfl, ("abcdef" : Str), _, 97 + pr.2, rfl, rfl, by decide, letter_of b2, ws wp, ⟨#[97 + pr.2]⟩, rfl, rfl, (by rw [ws_len]; show wp.length + 1 ≤ 16777216; omega), B, _, _, rfl, rfl, hBn, by rw [List.length_map, lL]; show i + 1 < 16777216; omega, _, _, rfl, fun b o e => ?_, ?_, ?_⟩
      · rw [upd_ne (ne_of_none e nB0)]
        exact sn b o e
      · rw [upd_ne nSB]
        exact hSn
      · rw [upd_same, List.map_append, ws_app]
        rfl
    · subst eσ
      rw [List.length_map, lp, List.take_length] at hBn
      exact ⟨_, rfl, k B Hn sn nB0 hBn⟩
end
end K14

set_option Elab.async false
set_option linter.all false
set_option maxRecDepth 100000
set_option maxHeartbeats 8000000
namespace K14
open PySem PySem.Spec PyProof.Rows L2 Lf
def spPF (K : PySem.W.Frag) : Sp := fun vs H Q _ => ∃ r u rows m wd n, vs = [.ref r, .ref u, .int (n : Nat)] ∧ RowsT K H r rows ∧ MadeT K H u m ∧ Form rows wd ∧ Mon.madeTab 0 rows [] = some m ∧ m.length ≤ 2000 ∧ n < rows.length ∧
  ∀ l H', Same H H' → H l = none → H' l = some (.lst (((Mon.wordTab m).map (Mon.walk rows n)).map nv)) → Q (.ref l) H'
theorem walk_lt {rows : List (List Nat)} {wd : Nat} (FO : Form rows wd) : ∀ {x : List Nat} {s : Nat}, s < rows.length → (∀ c ∈ x, c < wd) → Mon.walk rows s x < rows.length
  | [], s, h, _ => h
  | c :: x, s, h, hx => by
    obtain ⟨row, hrow⟩ := lt_get h
    obtain ⟨l1, l2⟩ := FO.2.2.2.2 row (List.mem_of_getElem? hrow)
    obtain ⟨t, ht⟩ := lt_get (show c < row.length by rw [l1]; exact hx c List.mem_cons_self)
    show Mon.walk rows ((rows.getD s []).getD c 0) x < rows.length
    rw [Mon.getD_of hrow, Mon.getD_of ht]
    exact walk_lt FO (l2 t (List.mem_of_getElem? ht)) fun d hd => hx d (List.mem_cons_of_mem _ hd)
section
variable {P : Program} {w : World} {K : PySem.W.Frag} {mg : Str → Option Value} {base : Heap}
theorem scPF : FnScope ["right", "made", "number", "products", "before", "letter"] ["right", "made", "number"] (defScope s_products_from) := ⟨rfl, rfl, rfl, by decide +kernel, rfl, by decide +kernel, by decide +kernel⟩
theorem ok_pf {f : Addr} {fd : FuncData} {q : Str} (F : FunD K "_products_from" q (defArgs s_products_from) (defBody s_products_from) (defScope s_products_from) [] [] f fd) :
    FnOk P w K mg base CX0 1 f fd ["right", "made", "number"] (spPF K) := by
  refine F.ok scPF (fun vs H Q E h => ?_) (fun cdv A outer s H vs Q E hr h => ?_)
  · obtain ⟨r, u, rows, m, wd, n, rfl, _⟩ := h
    rfl
  · obtain ⟨r, u, rows, m, wd, n, rfl, R, MM, FO, hm, m2, hn, k⟩ := h
    refine ⟨_, PSs.nox (pss_cons (ps_set (i := 3) scPF.nd rfl (.inl rfl) (pe_lst (pa_cons (pv 2) pa_nil)))
      (pss_cons (ps_for PassesOwn.never rfl (pi_tup (pe_slice sl_tup (pv 1) (po_some pe_int) po_none)) (pg_tup rfl (pgs_cons (pg_name (i := 4) scPF.nd rfl (.inl rfl)) (pgs_cons (pg_name (i := 5) scPF.nd rfl (.inl rfl)) pgs_nil)))
        (pss_one (ps_expr (pe_bm PySem.F.plainAttrs_list PySem.F.slot_list_append PySem.F.type_list_append mt_append (pv 3) (pa_cons (pe_ix ix_tup (pe_ix ix_tup (pv 0) (pe_ix ix_list (pv 3) (pv 4) (fun _ _ => rfl)) (fun _ _ => rfl)) (pv 5) (fun _ _ => rfl)) pa_nil)))))
      (pss_one (ps_ret (pv 3))))), ?_⟩
    obtain ⟨as, sr, la, srow⟩ := R.ex
    obtain ⟨ps, sm, lp, sp⟩ := MM.ex
    have f5 := FO.2.2.2.2
    have hlt : ∀ (k : Nat) p, m[k]? = some p → p.1 < k + 1 ∧ p.2 < wd := fun k p h => by
      obtain ⟨a, row, b, c⟩ := Mon.madeTab_lt hm h
      have := (f5 row (List.mem_of_getElem? b)).1
      have := get_lt c
      exact ⟨a, by omega⟩
    have wl : ∀ (i : Nat) x, x ∈ Mon.wordTab (m.take i) → ∀ c ∈ x, c < wd := fun i x hx => word_lettersF (m.take i) [[]] (fun p hp => by
      obtain ⟨k', hk'⟩ := List.getElem?_of_mem (List.mem_of_mem_take hp)
      exact (hlt k' p hk').2) (fun u hu d hd => by rw [List.mem_singleton.mp hu] at hd; cases hd) x hx
    refine ⟨_, rfl, (by show 1 ≤ sizeLine; decide), fun B nB => ?_⟩
    have nB0 := nB
    have s1 := same_upd (o := .lst [V.int (n : Nat)]) nB
    have hB1 : L2.upd H B (.lst [V.int (n : Nat)]) B = some (.lst (((Mon.wordTab []).map (Mon.walk rows n)).map nv)) := upd_same
    generalize L2.upd H B (.lst [V.int (n : Nat)]) = H1 at s1 hB1 ⊢
    refine ⟨_, rfl, 1, rfl, u, _, rfl, Lf.SqT.same s1 sm, ?_, fun S nS => ⟨S, rfl, ⟨_, SqT.of upd_same⟩, ?_⟩⟩
    · rw [List.length_cons, sIx1]
      rintro ⟨z, _⟩
      exact absurd z (by decide)
    rw [cut1]
    have u2 := same_upd (o := .tup (ps.map V.ref)) nS
    have hS : L2.upd H1 S (.tup (ps.map V.ref)) S = some (.tup (ps.map V.ref)) := upd_same
    have s2 := s1.trans u2
    have hB2 := u2 _ _ hB1
    have nSB : S ≠ B := fun z => by rw [z, hB1] at nS; cases nS
    generalize L2.upd H1 S (.tup (ps.map V.ref)) = H2 at s2 hS hB2 ⊢
    clear u2 s1 hB1 nS
    refine for_tup (K := K) (a := S) (xs := ps.map V.ref) (fun i σ Hn => ∃ v2 v3 : Option V, σ = [some (.ref r), some (.ref u), some (.int (n : Nat)), some (.ref B), v2, v3] ∧ Same H Hn ∧ Hn S = some (.tup (ps.map V.ref)) ∧ Hn B = some (.lst (((Mon.wordTab (m.take i)).map (Mon.walk rows n)).map nv)))
      ⟨none, none, rfl, s2, hS, hB2⟩ (fun i σ Hn _ ⟨_, _, _, _, h, _⟩ => SqT.of h) (fun i x σ Hn hx ⟨v2, v3, eσ, sn, hSn, hBn⟩ => ?_) (fun σ Hn ⟨v2, v3, eσ, sn, hSn, hBn⟩ => ?_)
    · subst eσ
      obtain ⟨pa, hpa, rfl⟩ := map_get hx
      obtain ⟨pr, hpr⟩ := lt_get (show i < m.length by have := get_lt hpa; omega)
      have il := get_lt hpr
      have lk : (m.take i).length = i := by rw [List.length_take]; omega
      obtain ⟨b1, b2⟩ := hlt i pr hpr
      have lL : (Mon.wordTab (m.take i)).length = i + 1 := by rw [Mon.word_len, lk]
      obtain ⟨wp, hwp⟩ := lt_get (show pr.1 < (Mon.wordTab (m.take i)).length by omega)
      have w1 := walk_lt FO hn (wl i wp (List.mem_of_getElem? hwp))
      have eL : Mon.wordTab (m.take (i + 1)) = Mon.wordTab (m.take i) ++ [wp ++ [pr.2]] := by
        rw [take_snoc hpr, Mon.word_snoc, Mon.wordStep, Mon.getD_of hwp]
      rw [eL, List.map_append, List.map_cons, List.map_nil, Mon.walk_app]
      generalize Mon.wordTab (m.take i) = L0 at hBn lL hwp ⊢
      generalize hs1 : Mon.walk rows n wp = s1 at w1 ⊢
      have hB' : (L0.map (Mon.walk rows n))[pr.1]? = some s1 := by rw [List.getElem?_map, hwp, ← hs1]; rfl
      obtain ⟨a, ha⟩ := lt_get (show s1 < as.length by omega)
      obtain ⟨row, hrow⟩ := lt_get w1
      obtain ⟨t, ht⟩ := lt_get (show pr.2 < row.length by rw [(f5 row (List.mem_of_getElem? hrow)).1]; exact b2)
      have et : Mon.walk rows s1 [pr.2] = t := by
        show (rows.getD s1 []).getD pr.2 0 = t
        rw [Mon.getD_of hrow, Mon.getD_of ht]
      rw [et]
      refine ⟨pa, _, rfl, Lf.SqT.same sn (sp i pa pr hpa hpr), rfl, _, _, rfl, _, _, rfl, rfl, ?_⟩
      refine ⟨_, rfl, .inl ⟨rfl, _, SqL.of hBn⟩, _, rfl, _, rfl, _, rfl, B, _, _, nv s1, rfl, rfl, SqL.of hBn, atI_nat (get_map hB'), r, as.map V.ref, _, .ref a, rfl, rfl, Lf.SqT.same sn sr, atI_nat (get_map ha), _, rfl, a, row.map nv, _, nv t, rfl, rfl, Lf.SqT.same sn (srow s1 a row ha hrow), atI_nat (get_map ht), B, _, _, rfl, rfl, hBn, by rw [List.length_map, List.length_map, lL]; show i + 1 < 16777216; omega, _, _, rfl, fun b o e => ?_, ?_, ?_⟩
      · rw [upd_ne (ne_of_none e nB0)]
        exact sn b o e
      · rw [upd_ne nSB]
        exact hSn
      · rw [upd_same, List.map_append]
        rfl
    · subst eσ
      rw [List.length_map, lp, List.take_length] at hBn
      exact ⟨_, rfl, k B Hn sn nB0 hBn⟩
end
end K14

set_option Elab.async false
set_option linter.all false
set_option maxRecDepth 100000
set_option maxHeartbeats 2000000
/-! A dict that tells the place of a number. -/
namespace Lf
open PySem PySem.Spec PyProof.Rows L2
def ik (x : Nat) : Key := Sum.inl ((x : Nat) : Int)
theorem ik_inj {x y : Nat} (h : ik x = ik y) : x = y := by
  have : ((x : Nat) : Int) = (y : Nat) := Sum.inl.inj h
  omega
def idF : Nat → List Nat → List (Key × V)
  | _, [] => []
  | k, x :: r => (ik x, .int (k : Nat)) :: idF (k + 1) r
abbrev idT (f : List Nat) : List (Key × V) := idF 0 f
theorem idF_len : ∀ {f : List Nat} {k : Nat}, (idF k f).length = f.length
  | [], _ => rfl
  | x :: r, k => by rw [idF, List.length_cons, idF_len, List.length_cons]
theorem idF_snoc {x : Nat} : ∀ {f : List Nat} {k : Nat}, idF k (f ++ [x]) = idF k f ++ [(ik x, .int (k + f.length : Nat))]
  | [], k => rfl
  | y :: r, k => by
    rw [List.cons_append, idF, idF, idF_snoc, List.cons_append, List.length_cons, show k + 1 + r.length = k + (r.length + 1) by omega]
theorem idF_none {x : Nat} : ∀ {f : List Nat} {k : Nat}, x ∉ f → valV (idF k f) (ik x) = none
  | [], _, _ => rfl
  | y :: r, k, h => by
    have hy : ¬ ik y = ik x := fun z => h (by rw [ik_inj z]; exact List.mem_cons_self)
    rw [idF, valV_neg (p := (ik y, V.int (k : Nat))) hy]
    exact idF_none fun z => h (List.mem_cons_of_mem _ z)
theorem idF_some {x : Nat} : ∀ {f : List Nat} {k i : Nat}, f.Nodup → f[i]? = some x → valV (idF k f) (ik x) = some (.int (k + i : Nat))
  | [], _, _, _, h => by simp at h
  | y :: r, k, 0, _, h => by
    cases h
    rw [idF, valV_pos (p := (ik x, V.int (k : Nat))) rfl]
    rfl
  | y :: r, k, i + 1, nd, h => by
    have hm : r[i]? = some x := h
    obtain ⟨h1, h2⟩ := List.nodup_cons.mp nd
    have hy : ¬ ik y = ik x := fun z => h1 (by rw [ik_inj z]; exact List.mem_of_getElem? hm)
    rw [idF, valV_neg (p := (ik y, V.int (k : Nat))) hy, idF_some h2 hm, show k + 1 + i = k + (i + 1) by omega]
theorem idT_put {x : Nat} {f : List Nat} (h : x ∉ f) : putK (idT f) (ik x) (.int (f.length : Nat)) = idT (f ++ [x]) := by
  rw [putK_new _ (idF_none h), idT, idF_snoc, Nat.zero_add]
end Lf

set_option Elab.async false
set_option linter.all false
set_option maxRecDepth 100000
set_option maxHeartbeats 8000000
namespace K14
open PySem PySem.Spec PyProof.Rows L2 Lf
def spPowers (K : PySem.W.Frag) : Sp := fun vs H Q _ => ∃ r u rows m n gens found x f, vs = [.ref r, .ref u, .int (x : Nat)] ∧ RowsT K H r rows ∧ MadeT K H u m ∧ Form rows gens.length ∧ Mon.madeTab 0 rows [] = some m ∧ m.length + 1 = rows.length ∧ Mon.Tab n gens found rows ∧ 1 ≤ n ∧ n ≤ 4 ∧ found[x]? = some f ∧
  ∀ t l pl i H', Same H H' → H' t = some (.tup [.ref l, .int (i : Nat)]) → H' l = some (.lst (pl.map nv)) → Mon.Pows n found f pl i → Q (.ref t) H'
theorem at_last {xs : List V} {n : Nat} {v : V} (h : xs[n]? = some v) (l : xs.length = n + 1) : atI xs (-1) = some v := by
  have e := take_snoc h
  rw [List.take_of_length_le (by omega)] at e
  rw [e]
  exact atI_last _ _
section
variable {P : Program} {w : World} {K : PySem.W.Frag} {mg : Str → Option Value} {base : Heap}
theorem scPowers : FnScope ["right", "made", "number", "products", "powers", "places"] ["right", "made", "number"] (defScope s_powers) := ⟨rfl, rfl, rfl, by decide +kernel, rfl, by decide +kernel, by decide +kernel⟩
theorem ok_powers {f : Addr} {fd : FuncData} {q : Str} (F : FunD K "_powers" q (defArgs s_powers) (defBody s_powers) (defScope s_powers) [] [] f fd) (zn : mg "len" = none)
    (DP : Def P w K mg base CX0 1 "_products_from" ["right", "made", "number"] (spPF K)) :
    FnOk P w K mg base CX0 2 f fd ["right", "made", "number"] (spPowers K) := by
  refine F.ok scPowers (fun vs H Q E h => ?_) (fun cdv A outer s H vs Q E hr h => ?_)
  · obtain ⟨r, u, rows, m, n, gens, found, x, g, rfl, _⟩ := h
    rfl
  · obtain ⟨r, u, rows, m, n, gens, found, x, g, rfl, R, MM, FO, hm, lm, T, n1, n4, hx, k⟩ := h
    have hu : (A.deeper (envOfC q (defScope s_powers) s.heap.objs.size f cdv)).units + 1 < cLine := by have := hr.units; omega
    refine ⟨_, PSs.nox (pss_cons (ps_set (i := 3) scPowers.nd rfl (.inl rfl) (pe_def DP hr pass0 rfl (pa_cons (pv 0) (pa_cons (pv 1) (pa_cons (pv 2) pa_nil)))))
      (pss_cons (ps_set (i := 4) scPowers.nd rfl (.inl rfl) (pe_lst (pa_cons pe_int pa_nil)))
      (pss_cons (ps_set (i := 5) scPowers.nd rfl (.inl rfl) (pe_disp (pps_cons pe_int pe_int pps_nil) (by rfl) (by rfl) (fun z => by cases z) (by decide)))
      (pss_cons (ps_while PassesOwn.never (pt_cmp (pc_dnotin hu (pe_ix ix_list (pv 3) (pe_ix ix_list (pv 4) (pe_un un_neg pe_int) (fun _ _ => rfl)) (fun _ _ => rfl)) (pv 5)) (by rfl))
        (pss_cons (ps_expr (pe_bm PySem.F.plainAttrs_list PySem.F.slot_list_append PySem.F.type_list_append mt_append (pv 4) (pa_cons (pe_ix ix_list (pv 3) (pe_ix ix_list (pv 4) (pe_un un_neg pe_int) (fun _ _ => rfl)) (fun _ _ => rfl)) pa_nil)))
        (pss_one (ps_dput hu (pv 5) (pe_ix ix_list (pv 4) (pe_un un_neg pe_int) (fun _ _ => rfl)) (pe_callB call_lenD rfl zn boot_len (pa_cons (pv 5) pa_nil)) rfl))))
      (pss_one (ps_ret (pe_tup (pa_cons (pv 4) (pa_cons (pe_dget hu (pv 5) (pe_ix ix_list (pv 3) (pe_ix ix_list (pv 4) (pe_un un_neg pe_int) (fun _ _ => rfl)) (fun _ _ => rfl)) (fun _ _ => rfl)) pa_nil))))))))), ?_⟩
    have m2 : m.length ≤ 2000 := by have := FO.2.1; omega
    have xl : x < rows.length := by rw [T.len]; exact get_lt hx
    refine ⟨_, rfl, _, rfl, _, rfl, r, u, rows, m, gens.length, x, rfl, R, MM, FO, hm, m2, xl, fun l H1 s1 nl hl => ?_⟩
    have nd := T.nd
    refine ⟨(by show 1 ≤ sizeLine; decide), fun B nB => ?_⟩
    have s2 := s1.trans (same_upd (o := .lst [V.int 0]) nB)
    have hl2 := same_upd (o := .lst [V.int 0]) nB _ _ hl
    have hB2 : L2.upd H1 B (.lst [V.int 0]) B = some (.lst (([0] : List Nat).map nv)) := upd_same
    generalize L2.upd H1 B (.lst [V.int 0]) = H2 at s2 hl2 hB2 ⊢
    have nB0 : H B = none := nil_of s1 nB
    have nBl : B ≠ l := fun z => by rw [z, hl] at nB; cases nB
    clear nB
    intro D nD
    have nD0 : H D = none := nil_of s2 nD
    have nDB : D ≠ B := fun z => by rw [z, hB2] at nD; cases nD
    have nDl : D ≠ l := fun z => by rw [z, hl2] at nD; cases nD
    refine ⟨upd_same, [(ik 0, V.int 0)], rfl, by decide, ?_⟩
    rw [L2.upd_upd]
    have s3 := s2.trans (same_upd (o := .dK (mergeK [] [(ik 0, V.int 0)])) nD)
    have hl3 := same_upd (o := .dK (mergeK [] [(ik 0, V.int 0)])) nD _ _ hl2
    have hB3 := same_upd (o := .dK (mergeK [] [(ik 0, V.int 0)])) nD _ _ hB2
    have hD3 : L2.upd H2 D (.dK (mergeK [] [(ik 0, V.int 0)])) D = some (.dK (idT [0])) := upd_same
    generalize L2.upd H2 D (.dK (mergeK [] [(ik 0, V.int 0)])) = H3 at s3 hl3 hB3 hD3 ⊢
    clear s1 s2 hl hl2 hB2 nD
    refine ⟨fun i σ Hn => ∃ pl : List Nat, σ = [some (.ref r), some (.ref u), some (.int (x : Nat)), some (.ref l), some (.ref B), some (.ref D)] ∧ Same H Hn ∧ Hn l = some (.lst (((Mon.wordTab m).map (Mon.walk rows x)).map nv)) ∧ Hn B = some (.lst (pl.map nv)) ∧ Hn D = some (.dK (idT pl)) ∧ Mon.PI n found g pl ∧ pl ≠ [] ∧ i + pl.length = 16,
      ⟨15, [0], rfl, s3, hl3, hB3, hD3, Mon.PI.zero T, (by decide), rfl⟩, ?_⟩
    rintro i σ Hn ⟨pl, rfl, sn, hln, hBn, hDn, pi, pne, im⟩
    obtain ⟨c, hc⟩ : ∃ c, pl.length = c + 1 := ⟨pl.length - 1, by have := List.length_pos_iff.mpr pne; omega⟩
    obtain ⟨lst, hlst⟩ := lt_get (show c < pl.length by omega)
    have fl := pi.at' c lst hlst
    have ll := get_lt fl
    have vg := T.vf hx
    have pr := T.prodW hm lm hx fl (word_letters FO hm lst)
    rw [Mon.pw_comm vg, show c + 1 = pl.length from hc.symm] at pr
    obtain ⟨wl, hwl⟩ := lt_get (show lst < (Mon.wordTab m).length by rw [Mon.word_len, lm, T.len]; exact ll)
    rw [Mon.getD_of hwl] at pr
    generalize ht : Mon.walk rows x wl = t at pr
    have hat : (((Mon.wordTab m).map (Mon.walk rows x)).map nv)[lst]? = some (nv t) := get_map (by rw [List.getElem?_map, hwl, ← ht]; rfl)
    have hla : atI (pl.map nv) (-1) = some (nv lst) := at_last (get_map hlst) (by rw [List.length_map, hc])
    refine ⟨_, rfl, _, rfl, 1, rfl, B, _, _, nv lst, rfl, rfl, SqL.of hBn, hla, l, _, _, nv t, rfl, rfl, SqL.of hln, atI_nat hat, _, rfl, D, valV (idT pl) (ik t), rfl, DGet.k (k := ik t) hDn, ?_⟩
    by_cases hr' : t ∈ pl
    · obtain ⟨i', hi'⟩ := List.getElem?_of_mem hr'
      have ev := idF_some (k := 0) pi.nd hi'
      rw [ev]
      refine ⟨_, rfl, ifF rfl ?_⟩
      refine ⟨_, rfl, _, rfl, _, rfl, _, rfl, 1, rfl, B, _, _, nv lst, rfl, rfl, SqL.of hBn, hla, l, _, _, nv t, rfl, rfl, SqL.of hln, atI_nat hat, D, _, rfl, (by have z := DGet.k (k := ik t) hDn; rw [ev] at z; exact z), ?_⟩
      refine ⟨(by show 2 ≤ sizeLine; decide), fun TT nTT => ?_⟩
      rw [Nat.zero_add]
      have u := same_upd (o := .tup [.ref B, .int (i' : Nat)]) nTT
      exact k TT B pl i' _ (sn.trans u) upd_same (u _ _ hBn) (pi.done pr hi')
    · have ev := idF_none (k := 0) hr'
      rw [ev]
      refine ⟨_, rfl, ifT rfl ?_⟩
      have pi' := pi.more nd pr hr'
      have l15 := Mon.inj_le vg n1 n4 pi'.inj
      rw [List.length_append, List.length_singleton] at l15
      refine ⟨fun σ' H' => ∃ i', i' < i ∧ ∃ pl : List Nat, σ' = [some (.ref r), some (.ref u), some (.int (x : Nat)), some (.ref l), some (.ref B), some (.ref D)] ∧ Same H H' ∧ H' l = some (.lst (((Mon.wordTab m).map (Mon.walk rows x)).map nv)) ∧ H' B = some (.lst (pl.map nv)) ∧ H' D = some (.dK (idT pl)) ∧ Mon.PI n found g pl ∧ pl ≠ [] ∧ i' + pl.length = 16, fun σ' H' z => z, ?_⟩
      refine ⟨_, rfl, .inl ⟨rfl, _, SqL.of hBn⟩, _, rfl, _, rfl, 1, rfl, B, _, _, nv lst, rfl, rfl, SqL.of hBn, hla, l, _, _, nv t, rfl, rfl, SqL.of hln, atI_nat hat, B, _, _, rfl, rfl, hBn, by rw [List.length_map]; show pl.length < 16777216; omega, ?_⟩
      have e1 : pl.map nv ++ [nv t] = (pl ++ [t]).map nv := by rw [List.map_append]; rfl
      rw [e1]
      have hB5 : L2.upd Hn B (.lst ((pl ++ [t]).map nv)) B = some (.lst ((pl ++ [t]).map nv)) := upd_same
      have hl5 : L2.upd Hn B (.lst ((pl ++ [t]).map nv)) l = some (.lst (((Mon.wordTab m).map (Mon.walk rows x)).map nv)) := by rw [upd_ne nBl.symm]; exact hln
      have hD5 : L2.upd Hn B (.lst ((pl ++ [t]).map nv)) D = some (.dK (idT pl)) := by rw [upd_ne nDB]; exact hDn
      have s5 : Same H (L2.upd Hn B (.lst ((pl ++ [t]).map nv))) := fun b o e => by
        rw [upd_ne (ne_of_none e nB0)]
        exact sn b o e
      generalize L2.upd Hn B (.lst ((pl ++ [t]).map nv)) = H5 at s5 hl5 hB5 hD5 ⊢
      have hla5 : atI ((pl ++ [t]).map nv) (-1) = some (nv t) := at_last (n := pl.length) (get_map (by rw [List.getElem?_append_right (Nat.le_refl _), Nat.sub_self]; rfl)) (by rw [List.length_map, List.length_append]; rfl)
      refine ⟨_, rfl, D, _, rfl, hD5, ?_⟩
      refine ⟨_, rfl, _, rfl, 1, rfl, B, _, _, nv t, rfl, rfl, SqL.of hB5, hla5, D, _, rfl, DPut.k (k := ik t) hD5 (by rw [idF_len]; show pl.length < 16777216; omega), ?_⟩
      rw [idF_len, idT_put hr']
      refine ⟨i - 1, by omega, pl ++ [t], rfl, fun b o e => ?_, ?_, ?_, upd_same, pi', by simp, by rw [List.length_append, List.length_singleton]; omega⟩
      · rw [upd_ne (ne_of_none e nD0)]
        exact s5 b o e
      · rw [upd_ne nDl.symm]
        exact hl5
      · rw [upd_ne nDB.symm]
        exact hB5
end
end K14

set_option Elab.async false
set_option linter.all false
set_option maxRecDepth 100000
set_option maxHeartbeats 8000000
namespace K14
open PySem PySem.Spec PyProof.Rows L2 Lf
/-- the monoid of all products of maps -/
structure MM (K : PySem.W.Frag) (H : Hp) (p : Addr) (rows : List (List Nat)) (m : List (Nat × Nat)) (n : Nat) (gens found : List (List Nat)) : Prop where
  mo : Mo K H p rows m
  form : Form rows gens.length
  made : Mon.madeTab 0 rows [] = some m
  len : m.length + 1 = rows.length
  tab : Mon.Tab n gens found rows
  n1 : 1 ≤ n
  n4 : n ≤ 4
theorem MM.same {K : PySem.W.Frag} {H H' : Hp} {p : Addr} {rows : List (List Nat)} {m : List (Nat × Nat)} {n : Nat} {gens found : List (List Nat)} (h : MM K H p rows m n gens found) (e : Same H H') : MM K H' p rows m n gens found :=
  ⟨h.mo.same e, h.form, h.made, h.len, h.tab, h.n1, h.n4⟩
/-- which power count is -/
def pAt (L i c : Nat) : Nat := if c < L then c else i + (c - i) % (L - i)
theorem pAt_lt {L i c : Nat} (h : i < L) : pAt L i c < L := by
  unfold pAt
  split
  · assumption
  · have := Nat.mod_lt (c - i) (show 0 < L - i by omega)
    omega
def spPower (K : PySem.W.Frag) : Sp := fun vs H Q _ => ∃ p rows m n gens found x f c, vs = [.ref p, .int (x : Nat), .int (c : Nat)] ∧ MM K H p rows m n gens found ∧ found[x]? = some f ∧ c ≤ 1000000000000000000000000000000 ∧
  ∀ r L i H', Same H H' → Mon.Cyc n f L i → found[r]? = some (Mon.pw n f (pAt L i c)) → Q (.int (r : Nat)) H'
def spCycle (K : PySem.W.Frag) : Sp := fun vs H Q _ => ∃ p rows m n gens found x f, vs = [.ref p, .int (x : Nat)] ∧ MM K H p rows m n gens found ∧ found[x]? = some f ∧
  ∀ t L i H', Same H H' → Mon.Cyc n f L i → H' t = some (.tup [.int (i : Nat), .int ((L - i : Nat) : Nat)]) → Q (.ref t) H'
section
variable {P : Program} {w : World} {K : PySem.W.Frag} {mg : Str → Option Value} {base : Heap}
theorem scPower : FnScope ["self", "number", "count", "powers", "index"] ["self", "number", "count"] (defScope s_Monoid_power) := ⟨rfl, rfl, rfl, by decide +kernel, rfl, by decide +kernel, by decide +kernel⟩
theorem ok_power {f : Addr} {fd : FuncData} {q : Str} (F : FunD K "power" q (defArgs s_Monoid_power) (defBody s_Monoid_power) (defScope s_Monoid_power) [] [] f fd) (T : Txt P w K mg base)
    (DN : DefM P w K mg base CX0 3 "_check_number" ["self", "number"] (spCkN K)) (DB : Def P w K mg base CX0 2 "is_between" ["thing", "least", "most"] spBtw) (DP : Def P w K mg base CX0 2 "_powers" ["right", "made", "number"] (spPowers K)) :
    FnOk P w K mg base CX0 4 f fd ["self", "number", "count"] (spPower K) := by
  have cl : L2.Cls K (He.ga K "Monoid") := He.cls_ok (T.d.fact 46 (f := .cls "Monoid") rfl)
  have n1 : NoAttr K (He.ga K "Monoid") "right" := He.noat_ok (T.d.fact 58 (f := .noat "Monoid" "right") rfl)
  have n2 : NoAttr K (He.ga K "Monoid") "_made" := He.noat_ok (T.d.fact 59 (f := .noat "Monoid" "_made") rfl)
  have zn : mg "len" = none := T.fr 39 "len" rfl
  obtain ⟨tM, gM⟩ := T.it 76 "MOST_COUNT" 1000000000000000000000000000000 rfl
  obtain ⟨fn', fdn, mn, Fn, bn⟩ := DN.ex
  refine F.ok scPower (fun vs H Q E h => ?_) (fun cdv A outer s H vs Q E hr h => ?_)
  · obtain ⟨p, rows, m, n, gens, found, x, g, c, rfl, _⟩ := h
    rfl
  · obtain ⟨p, rows, m, n, gens, found, x, g, c, rfl, M, hx, hc, k⟩ := h
    have r2 : Room 2 _ := hr.mono (by decide)
    obtain ⟨dx, t, u, v, hp, R, MA, _⟩ := id M.mo.ex
    refine ⟨_, PSs.nox (pss_cons (ps_expr (pe_meth (pv 0) cl mn Fn hr bn .nil pass0 (pa_cons (pv 1) pa_nil)))
      (pss_cons (ps_if (pt_not (pt_val (pe_def DB r2 pass0 rfl (pa_cons (pv 2) (pa_cons pe_int (pa_cons (pe_gint rfl gM) pa_nil)))))) (pss_one ps_never) pss_nil)
      (pss_cons (ps_asg (pe_def DP r2 pass0 rfl (pa_cons (pe_fld (pv 0) rfl) (pa_cons (pe_fld (pv 0) rfl) (pa_cons (pv 1) pa_nil)))) (pg_tup rfl (pgs_cons (pg_name (i := 3) scPower.nd rfl (.inl rfl)) (pgs_cons (pg_name (i := 4) scPower.nd rfl (.inl rfl)) pgs_nil))))
      (pss_cons (ps_if (pt_cmpR op_ge (pv 2) (pe_callB call_len_seq rfl zn boot_len (pa_cons (pv 3) pa_nil)) (nomark _))
        (pss_one (ps_set (i := 2) scPower.nd rfl (.inl rfl) (pe_op op_add (pv 4) (pe_op op_mod (pe_op op_sub (pv 2) (pv 4)) (pe_op op_sub (pe_callB call_len_seq rfl zn boot_len (pa_cons (pv 3) pa_nil)) (pv 4)))))) pss_nil)
      (pss_one (ps_ret (pe_ix ix_list (pv 3) (pv 2) (fun _ _ => rfl)))))))), ?_⟩
    refine ⟨_, rfl, p, dx, _, rfl, hp, rfl, _, rfl, p, rows, m, x, rfl, M.mo, by rw [M.tab.len]; exact get_lt hx, ?_⟩
    refine ⟨_, rfl, .int (c : Nat), 0, _, rfl, True.intro, _, rfl, ?_⟩
    rw [show btw 0 1000000000000000000000000000000 (.int (c : Nat)) = true by
      show (decide ((0 : Int) ≤ (c : Nat)) && decide (((c : Nat) : Int) ≤ 1000000000000000000000000000000)) = true
      rw [decide_eq_true (by omega), decide_eq_true (by omega)]
      rfl]
    refine ifF rfl ?_
    refine ⟨_, rfl, p, _, dx, _, _, rfl, hp, cl, n1, rfl, _, rfl, p, _, dx, _, _, rfl, hp, cl, n2, rfl, _, rfl, t, u, rows, m, n, gens, found, x, g, rfl, R, MA, M.form, M.made, M.len, M.tab, M.n1, M.n4, hx, fun tt l pl i H1 s1 htt hl PW => ?_⟩
    refine ⟨tt, _, rfl, SqT.of htt, rfl, _, _, rfl, _, _, rfl, rfl, ?_⟩
    have il := PW.cyc.lt
    refine ⟨_, rfl, _, rfl, l, _, rfl, .inl (SqL.of hl), _, _, rfl, rfl, _, rfl, ?_⟩
    rw [List.length_map]
    have fin : ∀ j, j = pAt pl.length i c → ∃ r, pl[j]? = some r ∧ Q (.int (r : Nat)) H1 := fun j hj => by
      obtain ⟨r, hr'⟩ := lt_get (show j < pl.length by rw [hj]; exact pAt_lt il)
      exact ⟨r, hr', k r pl.length i H1 s1 PW.cyc (hj ▸ PW.at' j r hr')⟩
    refine ite2 (fun h0 => ?_) (fun h0 => ?_)
    · have h0 := of_decide_eq_true h0
      refine ⟨_, rfl, _, rfl, _, rfl, _, (i : Nat), rfl, rfl, _, rfl, l, _, rfl, .inl (SqL.of hl), _, rfl, ((pl.length : Nat) : Int), (i : Nat), congrArg (fun z : Nat => V.int ((z : Nat) : Int)) (List.length_map _), rfl, ((c : Nat) : Int) - (i : Nat), ((pl.length : Nat) : Int) - (i : Nat), rfl, rfl, (by show (0 : Int) < ((pl.length : Nat) : Int) - (i : Nat); omega), (i : Nat), _, rfl, rfl, ?_⟩
      obtain ⟨r, hr', kk⟩ := fin (i + (c - i) % (pl.length - i)) (by unfold pAt; rw [if_neg (by omega)])
      have e : ((i : Nat) : Int) + (((c : Nat) : Int) - (i : Nat)) % (((pl.length : Nat) : Int) - (i : Nat)) = ((i + (c - i) % (pl.length - i) : Nat) : Int) := by
        rw [show ((c : Nat) : Int) - (i : Nat) = ((c - i : Nat) : Int) by omega, show ((pl.length : Nat) : Int) - (i : Nat) = ((pl.length - i : Nat) : Int) by omega]
        omega
      rw [show (fun i j : Int => V.int (i + j)) ((i : Nat) : Int) ((((c : Nat) : Int) - (i : Nat)) % (((pl.length : Nat) : Int) - (i : Nat))) = V.int ((i + (c - i) % (pl.length - i) : Nat) : Int) from congrArg V.int e]
      exact ⟨_, rfl, _, rfl, l, _, _, _, rfl, rfl, SqL.of hl, atI_nat (get_map hr'), kk⟩
    · have h0 := of_decide_eq_false (Bool.eq_false_iff.mpr h0)
      obtain ⟨r, hr', kk⟩ := fin c (by unfold pAt; rw [if_pos (by omega)])
      exact ⟨_, rfl, _, rfl, l, _, _, _, rfl, rfl, SqL.of hl, atI_nat (get_map hr'), kk⟩
theorem scCycle : FnScope ["self", "number", "powers", "index"] ["self", "number"] (defScope s_Monoid_cycle) := ⟨rfl, rfl, rfl, by decide +kernel, rfl, by decide +kernel, by decide +kernel⟩
theorem ok_cycle {f : Addr} {fd : FuncData} {q : Str} (F : FunD K "cycle" q (defArgs s_Monoid_cycle) (defBody s_Monoid_cycle) (defScope s_Monoid_cycle) [] [] f fd) (T : Txt P w K mg base)
    (DN : DefM P w K mg base CX0 3 "_check_number" ["self", "number"] (spCkN K)) (DP : Def P w K mg base CX0 2 "_powers" ["right", "made", "number"] (spPowers K)) :
    FnOk P w K mg base CX0 4 f fd ["self", "number"] (spCycle K) := by
  have cl : L2.Cls K (He.ga K "Monoid") := He.cls_ok (T.d.fact 46 (f := .cls "Monoid") rfl)
  have n1 : NoAttr K (He.ga K "Monoid") "right" := He.noat_ok (T.d.fact 58 (f := .noat "Monoid" "right") rfl)
  have n2 : NoAttr K (He.ga K "Monoid") "_made" := He.noat_ok (T.d.fact 59 (f := .noat "Monoid" "_made") rfl)
  have zn : mg "len" = none := T.fr 39 "len" rfl
  obtain ⟨fn', fdn, mn, Fn, bn⟩ := DN.ex
  refine F.ok scCycle (fun vs H Q E h => ?_) (fun cdv A outer s H vs Q E hr h => ?_)
  · obtain ⟨p, rows, m, n, gens, found, x, g, rfl, _⟩ := h
    rfl
  · obtain ⟨p, rows, m, n, gens, found, x, g, rfl, M, hx, k⟩ := h
    have r2 : Room 2 _ := hr.mono (by decide)
    obtain ⟨dx, t, u, v, hp, R, MA, _⟩ := id M.mo.ex
    refine ⟨_, PSs.nox (pss_cons (ps_expr (pe_meth (pv 0) cl mn Fn hr bn .nil pass0 (pa_cons (pv 1) pa_nil)))
      (pss_cons (ps_asg (pe_def DP r2 pass0 rfl (pa_cons (pe_fld (pv 0) rfl) (pa_cons (pe_fld (pv 0) rfl) (pa_cons (pv 1) pa_nil)))) (pg_tup rfl (pgs_cons (pg_name (i := 2) scCycle.nd rfl (.inl rfl)) (pgs_cons (pg_name (i := 3) scCycle.nd rfl (.inl rfl)) pgs_nil))))
      (pss_one (ps_ret (pe_tup (pa_cons (pv 3) (pa_cons (pe_op op_sub (pe_callB call_len_seq rfl zn boot_len (pa_cons (pv 2) pa_nil)) (pv 3)) pa_nil))))))), ?_⟩
    refine ⟨_, rfl, p, dx, _, rfl, hp, rfl, _, rfl, p, rows, m, x, rfl, M.mo, by rw [M.tab.len]; exact get_lt hx, ?_⟩
    refine ⟨_, rfl, p, _, dx, _, _, rfl, hp, cl, n1, rfl, _, rfl, p, _, dx, _, _, rfl, hp, cl, n2, rfl, _, rfl, t, u, rows, m, n, gens, found, x, g, rfl, R, MA, M.form, M.made, M.len, M.tab, M.n1, M.n4, hx, fun tt l pl i H1 s1 htt hl PW => ?_⟩
    refine ⟨tt, _, rfl, SqT.of htt, rfl, _, _, rfl, _, _, rfl, rfl, ?_⟩
    have il := PW.cyc.lt
    refine ⟨_, rfl, _, rfl, l, _, rfl, .inl (SqL.of hl), _, rfl, ((pl.length : Nat) : Int), (i : Nat), congrArg (fun z : Nat => V.int ((z : Nat) : Int)) (List.length_map _), rfl, ?_⟩
    rw [show (fun i j : Int => V.int (i - j)) ((pl.length : Nat) : Int) ((i : Nat) : Int) = V.int ((pl.length - i : Nat) : Int) from congrArg V.int (show ((pl.length : Nat) : Int) - (i : Nat) = ((pl.length - i : Nat) : Int) by omega)]
    exact ⟨(by show 2 ≤ sizeLine; decide), fun z nz => k z pl.length i _ (s1.trans (same_upd nz)) PW.cyc upd_same⟩
end
end K14

set_option Elab.async false
set_option linter.all false
set_option maxRecDepth 100000
set_option maxHeartbeats 8000000
namespace K14
open PySem PySem.Spec PyProof.Rows L2 Lf
def spWord : Sp := fun vs H Q _ => ∃ (x : List Nat) (wd n : Nat), vs = [.str (ws x), .int (wd : Nat), .int (n : Nat)] ∧ (∀ c ∈ x, c < wd) ∧ wd ≤ 6 ∧ x.length ≤ n ∧ n ≤ 1000 ∧ ∀ H', Same H H' → Q (.bl true) H'
abbrev teIn : TE := tOp (fun x y H Q => ∃ (c : Nat) (z : Str), x = .str ⟨#[c]⟩ ∧ y = .str z ∧ Q (.bl (decide (c ∈ z.cps.toList))) H) (tVar 4) (tVar 3)
theorem known_in {c wd : Nat} (h : c < wd) (w6 : wd ≤ 6) : 97 + c ∈ (cutS ("abcdef" : Str) none (some ((wd : Nat) : Int))).cps.toList := by
  have : wd = 1 ∨ wd = 2 ∨ wd = 3 ∨ wd = 4 ∨ wd = 5 ∨ wd = 6 := by omega
  have g : ∀ wd : Nat, wd ≤ 6 → ∀ c, c < wd → 97 + c ∈ (cutS ("abcdef" : Str) none (some ((wd : Nat) : Int))).cps.toList := by decide +kernel
  exact g wd w6 c h
section
variable {P : Program} {w : World} {K : PySem.W.Frag} {mg : Str → Option Value} {base : Heap}
theorem scWord : FnScope ["thing", "letters", "most", "known", "letter"] ["thing", "letters", "most"] (defScope s_is_word) := ⟨rfl, rfl, rfl, by decide +kernel, rfl, by decide +kernel, by decide +kernel⟩
theorem ok_word {f : Addr} {fd : FuncData} {q : Str} {dv : List V} (F : FunD K "is_word" q (defArgs s_is_word) (defBody s_is_word) (defScope s_is_word) dv [] f fd) {t : Tok} (gL : mg "LETTERS" = some (.str ("abcdef" : Str) t)) (zI : mg "isinstance" = none) (zs : mg "str" = none) (zn : mg "len" = none) (za : mg "all" = none) :
    FnOk P w K mg base CX0 1 f fd ["thing", "letters", "most"] spWord := by
  refine F.ok scWord (fun vs H Q E h => ?_) (fun cdv A outer s H vs Q E hr h => ?_)
  · obtain ⟨x, wd, n, rfl, _⟩ := h
    rfl
  · obtain ⟨x, wd, n, rfl, hx, w6, ln, n1000, k⟩ := h
    refine ⟨_, PSs.nox (pss_cons (ps_if (PW.pt (pw_or (pt_not (pt_val (pe_callB call_isi rfl zI PyProof.Rows.boot_isinstance (pa_cons (pv 0) (pa_cons (pe_bltn (v := .ty "str") rfl zs PyProof.Rows.boot_str rfl) pa_nil))))) (pw_or1 (PW.pt (pw_and (pt_cmpR op_notN (pv 2) pe_non (nomark _)) (pw_and1 (pt_cmpR op_gt (pe_callB call_len_str rfl zn boot_len (pa_cons (pv 0) pa_nil)) (pv 2) (nomark _)))))))) (pss_one (ps_ret pe_bl)) pss_nil)
      (pss_cons (ps_set (i := 3) scWord.nd rfl (.inr rfl) (pe_slice sl_str (pe_gstr rfl gL) po_none (po_some (pv 1))))
      (pss_one (ps_ret (pe_callB (cr_all rfl) rfl za (by decide +kernel) (pa_cons (pe_lc (own := [("letter", 4)]) (g := gName 4) (te := teIn) (by rfl) scWord.nd (pi_str (pv 0)) (blkOk_by (own := [("letter", 4)]) (N := ["thing", "letters", "most", "known", "letter"]) (sc := defScope s_is_word) (by decide +kernel)) (fun _ _ _ _ _ => pg_name (i := 4) scWord.nd rfl (Or.inl rfl)) (fun _ _ _ _ _ => pts_nil)
        (fun _ _ _ _ _ => by exact pe_cmpR op_in_sign (pv 4) (pv 3) (by rfl))) pa_nil)))))), ?_⟩
    refine ⟨_, rfl, .str (ws x), .ty "str", _, _, true, rfl, .ty _, .base (.str _), kit_ty (show kitB "str" "str" = some true by decide +kernel), _, rfl, ?_⟩
    refine ifF rfl ?_
    refine ⟨_, rfl, rfl, _, rfl, ?_⟩
    refine ifT rfl ⟨_, rfl, ws x, rfl, by rw [ws_len]; show x.length ≤ 16777216; omega, _, rfl, _, _, rfl, rfl, _, rfl, ?_⟩
    rw [ws_len, show decide (((n : Nat) : Int) < ((x.length : Nat) : Int)) = false from decide_eq_false (by omega)]
    refine ifF rfl ?_
    refine ⟨_, rfl, ((wd : Nat) : Int), rfl, ("abcdef" : Str), rfl, by decide, ?_⟩
    refine ⟨_, rfl, ws x, rfl, fun D nD => ?_⟩
    refine lc_it (walk_str (z := ws x)) (fun i Hd => But D H Hd ∧ Hd D = some (.lst ((List.replicate i true).map V.bl))) ⟨But.upd, upd_same⟩ (fun _ _ _ _ => True.intro) (fun i y Hd H' hi ⟨bd, hD⟩ ⟨e', c, hc, ey⟩ => ?_) (fun Hd ⟨bd, hD⟩ => ?_)
    · subst e' ey
      refine ⟨rfl, yesT ?_⟩
      obtain ⟨d, hd, rfl⟩ : ∃ d, x[i]? = some d ∧ c = 97 + d := by
        unfold ws at hc
        rw [List.getElem?_toArray] at hc
        obtain ⟨d, h1, h2⟩ := map_get hc
        exact ⟨d, h1, h2⟩
      refine ⟨_, rfl, _, rfl, 97 + d, _, rfl, rfl, ?_⟩
      rw [decide_eq_true (known_in (hx d (List.mem_of_getElem? hd)) w6)]
      refine ⟨_, hD, ?_, But.trans bd But.upd, ?_⟩
      · rw [List.length_map, List.length_replicate]
        have := get_lt hd
        show i < 16777216
        omega
      · rw [upd_same, List.replicate_succ', List.map_append]
        rfl
    · refine ⟨D, _, rfl, SqL.of hD, ?_⟩
      rw [all_true]
      exact k _ (Same.but (L2.Same.refl _) nD bd)
end
end K14

set_option Elab.async false
set_option linter.all false
set_option maxRecDepth 100000
set_option maxHeartbeats 8000000
namespace K14
open PySem PySem.Spec PyProof.Rows L2 Lf
def spCkW (K : PySem.W.Frag) : Sp := fun vs H Q _ => ∃ p rows m wd x n, vs = [.ref p, .str (ws x), .int (n : Nat)] ∧ Mo K H p rows m ∧ Form rows wd ∧ (∀ c ∈ x, c < wd) ∧ x.length ≤ n ∧ n ≤ 1000 ∧ ∀ H', Same H H' → Q .non H'
def spOfW (K : PySem.W.Frag) : Sp := fun vs H Q _ => ∃ p rows m wd x, vs = [.ref p, .str (ws x)] ∧ Mo K H p rows m ∧ Form rows wd ∧ (∀ c ∈ x, c < wd) ∧ x.length ≤ 100 ∧ ∀ H', Same H H' → Q (.int (Mon.walk rows 0 x : Nat)) H'
theorem letter_ix {c : Nat} (h : c < 6) : Builtin.Str.occurrences ("abcdef" : Str) ⟨#[97 + c]⟩ 0 ("abcdef" : Str).length 1 = [c] := by
  have : c = 0 ∨ c = 1 ∨ c = 2 ∨ c = 3 ∨ c = 4 ∨ c = 5 := by omega
  rcases this with rfl | rfl | rfl | rfl | rfl | rfl <;> decide +kernel
def rIdx : V → List V → Hp → VK → Prop := fun x xs H Q => ∃ a b i rest, x = .str a ∧ xs = [.str b] ∧ Builtin.Str.occurrences a b 0 a.length 1 = i :: rest ∧ Q (.int (i : Nat)) H
abbrev teIx (K : PySem.W.Frag) : TE := tBM K "str" rIdx (tC (.str ("abcdef" : Str))) (tCons (tVar 2) tNil)
section
variable {P : Program} {w : World} {K : PySem.W.Frag} {mg : Str → Option Value} {base : Heap}
theorem scCkW : FnScope ["self", "word", "most"] ["self", "word", "most"] (defScope s_Monoid_check_word) := ⟨rfl, rfl, rfl, by decide +kernel, rfl, by decide +kernel, by decide +kernel⟩
theorem ok_ckw {f : Addr} {fd : FuncData} {q : Str} (F : FunD K "_check_word" q (defArgs s_Monoid_check_word) (defBody s_Monoid_check_word) (defScope s_Monoid_check_word) [] [] f fd) (T : Txt P w K mg base)
    (DW : Def P w K mg base CX0 1 "is_word" ["thing", "letters", "most"] spWord) : FnOk P w K mg base CX0 2 f fd ["self", "word", "most"] (spCkW K) := by
  have cl : L2.Cls K (He.ga K "Monoid") := He.cls_ok (T.d.fact 46 (f := .cls "Monoid") rfl)
  have n1 : NoAttr K (He.ga K "Monoid") "right" := He.noat_ok (T.d.fact 58 (f := .noat "Monoid" "right") rfl)
  have zn : mg "len" = none := T.fr 39 "len" rfl
  refine F.ok scCkW (fun vs H Q E h => ?_) (fun cdv A outer s H vs Q E hr h => ?_)
  · obtain ⟨p, rows, m, wd, x, n, rfl, _⟩ := h
    rfl
  · obtain ⟨p, rows, m, wd, x, n, rfl, M, FO, hx, ln, n1000, k⟩ := h
    obtain ⟨dx, t, u, v, hp, R, _, _⟩ := id M.ex
    obtain ⟨as, sr, la, srow⟩ := R.ex
    obtain ⟨f1, f2, f3, f4, f5⟩ := FO
    obtain ⟨a0, ha0⟩ := lt_get (show 0 < as.length by omega)
    obtain ⟨row0, hrow0⟩ := lt_get (show 0 < rows.length by omega)
    have l0 := (f5 row0 (List.mem_of_getElem? hrow0)).1
    refine ⟨_, PSs.nox (pss_one (ps_if (pt_not (pt_val (pe_def DW hr pass0 rfl (pa_cons (pv 1) (pa_cons (pe_callB call_len_seq rfl zn boot_len (pa_cons (pe_ix ix_tup (pe_fld (pv 0) rfl) pe_int (fun _ _ => rfl)) pa_nil)) (pa_cons (pv 2) pa_nil)))))) (pss_one ps_never) pss_nil)), ?_⟩
    refine ⟨_, rfl, _, rfl, p, _, dx, _, _, rfl, hp, cl, n1, rfl, t, as.map V.ref, 0, .ref a0, rfl, rfl, sr, atI_nat (j := 0) (get_map ha0), a0, row0.map nv, rfl, .inr (srow 0 a0 row0 ha0 hrow0), _, rfl, x, wd, n, by rw [List.length_map, l0], hx, f4, ln, n1000, fun H1 s1 => ⟨_, rfl, ifF rfl (k H1 s1)⟩⟩
theorem scOfW : FnScope ["self", "word", "letter"] ["self", "word"] (defScope s_Monoid_of_word) := ⟨rfl, rfl, rfl, by decide +kernel, rfl, by decide +kernel, by decide +kernel⟩
theorem ok_ofw {f : Addr} {fd : FuncData} {q : Str} (F : FunD K "of_word" q (defArgs s_Monoid_of_word) (defBody s_Monoid_of_word) (defScope s_Monoid_of_word) [] [] f fd) (T : Txt P w K mg base)
    (DK : DefM P w K mg base CX0 2 "_check_word" ["self", "word", "most"] (spCkW K)) (DE : Def P w K mg base CX0 1 "_end" ["right", "start", "letters"] (spEnd K)) : FnOk P w K mg base CX0 3 f fd ["self", "word"] (spOfW K) := by
  have cl : L2.Cls K (He.ga K "Monoid") := He.cls_ok (T.d.fact 46 (f := .cls "Monoid") rfl)
  have n1 : NoAttr K (He.ga K "Monoid") "right" := He.noat_ok (T.d.fact 58 (f := .noat "Monoid" "right") rfl)
  obtain ⟨tL, gL⟩ := T.st 30 "LETTERS" "abcdef" rfl
  obtain ⟨tM, gM⟩ := T.it 29 "MOST_WORD" 100 rfl
  obtain ⟨fk, fdk, mk, Fk, bk⟩ := DK.ex
  refine F.ok scOfW (fun vs H Q E h => ?_) (fun cdv A outer s H vs Q E hr h => ?_)
  · obtain ⟨p, rows, m, wd, x, rfl, _⟩ := h
    rfl
  · obtain ⟨p, rows, m, wd, x, rfl, M, FO, hx, ln, k⟩ := h
    have r1 : Room 1 _ := hr.mono (by decide)
    have f4 := FO.2.2.2.1
    refine ⟨_, PSs.nox (pss_cons (ps_expr (pe_meth (pv 0) cl mk Fk hr bk .nil pass0 (pa_cons (pv 1) (pa_cons (pe_gint rfl gM) pa_nil))))
      (pss_one (ps_ret (pe_def DE r1 pass0 rfl (pa_cons (pe_fld (pv 0) rfl) (pa_cons pe_int (pa_cons (pe_lc (own := [("letter", 2)]) (g := gName 2) (te := teIx K) (by rfl) scOfW.nd (pi_str (pv 1)) (blkOk_by (own := [("letter", 2)]) (N := ["self", "word", "letter"]) (sc := defScope s_Monoid_of_word) (by decide +kernel)) (fun _ _ _ _ _ => pg_name (i := 2) scOfW.nd rfl (Or.inl rfl)) (fun _ _ _ _ _ => pts_nil)
        (fun _ _ _ _ _ => by exact pe_bm PySem.F.plainAttrs_str PySem.F.slot_str_index PySem.F.type_str_index mt_sindex (pe_gstr rfl gL) (pa_cons (pv 2) pa_nil))) pa_nil))))))), ?_⟩
    obtain ⟨dx, t, u, v, hp, R, _, _⟩ := id M.ex
    refine ⟨_, rfl, p, dx, _, rfl, hp, rfl, _, rfl, p, rows, m, wd, x, 100, rfl, M, FO, hx, ln, by decide, fun H1 s1 => ?_⟩
    refine ⟨_, rfl, p, _, dx, _, _, rfl, s1 _ _ hp, cl, n1, rfl, _, rfl, ws x, rfl, fun D nD => ?_⟩
    refine lc_it (walk_str (z := ws x)) (fun i Hd => But D H1 Hd ∧ Hd D = some (.lst ((x.take i).map nv))) ⟨But.upd, upd_same⟩ (fun _ _ _ _ => True.intro) (fun i y Hd H' hi ⟨bd, hD⟩ ⟨e', c, hc, ey⟩ => ?_) (fun Hd ⟨bd, hD⟩ => ?_)
    · subst e' ey
      refine ⟨rfl, yesT ?_⟩
      obtain ⟨d, hd, rfl⟩ : ∃ d, x[i]? = some d ∧ c = 97 + d := by
        unfold ws at hc
        rw [List.getElem?_toArray] at hc
        obtain ⟨d, h1, h2⟩ := map_get hc
        exact ⟨d, h1, h2⟩
      have dl := hx d (List.mem_of_getElem? hd)
      refine ⟨rfl, _, rfl, ("abcdef" : Str), ⟨#[97 + d]⟩, d, [], rfl, rfl, letter_ix (by omega), ?_⟩
      refine ⟨_, hD, ?_, But.trans bd But.upd, ?_⟩
      · rw [List.length_map, List.length_take]
        show min i x.length < 16777216
        omega
      · rw [upd_same, take_snoc hd, List.map_append]
        rfl
    · have sd := Same.but (L2.Same.refl _) nD bd
      have e : (ws x).cps.size = x.length := by simp [ws]
      rw [e, List.take_length] at hD
      exact ⟨t, D, rows, wd, 0, x, rfl, (R.same s1).same sd, FO, by have := FO.1; omega, SqL.of hD, hx, k _ (s1.trans sd)⟩
end
end K14

set_option Elab.async false
set_option linter.all false
set_option maxRecDepth 100000
set_option maxHeartbeats 4000000
/-! Least words of products of maps of up to four points are short: what goes ahead of an element on its way are unlike maps whose kernels grow. -/
namespace Mon
def prs : List (Nat × Nat) := [(0, 1), (0, 2), (0, 3), (1, 2), (1, 3), (2, 3)]
/-- which points go together -/
def kp (x : List Nat) : List Bool := prs.map fun p => decide (x[p.1]? = x[p.2]?)
def wt (l : List Bool) : Nat := l.countP id
def kle (x y : List Nat) : Prop := ∀ a b : Nat, x[a]? = x[b]? → y[a]? = y[b]?
theorem kle_refl (x : List Nat) : kle x x := fun _ _ h => h
theorem kle_trans {x y z : List Nat} (h : kle x y) (k : kle y z) : kle x z := fun a b e => k a b (h a b e)
theorem kle_comp (x y : List Nat) : kle x (comp x y) := fun a b e => by
  unfold comp
  rw [List.getElem?_map, List.getElem?_map, e]
/-- all maps of four points -/
def all4 : List (List Nat) := (List.range 4).flatMap fun a => (List.range 4).flatMap fun b => (List.range 4).flatMap fun c => (List.range 4).map fun d => [a, b, c, d]
theorem in_all4 {x : List Nat} (h : Valid 4 x) : x ∈ all4 := by
  obtain ⟨l, o⟩ := h
  match x, l with
  | [a, b, c, d], _ =>
    simp only [all4, List.mem_flatMap, List.mem_map, List.mem_range]
    exact ⟨a, o a (by simp), b, o b (by simp), c, o c (by simp), d, o d (by simp), rfl⟩
def c4 (v : Nat) : Nat := [24, 24, 12, 12, 0, 0, 4].getD v 0
def parts : List (List Bool) := [[false, false, false, false, false, false], [false, false, false, false, false, true], [false, false, false, false, true, false], [false, false, false, true, false, false], [false, false, false, true, true, true], [false, false, true, false, false, false], [false, false, true, true, false, false], [false, true, false, false, false, false], [false, true, false, false, true, false], [false, true, true, false, false, true], [true, false, false, false, false, false], [true, false, false, false, false, true], [true, false, true, false, true, false], [true, true, false, true, false, false], [true, true, true, true, true, true]]
theorem in_parts : ∀ x ∈ all4, kp x ∈ parts := by decide +kernel
theorem fewK : ∀ k ∈ parts, (all4.filter fun y => kp y = k).length ≤ c4 (wt k) ∧ wt k < 7 := by decide +kernel
theorem few4 (x : List Nat) (h : x ∈ all4) : (all4.filter fun y => kp y = kp x).length ≤ c4 (wt (kp x)) ∧ wt (kp x) < 7 := fewK _ (in_parts x h)
theorem sub_len {α : Type} [DecidableEq α] : ∀ {l m : List α}, l.Nodup → (∀ x ∈ l, x ∈ m) → l.length ≤ m.length
  | [], m, _, _ => Nat.zero_le _
  | x :: l, m, nd, h => by
    obtain ⟨h1, h2⟩ := List.nodup_cons.mp nd
    have q := sub_len (l := l) (m := m.erase x) h2 fun y hy => (List.mem_erase_of_ne (fun e : y = x => h1 (e ▸ hy))).mpr (h y (List.mem_cons_of_mem _ hy))
    rw [List.length_erase_of_mem (h x List.mem_cons_self)] at q
    have := List.length_pos_of_mem (h x List.mem_cons_self)
    rw [List.length_cons]
    omega
/-- pointwise, a list of truths below another of the same weight is that -/
theorem wt_eq : ∀ {l m : List Bool}, l.length = m.length → (∀ (i : Nat), l[i]? = some true → m[i]? = some true) → wt m ≤ wt l → l = m
  | [], [], _, _, _ => rfl
  | a :: l, b :: m, e, h, w => by
    have h0 := h 0
    have hr : ∀ (i : Nat), l[i]? = some true → m[i]? = some true := fun i hi => h (i + 1) hi
    have mono : ∀ {l m : List Bool}, l.length = m.length → (∀ (i : Nat), l[i]? = some true → m[i]? = some true) → wt l ≤ wt m := by
      intro l
      induction l with
      | nil => intro m _ _; exact Nat.zero_le _
      | cons a l ih =>
        intro m e h
        match m, e with
        | b :: m, e =>
          have q := ih (m := m) (by simpa using e) fun i hi => h (i + 1) hi
          have h0 := h 0
          cases a <;> cases b <;> simp [wt] at * <;> omega
    have q := mono (by simpa using e) hr
    have lm : l.length = m.length := by simpa using e
    cases a <;> cases b <;> simp [wt] at * <;> first | exact wt_eq lm hr (by simpa [wt] using w) | (exfalso; omega)
theorem kp_same {x y : List Nat} (h : kle x y) (w : wt (kp y) ≤ wt (kp x)) : kp x = kp y := by
  refine wt_eq (by simp [kp]) (fun i hi => ?_) w
  unfold kp at hi ⊢
  rw [List.getElem?_map] at hi ⊢
  obtain ⟨p, hp, e⟩ := Option.map_eq_some_iff.mp hi
  rw [hp]
  exact congrArg some (decide_eq_true (h _ _ (of_decide_eq_true e)))
/-- unlike maps of four points whose kernels grow are few -/
theorem chain_few {l : List (List Nat)} (nd : l.Nodup) (val : ∀ x ∈ l, Valid 4 x) (ch : l.Pairwise kle) : l.length ≤ 76 := by
  have tot : (l.map fun x => wt (kp x)).length = (cvec 7 (l.map fun x => wt (kp x))).sum := (cvec_sum (N := 7) fun v hv => by
    obtain ⟨x, hx, rfl⟩ := List.mem_map.mp hv
    exact (few4 x (in_all4 (val x hx))).2).symm
  have each : ∀ v, (l.map fun x => wt (kp x)).count v ≤ c4 v := fun v => by
    have e : (l.map fun x => wt (kp x)).count v = (l.filter fun x => wt (kp x) = v).length := by
      rw [List.count, List.countP_map, List.countP_eq_length_filter]
      congr 2
    rw [e]
    cases hf : l.filter fun x => wt (kp x) = v with
    | nil => exact Nat.zero_le _
    | cons x r =>
      rw [← hf]
      have hx : x ∈ l.filter fun x => wt (kp x) = v := by rw [hf]; exact List.mem_cons_self
      obtain ⟨xl, xv⟩ := List.mem_filter.mp hx
      have xv : wt (kp x) = v := of_decide_eq_true xv
      have ch' : (l.filter fun x => wt (kp x) = v).Pairwise kle := ch.sublist List.filter_sublist
      rw [hf] at ch'
      have h1 := (List.pairwise_cons.mp ch').1
      have q := few4 x (in_all4 (val x xl))
      rw [xv] at q
      refine Nat.le_trans (sub_len (nd.sublist List.filter_sublist) fun y hy => ?_) q.1
      obtain ⟨yl, yv⟩ := List.mem_filter.mp hy
      have yv : wt (kp y) = v := of_decide_eq_true yv
      refine List.mem_filter.mpr ⟨in_all4 (val y yl), decide_eq_true ?_⟩
      rw [hf] at hy
      rcases List.mem_cons.mp hy with rfl | hy
      · rfl
      · exact (kp_same (h1 y hy) (by omega)).symm
  rw [List.length_map] at tot
  rw [tot]
  show ((List.range 7).map fun k => (l.map fun x => wt (kp x)).count k).sum ≤ 76
  have e0 := each 0
  have e1 := each 1
  have e2 := each 2
  have e3 := each 3
  have e4 := each 4
  have e5 := each 5
  have e6 := each 6
  rw [show c4 0 = 24 from rfl] at e0
  rw [show c4 1 = 24 from rfl] at e1
  rw [show c4 2 = 12 from rfl] at e2
  rw [show c4 3 = 12 from rfl] at e3
  rw [show c4 4 = 0 from rfl] at e4
  rw [show c4 5 = 0 from rfl] at e5
  rw [show c4 6 = 4 from rfl] at e6
  simp only [show List.range 7 = [0, 1, 2, 3, 4, 5, 6] from rfl, List.map_cons, List.map_nil, List.sum_cons, List.sum_nil]
  omega
section
variable {n : Nat} {gens found rows : List (List Nat)} {m : List (Nat × Nat)}
/-- the way to element j -/
theorem way (T : Tab n gens found rows) (hm : madeTab 0 rows [] = some m) (lm : m.length + 1 = rows.length) : ∀ (k j : Nat), j ≤ k → j < m.length + 1 → ∃ (ps : List (List Nat)) (z : List Nat), found[j]? = some z ∧ ps.length = ((wordTab m).getD j []).length + 1 ∧ ps.Nodup ∧ ps.Pairwise kle ∧ (∀ x ∈ ps, kle x z) ∧ ∀ x ∈ ps, ∃ i, i ≤ j ∧ found[i]? = some x
  | k, 0, _, _ => ⟨[idm n], idm n, T.head, by rw [word_0]; rfl, by simp, by simp, fun x hx => by rw [List.mem_singleton.mp hx]; exact kle_refl _, fun x hx => ⟨0, Nat.le_refl _, by rw [List.mem_singleton.mp hx]; exact T.head⟩⟩
  | 0, j + 1, h, _ => by omega
  | k + 1, j + 1, h, hj => by
    obtain ⟨p, hp⟩ := lt_get' (show j < m.length by omega)
    have hlt : ∀ (k : Nat) p, m[k]? = some p → p.1 < k + 1 := fun k p h => (madeTab_lt hm h).1
    obtain ⟨a, row, b, c⟩ := madeTab_lt hm hp
    obtain ⟨ps, z, hz, lps, nd, pw, le, mem⟩ := way T hm lm k p.1 (by omega) (by omega)
    obtain ⟨x, g, hx, hg, ht⟩ := T.ent p.1 row b p.2 (j + 1) c
    rw [hz] at hx
    cases hx
    refine ⟨ps ++ [comp z g], comp z g, ht, ?_, ?_, ?_, ?_, ?_⟩
    · rw [List.length_append, lps, word_at hlt hp, List.length_append]
      rfl
    · rw [List.nodup_append]
      refine ⟨nd, by simp, fun x hx y hy e => ?_⟩
      rw [List.mem_singleton.mp hy] at e
      obtain ⟨i, il, hi⟩ := mem x hx
      rw [e] at hi
      have := nodup_at T.nd hi ht
      omega
    · rw [List.pairwise_append]
      refine ⟨pw, by simp, fun x hx y hy => ?_⟩
      rw [List.mem_singleton.mp hy]
      exact kle_trans (le x hx) (kle_comp z g)
    · intro x hx
      rcases List.mem_append.mp hx with hx | hx
      · exact kle_trans (le x hx) (kle_comp z g)
      · rw [List.mem_singleton.mp hx]
        exact kle_refl _
    · intro x hx
      rcases List.mem_append.mp hx with hx | hx
      · obtain ⟨i, il, hi⟩ := mem x hx
        exact ⟨i, by omega, hi⟩
      · rw [List.mem_singleton.mp hx]
        exact ⟨j + 1, Nat.le_refl _, ht⟩
theorem word_100 (T : Tab n gens found rows) (n1 : 1 ≤ n) (n4 : n ≤ 4) (hm : madeTab 0 rows [] = some m) (lm : m.length + 1 = rows.length) (j : Nat) : ((wordTab m).getD j []).length ≤ 100 := by
  by_cases hj : j < m.length + 1
  · obtain ⟨ps, z, hz, lps, nd, pw, le, mem⟩ := way T hm lm j j (Nat.le_refl _) hj
    have val : ∀ x ∈ ps, Valid n x := fun x hx => by
      obtain ⟨i, _, hi⟩ := mem x hx
      exact T.vf hi
    by_cases h4 : n = 4
    · subst h4
      have := chain_few nd val pw
      omega
    · have f1 := maps_few nd val
      have : n = 1 ∨ n = 2 ∨ n = 3 := by omega
      have f2 : n ^ n ≤ 27 := by rcases this with rfl | rfl | rfl <;> decide
      omega
  · rw [List.getD, List.getElem?_eq_none (by rw [word_len]; omega)]
    exact Nat.zero_le _
end
end Mon

set_option Elab.async false
set_option linter.all false
set_option maxRecDepth 100000
set_option maxHeartbeats 8000000
namespace K14
open PySem PySem.Spec PyProof.Rows L2 Lf
theorem SqT.butL {K : PySem.W.Frag} {H H' : Hp} {l a : Addr} {ys xs : List V} (hl : H l = some (.lst ys)) (b : But l H H') (h : SqT K H a xs) : SqT K H' a xs := by
  rcases h with (h | ⟨o, h⟩) | h
  · exact .inl (.inl (b _ _ (fun z => by rw [z, hl] at h; cases h) h))
  · exact .inl (.inr ⟨o, b _ _ (fun z => by rw [z, hl] at h; cases h) h⟩)
  · exact .inr h
theorem RowsT.butL {K : PySem.W.Frag} {H H' : Hp} {l r : Addr} {ys : List V} {rows : List (List Nat)} (hl : H l = some (.lst ys)) (b : But l H H') (h : RowsT K H r rows) : RowsT K H' r rows := by
  obtain ⟨as, h1, h2, h3⟩ := h.ex
  exact ⟨as, SqT.butL hl b h1, h2, fun i x row g1 g2 => SqT.butL hl b (h3 i x row g1 g2)⟩
theorem MadeT.butL {K : PySem.W.Frag} {H H' : Hp} {l r : Addr} {ys : List V} {m : List (Nat × Nat)} (hl : H l = some (.lst ys)) (b : But l H H') (h : MadeT K H r m) : MadeT K H' r m := by
  obtain ⟨as, h1, h2, h3⟩ := h.ex
  exact ⟨as, SqT.butL hl b h1, h2, fun i x row g1 g2 => SqT.butL hl b (h3 i x row g1 g2)⟩
theorem Mo.butL {K : PySem.W.Frag} {H H' : Hp} {l x : Addr} {ys : List V} {rows : List (List Nat)} {m : List (Nat × Nat)} (hl : H l = some (.lst ys)) (b : But l H H') (h : Mo K H x rows m) : Mo K H' x rows m := by
  obtain ⟨dx, t, u, v, h1, h2, h3, h4⟩ := h.ex
  exact ⟨dx, t, u, v, b _ _ (fun z => by rw [z, hl] at h1; cases h1) h1, h2.butL hl b, h3.butL hl b, h4.butL hl b⟩
theorem MM.butL {K : PySem.W.Frag} {H H' : Hp} {l p : Addr} {ys : List V} {rows : List (List Nat)} {m : List (Nat × Nat)} {n : Nat} {gens found : List (List Nat)} (hl : H l = some (.lst ys)) (b : But l H H') (h : MM K H p rows m n gens found) : MM K H' p rows m n gens found :=
  ⟨h.mo.butL hl b, h.form, h.made, h.len, h.tab, h.n1, h.n4⟩
theorem cut_w {wd : Nat} (h1 : 1 ≤ wd) (h6 : wd ≤ 6) : cutS ("abcdef" : Str) none (some ((wd : Nat) : Int)) = ws (List.range wd) := by
  have : wd = 1 ∨ wd = 2 ∨ wd = 3 ∨ wd = 4 ∨ wd = 5 ∨ wd = 6 := by omega
  rcases this with rfl | rfl | rfl | rfl | rfl | rfl <;> decide +kernel
theorem compW_snoc {gens : List (List Nat)} {x : List Nat} {w : List Nat} {c : Nat} : Mon.compW gens x (w ++ [c]) = Mon.comp (Mon.compW gens x w) (gens.getD c []) := by
  unfold Mon.compW
  rw [List.foldl_append]
  rfl
theorem compW_valid {n : Nat} {gens : List (List Nat)} (gv : ∀ g ∈ gens, Mon.Valid n g) : ∀ {w : List Nat} {x : List Nat}, Mon.Valid n x → (∀ c ∈ w, c < gens.length) → Mon.Valid n (Mon.compW gens x w)
  | [], x, hx, _ => hx
  | c :: w, x, hx, hw => by
    obtain ⟨g, hg⟩ := lt_get (hw c List.mem_cons_self)
    show Mon.Valid n (Mon.compW gens (Mon.comp x (gens.getD c [])) w)
    rw [Mon.getD_of hg]
    exact compW_valid gv (Mon.comp_valid hx (gv g (List.mem_of_getElem? hg))) fun d hd => hw d (List.mem_cons_of_mem _ hd)
def spWordsR (K : PySem.W.Frag) : Sp := fun vs H Q _ => ∃ l p g pf k rows m n gens found, vs = [.ref l, .ref p, .ref g, .ref pf] ∧ Src H l k ∧ k + 600 ≤ 1000000 ∧ MM K H p rows m n gens found ∧ Maps H g gens ∧ Maps H pf found ∧ 1 ≤ gens.length ∧ found.length ≤ 256 ∧
  ∀ H', But l H H' → Src H' l (k + 600) → Q (.bl true) H'
abbrev NW : List Str := ["_law_source_here", "_law_monoid", "_law_rows", "_law_found", "_law_letters", "_law_turn", "_law_word_here", "_law_here", "_law_letter"]
abbrev teOf (K : PySem.W.Frag) : TE := tMeth (He.ga K "Monoid") "of_word" (spOfW K) [] E0 (tVar 1) (tCons (tVar 6) tNil)
section
variable {P : Program} {w : World} {K : PySem.W.Frag} {mg : Str → Option Value} {base : Heap}
theorem scWordsR : FnScope NW ["_law_source_here", "_law_monoid", "_law_rows", "_law_found"] (defScope s_L_words_right) := ⟨rfl, rfl, rfl, by decide +kernel, rfl, by decide +kernel, by decide +kernel⟩
theorem ok_wordsR {f : Addr} {fd : FuncData} {q : Str} (F : FunD K "_law_words_right" q (defArgs s_L_words_right) (defBody s_L_words_right) (defScope s_L_words_right) [] [] f fd) (T : Txt P w K mg base)
    (DW : Def P w K mg base CX0 3 "_law_word" ["_law_source_here", "_law_letters"] spWordL) (DP : Def P w K mg base CX0 1 "_law_product" ["_law_one", "_law_other"] (spProd K))
    (DO : DefM P w K mg base CX0 3 "of_word" ["self", "word"] (spOfW K)) (DS : DefM P w K mg base CX0 1 "words" ["self"] (spWords K)) :
    FnOk P w K mg base CX0 4 f fd ["_law_source_here", "_law_monoid", "_law_rows", "_law_found"] (spWordsR K) := by
  have cl : L2.Cls K (He.ga K "Monoid") := He.cls_ok (T.d.fact 46 (f := .cls "Monoid") rfl)
  have zr : mg "range" = none := T.fr 41 "range" rfl
  have zn : mg "len" = none := T.fr 39 "len" rfl
  have zl : mg "list" = none := T.fr 40 "list" rfl
  obtain ⟨fo, fdo, mo, Fo, bo⟩ := DO.ex
  obtain ⟨fs, fds, ms, Fs, bs⟩ := DS.ex
  refine F.ok scWordsR (fun vs H Q E h => ?_) (fun cdv A outer s H vs Q E hr h => ?_)
  · obtain ⟨l, p, g, pf, k, rows, m, n, gens, found, rfl, _⟩ := h
    rfl
  · obtain ⟨l, p, g, pf, k0, rows, m, n, gens, found, rfl, src, k1, M, Mg, Mf, g1, f256, fin⟩ := h
    have r1 : Room 1 _ := hr.mono (by decide)
    have hu : (A.deeper (envOfC q (defScope s_L_words_right) s.heap.objs.size f cdv)).units + 64 < cLine := hr.units
    refine ⟨_, PSs.nox (pss_cons (ps_set (i := 4) scWordsR.nd rfl (.inl rfl) (pe_slice sl_str pe_str po_none (po_some (pe_callB call_len_seq rfl zn boot_len (pa_cons (pv 2) pa_nil)))))
      (pss_cons (ps_for PassesOwn.never rfl (pi_range1 rfl zr (pa_cons pe_int pa_nil)) (pg_name (i := 5) scWordsR.nd rfl (.inl rfl))
        (pss_cons (ps_par (i := 6) (j := 7) rfl scWordsR.nd rfl rfl (by decide) rfl rfl (pa_cons (pe_def DW hr pass0 rfl (pa_cons (pv 0) (pa_cons (pv 4) pa_nil))) (pa_cons (pe_ix ix_list (pv 3) pe_int (fun _ _ => rfl)) pa_nil)) (by rfl))
        (pss_cons (ps_for PassesOwn.never rfl (pi_str (pv 6)) (pg_name (i := 8) scWordsR.nd rfl (.inl rfl))
          (pss_one (ps_set (i := 7) scWordsR.nd rfl (.inl rfl) (pe_def DP r1 pass0 rfl (pa_cons (pv 7) (pa_cons (pe_ix ix_list (pv 2) (pe_bm PySem.F.plainAttrs_str PySem.F.slot_str_index PySem.F.type_str_index mt_sindex pe_str (pa_cons (pv 8) pa_nil)) (fun _ _ => rfl)) pa_nil))))))
        (pss_one (ps_if (pt_cmpR (op_neD hu) (pe_ix ix_list (pv 3) (pe_meth (pv 1) cl mo Fo hr bo .nil pass0 (pa_cons (pv 6) pa_nil)) (fun _ _ => rfl)) (pv 7) (nomark _)) (pss_one (ps_ret pe_bl)) pss_nil)))))
      (pss_one (ps_ret (pe_cmpR (op_eqD hu) (pe_lc (own := [("_law_word_here", 6)]) (g := gName 6) (te := teOf K) (by rfl) scWordsR.nd (pi_list (pe_meth0 (pv 1) cl ms Fs r1 bs .nil pass0)) (blkOk_by (own := [("_law_word_here", 6)]) (N := NW) (sc := defScope s_L_words_right) (by decide +kernel)) (fun _ _ _ _ _ => pg_name (i := 6) scWordsR.nd rfl (Or.inl rfl)) (fun _ _ _ _ _ => pts_nil)
          (fun _ _ _ _ _ => by exact pe_meth (pv 1) cl mo Fo hr bo .nil pass0 (pa_cons (pv 6) pa_nil))) (pe_listRg rfl rfl zl (prg_1 rfl zr (pe_callB call_len_seq rfl zn boot_len (pa_cons (pv 3) pa_nil)))) (nomark _)))))), ?_⟩
    have FO := M.form
    have g6 : gens.length ≤ 6 := FO.2.2.2.1
    have gv := M.tab.vg
    obtain ⟨gs, hgs, lgs, egs⟩ := Mg.ex
    refine ⟨_, rfl, g, _, rfl, .inl (SqL.of hgs), ((gens.length : Nat) : Int), congrArg (fun z : Nat => V.int ((z : Nat) : Int)) (by rw [List.length_map, lgs]), ("abcdef" : Str), rfl, by decide, ?_⟩
    rw [cut_w g1 g6]
    refine ⟨5, rfl, by decide, by decide, for_range (lo := 0) (n := 5) (fun i σ Hn => ∃ v5 v6 v7 v8 : Option V, σ = [some (.ref l), some (.ref p), some (.ref g), some (.ref pf), some (.str (ws (List.range gens.length))), v5, v6, v7, v8] ∧ But l H Hn ∧ Src Hn l (k0 + i * 110))
      ⟨none, none, none, none, rfl, But.refl, src⟩ (fun i σ Hn hi ⟨v5, v6, v7, v8, eσ, bn, sn⟩ => ?_) (fun σ Hn ⟨v5, v6, v7, v8, eσ, bn, sn⟩ => ?_)⟩
    · subst eσ
      refine ⟨_, rfl, _, rfl, l, k0 + i * 110, gens.length, rfl, sn, by omega, g1, g6, fun x H2 b2 xw xl src2 => ?_⟩
      obtain ⟨q1, q2, q3, hl0⟩ := src.un
      have b20 : But l H H2 := But.trans bn b2
      have M2 := M.butL hl0 b20
      have Mg2 := Mg.but hl0 b20
      have Mf2 := Mf.but hl0 b20
      obtain ⟨as, hf, la, el⟩ := Mf2.ex
      obtain ⟨gs2, hg2, lg2, eg2⟩ := Mg2.ex
      obtain ⟨a0, ha0⟩ := lt_get (show 0 < as.length by have := get_lt M.tab.head; omega)
      refine ⟨_, rfl, pf, _, 0, _, rfl, rfl, SqL.of hf, atI_nat (j := 0) (get_map ha0), ?_⟩
      refine ⟨_, _, rfl, ?_⟩
      have e0 := el 0 a0 _ ha0 M.tab.head
      refine ⟨_, rfl, ws x, rfl, for_it (walk_str (z := ws x)) (fun j σ Hc => ∃ (v8 : Option V) (t : Addr), σ = [some (.ref l), some (.ref p), some (.ref g), some (.ref pf), some (.str (ws (List.range gens.length))), some (.int (0 + (i : Nat))), some (.str (ws x)), some (.ref t), v8] ∧ Same H2 Hc ∧ Hc t = some (.tup ((Mon.compW gens (Mon.idm n) (x.take j)).map nv)))
        ⟨v8, a0, rfl, L2.Same.refl _, e0⟩ (fun _ _ _ _ _ => True.intro) (fun j y σ Hc H' hj ⟨v8, t, eσ, sc, ht⟩ ⟨e', c, hc, ey⟩ => ?_) (fun σ Hc ⟨v8, t, eσ, sc, ht⟩ => ?_)⟩
      · subst eσ e' ey
        obtain ⟨d, hd, rfl⟩ : ∃ d, x[j]? = some d ∧ c = 97 + d := by
          unfold ws at hc
          rw [List.getElem?_toArray] at hc
          obtain ⟨d, h1, h2⟩ := map_get hc
          exact ⟨d, h1, h2⟩
        have dl := xw d (List.mem_of_getElem? hd)
        obtain ⟨gd, hgd⟩ := lt_get (show d < gs2.length by omega)
        obtain ⟨gx, hgx⟩ := lt_get dl
        have vx := compW_valid gv (w := x.take j) (x := Mon.idm n) Mon.idm_valid fun c hc => xw c (List.mem_of_mem_take hc)
        refine ⟨_, rfl, _, rfl, rfl, _, rfl, ("abcdef" : Str), ⟨#[97 + d]⟩, d, [], rfl, rfl, letter_ix (by omega), g, _, _, .ref gd, rfl, rfl, SqL.of (sc _ _ hg2), atI_nat (get_map hgd), ?_⟩
        refine ⟨t, gd, _, gx, n, rfl, SqT.of ht, SqT.of (sc _ _ (eg2 d gd gx hgd hgx)), vx, gv gx (List.mem_of_getElem? hgx), (by have := M.n4; omega), fun t' H5 nt' s5 ht' => ?_⟩
        refine ⟨_, t', rfl, sc.trans s5, ?_⟩
        rw [take_snoc hd, compW_snoc, Mon.getD_of hgx]
        exact ht'
      · subst eσ
        have e1 : (ws x).cps.size = x.length := by simp [ws]
        rw [e1, List.take_length] at ht
        have M3 := M2.same sc
        obtain ⟨dx, _, _, _, hp3, _⟩ := id M3.mo.ex
        have wk := M.tab.walk M.tab.head xw
        generalize hr' : Mon.walk rows 0 x = r at wk
        obtain ⟨ar, har⟩ := lt_get (show r < as.length by have := get_lt wk; omega)
        refine ⟨_, rfl, _, rfl, p, dx, _, rfl, hp3, rfl, _, rfl, p, rows, m, gens.length, x, rfl, M3.mo, FO, xw, xl, fun H4 s4 => ?_⟩
        have s24 := sc.trans s4
        rw [hr']
        refine ⟨pf, _, _, .ref ar, rfl, rfl, SqL.of (s24 _ _ hf), atI_nat (get_map har), ?_⟩
        refine ⟨_, rfl, ?_⟩
        refine ⟨_, _, dpI (SqT.of (s24 _ _ (el r ar _ har wk))), dpI (SqT.of (s4 _ _ ht)), dI_sh _, dI_sh _, _, rfl, ?_⟩
        rw [SeqAt.eqv_refl _ (SeqAt.canLay_of_shaped (dI_sh _))]
        refine ifF rfl ?_
        exact ⟨_, _, _, _, rfl, b20.trans (But.of s24), (src2.same s24).up (by omega)⟩
    · subst eσ
      obtain ⟨q1, q2, q3, hl0⟩ := src.un
      have M2 := M.butL hl0 bn
      have Mf2 := Mf.but hl0 bn
      obtain ⟨dx, _, _, _, hp2, _⟩ := id M2.mo.ex
      have m2 : m.length ≤ 2000 := by have := FO.2.1; have := M.len; omega
      refine ⟨_, rfl, p, dx, _, rfl, hp2, rfl, p, rows, m, gens.length, rfl, M2.mo, FO, M.made, m2, fun lw H3 s3 nlw hlw => ?_⟩
      refine ⟨lw, rfl, ⟨_, SqL.of hlw⟩, fun D nD => ?_⟩
      have M3 := M2.same s3
      refine lc_list (K := K) (a := lw) (xs := (Mon.wordTab m).map wv) (fun c Hd => But D H3 Hd ∧ Hd D = some (.lst ((List.range c).map nv))) ⟨But.upd, upd_same⟩ (fun c Hd _ ⟨bd, _⟩ => SqL.of ((Same.but (L2.Same.refl _) nD bd) _ _ hlw)) (fun c y Hd hy ⟨bd, hD⟩ => ?_) (fun Hd ⟨bd, hD⟩ => ?_)
      · obtain ⟨wd, hwd, rfl⟩ := map_get hy
        have sd := Same.but (L2.Same.refl _) nD bd
        have cl' := get_lt hwd
        rw [Mon.word_len] at cl'
        have wl := word_letters FO M.made c
        have w100 := Mon.word_100 M.tab M.n1 M.n4 M.made M.len c
        have ww := Mon.walk_word M.made c c (Nat.le_refl _) cl'
        rw [Mon.getD_of hwd] at wl w100 ww
        refine ⟨rfl, yesT ?_⟩
        refine ⟨_, rfl, p, dx, _, rfl, sd _ _ (s3 _ _ hp2), rfl, _, rfl, p, rows, m, gens.length, wd, rfl, M3.mo.same sd, FO, wl, w100, fun H5 s5 => ?_⟩
        rw [ww]
        refine ⟨_, s5 _ _ hD, ?_, bd.trans ((But.of s5).trans But.upd), ?_⟩
        · rw [List.length_map, List.length_range]
          show c < 16777216
          omega
        · rw [upd_same, List.range_succ, List.map_append]
          rfl
      · rw [List.length_map, Mon.word_len, M.len, M.tab.len] at hD
        have sd := Same.but (L2.Same.refl _) nD bd
        obtain ⟨as, hf, la, el⟩ := (Mf2.same (s3.trans sd)).ex
        refine ⟨_, rfl, pf, _, rfl, .inl (SqL.of hf), ((found.length : Nat) : Int), congrArg (fun z : Nat => V.int ((z : Nat) : Int)) (by rw [List.length_map, la]), ?_⟩
        refine ⟨⟨by decide, by decide, by omega, by omega, by omega⟩, fun z nz => ?_⟩
        rw [rgV_nv]
        have u := same_upd (o := .lst ((Mon.idm found.length).map nv)) nz
        refine ⟨_, _, .lst (SqL.of (u _ _ hD)) dpN, .lst (SqL.of upd_same) dpN, ints_sh _, ints_sh _, ?_⟩
        show Q (.bl (PyData.eqv (.list ((List.range found.length).map dN)) (.list ((List.range found.length).map dN)))) _
        rw [SeqAt.eqv_refl _ (SeqAt.canLay_of_shaped (ints_sh _))]
        exact fin _ (bn.trans (But.of (s3.trans (sd.trans u)))) ((sn.same (s3.trans (sd.trans u))).up (by omega))
end
end K14

set_option Elab.async false
set_option linter.all false
set_option maxRecDepth 100000
set_option maxHeartbeats 4000000
/-! Functions that are promised only where no repr is under way; repr of a list of ints. -/
namespace Lf
open PySem PySem.Spec PyProof.Rows L2
/-- a promise of calls from where no repr is under way -/
structure FnG (P : Program) (w : World) (K : PySem.W.Frag) (mg : Str → Option Value) (base : Heap) (CX : CXT) (k : Nat) (f : Addr) (fd : FuncData) (ps : List Str) (sp : Sp) : Prop where
  len : ∀ vs H Q E, sp vs H Q E → vs.length = ps.length
  run : ∀ (A : Around) (outer : List Env) (s : Shared) (H : Hp) (args : Args) (us : List Value) (vs : List V) (Q : VK) (E : XK), A.guards = some [] → Room k A → Env0 P w K mg base A outer s H → BindsTo s fd args (ps.zip us) → Vals vs us → sp vs H Q E →
    codeAny (model P w) A (.call (.ref f) args) (CR CX outer P w H s Q E) s
section
variable {CX : CXT} {P : Program} {w : World} {K : PySem.W.Frag} {mg : Str → Option Value} {base : Heap} {x qual : Str} {params : Arguments} {body : List Stmt} {scope : Scope} {f : Addr} {fd : FuncData}
theorem okG {N ps : List Str} {k : Nat} {sp : Sp} (F : FunD K x qual params body scope [] [] f fd) (S : FnScope N ps scope) (len : ∀ vs H Q E, sp vs H Q E → vs.length = ps.length)
    (hbody : ∀ (cdv : Value) (A : Around) (outer : List Env) (s : Shared) (H : Hp) (vs : List V) (Q : VK) (E : XK), A.guards = some [] → Room k (A.deeper (envOfC qual scope s.heap.objs.size f cdv)) → sp vs H Q E →
      ∃ t, PSs (cxOf CX P w K mg base N qual scope f cdv A outer s H E) body t ∧ t { nx := fun _ H' => Q .non H', rt := Q } (L2.start N vs) H) : FnG P w K mg base CX (k + 1) f fd ps sp := by
  obtain ⟨oc, od, dV, kV, doc, pm, an, cdv, ct, osl, rfl, lk, hcd, _, _⟩ := F.ex
  refine ⟨len, fun A outer s H args us vs Q E hgd hr e0 hb r hsp => ?_⟩
  have hl := len _ _ _ _ hsp
  have KX : K.In s.heap := e0.mod.kin.keeps fun b o e => (e0.bs b o e).1
  have hk : ∀ y ∈ ps.zip us, scope.names.lookup y.1 = some .local ∨ (scope.names.lookup y.1 = some .cell ∧ ((cellsFrom (s.heap.objs.size + 1) scope.names []).lookup y.1).isSome = true) := fun y hy =>
    (S.par y.1 (List.of_mem_zip hy).1).imp id fun q => ⟨q, PySem.W.cellsFrom_some _ _ _ (.inl q)⟩
  refine codeAny_call_function hr.depth (KX _ _ lk) rfl S.co S.gen rfl (PySem.W.codeRec_of KX hcd) (hb _ _ _ _ (wpAny_newFunctionEnv_cells S.kind hk fun env he s1 g => ?_))
  subst he
  refine ⟨(e0.mod.nolimit.keeps fun b o e => (e0.bs b o e).1).keeps g.toInCall.keep, codeAny_func ?_⟩
  obtain ⟨t, ht, hq⟩ := hbody cdv A outer s H vs Q E hgd (hr.deeper _) hsp
  refine wpAny_mono (ht.run [] s1 (L2.start N vs) H _ (inv_start S hr.hd e0 hl r g) hq) (fun fl s' hs => ?_) fun _ _ hs => hs
  cases fl with
  | brk => exact hs.elim fun _ z => z.elim fun _ z => False.elim z.2
  | cont => exact hs.elim fun _ z => z.elim fun _ z => False.elim z.2
  | next =>
    obtain ⟨_, H', J, q⟩ := hs
    exact ⟨V.non, H', J.os, J.bare, J.base, J.hok, rfl, q⟩
  | ret u =>
    obtain ⟨v, _, H', J, rv, q⟩ := hs
    exact ⟨v, H', J.os, J.bare, J.base, J.hok, rv, q⟩
end
/-- a def by its name -/
structure DefG (P : Program) (w : World) (K : PySem.W.Frag) (mg : Str → Option Value) (base : Heap) (CX : CXT) (k : Nat) (x : Str) (ps : List Str) (sp : Sp) : Prop where
  ex : ∃ f fd, mg x = some (.ref f) ∧ PySem.W.keepIn K (.ref f) = true ∧ FnG P w K mg base CX k f fd ps sp ∧ Binds K fd ps []
section
variable {X : Cx} {CX : CXT} {k : Nat} {x : Str} {ps : List Str} {sp : Sp} {E : XK} {e : Expr} {es : List Expr} {t : TA} {p pos : Pos}
theorem pe_defG (D : DefG X.prog X.w X.K X.mg X.base CX k x ps sp) (hgd : X.A.guards = some []) (hr : Room k X.A) (hx : Passes CX X E) (hg : Gl X x) (ha : PA X (e :: es) t)
    (hdb : (x == ("__debug__" : Str)) = false := by decide +kernel) (he : starEach (e :: es) X.env = (false, eval e X.env) :: starEach es X.env := by rfl)
    (hpl : (backTo pos (starEach es X.env)).any (·.1) = false := by rfl) : PE X (.Call (.Name x p) (e :: es) [] pos) (fun σ H Q => t σ H fun vs H1 => sp vs H1 Q E) := by
  obtain ⟨f, fd, g, kp, F, b⟩ := D.ex
  refine ⟨fun pins s σ H Q I h => wpAny_Call_Name_kw (ld_glob I hg g ?_ hdb)⟩
  refine PySem.W.callWith_K (h₀ := X.base) I.ok.mod.kin kp (thn (ha.run pos pins s σ H _ I h) fun us s1 ⟨vs, H1, I1, r, q⟩ => ⟨I1.kIn, ?_⟩) he hpl
  have b' := b s1 us I1.kIn (by rw [List.append_nil, ← r.length]; exact F.len _ _ _ _ q)
  rw [List.append_nil] at b'
  refine wpAny_call (codeAny_mono (F.run X.A X.stack s1 H1 ⟨us, []⟩ us vs Q E hgd hr I1.env0 b' r q) fun r' s' hq => ?_)
  cases r' with
  | error e => exact hx pins σ H1 s1 e s' I1 hq
  | ok fl =>
    cases fl with
    | ret u => exact I1.after hq
    | next => exact False.elim hq
    | brk => exact False.elim hq
    | cont => exact False.elim hq
end
/-! ### repr of a list of ints -/
abbrev reprL (ns : List Int) : Str := (PyData.list (ns.map PyData.int)).shown
theorem reads_ints {h : Heap} : ∀ {ns : List Int} {us : List Value}, Vals (ns.map V.int) us → ReadsAll h us (ns.map PyData.int) []
  | [], _, r => by
    rw [List.map_nil] at r
    cases r
    exact .nil
  | n :: ns, _, r => by
    rw [List.map_cons] at r
    cases r with
    | cons a b =>
      obtain ⟨t, rfl⟩ := (show ∃ t, _ = Value.int n t from a)
      exact .cons (.int n t) (reads_ints b)
theorem ints_noDict : ∀ (ns : List Int), PyData.hasDictAll (ns.map PyData.int) = false
  | [] => rfl
  | n :: ns => by rw [List.map_cons, PyData.hasDictAll, PyData.hasDict, ints_noDict ns]; rfl
theorem ints_depth : ∀ (ns : List Int), PyData.depthAll (ns.map PyData.int) = 0
  | [] => rfl
  | n :: ns => by rw [List.map_cons, PyData.depthAll, PyData.depth, ints_depth ns]; rfl
theorem call_reprInts {X : Cx} (hg : X.A.guards = some []) (hu : X.A.units + 9 < cLine) : CallR X (.builtin "repr") (fun xs H Q => ∃ p ns, xs = [.ref p] ∧ SqL X.K H p (ns.map V.int) ∧ (PyData.list (ns.map PyData.int)).showable = true ∧ (reprL ns).length ≤ sizeLine ∧ Q (.str (reprL ns)) H) := by
  intro pins s σ H xs us Q I r h
  obtain ⟨p, ns, rfl, hq, sh, hz, q⟩ := h
  obtain ⟨u, rfl, e⟩ := vals1 r
  cases e
  obtain ⟨its, rv, ⟨o, n, e1, e2, e3, e4⟩, _⟩ := I.list hq
  refine repr_of_reads' (h₀ := s.heap) (.list e1 e2 e4 (by rw [List.toList_toArray]; exact reads_ints rv)) sh (fun z => ?_) hg ?_ (fun _ _ z => z) (fun h' u tk hk => ?_) hz
  · rw [PyData.hasDict, ints_noDict] at z
    cases z
  · rw [PyData.depth, ints_depth]
    omega
  · exact ⟨.str (reprL ns), H, I.kept hk, ⟨u, rfl⟩, q⟩
theorem small_text : ∀ n : Nat, n < 300 → ((PyData.int (n : Nat)).shown).length ≤ 3 := by decide +kernel
theorem small_show : ∀ n : Nat, n < 300 → (PyData.int (n : Nat)).showable = true := by decide +kernel
theorem repr_small : ∀ {ns : List Nat}, (∀ n ∈ ns, n < 300) → PyData.showableAll ((ns.map fun n => ((n : Nat) : Int)).map PyData.int) = true ∧ ((PyData.shownAll ((ns.map fun n => ((n : Nat) : Int)).map PyData.int)).map (·.length)).sum ≤ 3 * ns.length ∧ (PyData.shownAll ((ns.map fun n => ((n : Nat) : Int)).map PyData.int)).length = ns.length
  | [], _ => ⟨rfl, Nat.le_refl _, rfl⟩
  | n :: ns, h => by
    obtain ⟨a, b, c⟩ := repr_small (ns := ns) fun m hm => h m (List.mem_cons_of_mem _ hm)
    have h1 := small_text n (h n List.mem_cons_self)
    have h2 := small_show n (h n List.mem_cons_self)
    rw [List.map_cons, List.map_cons]
    refine ⟨?_, ?_, ?_⟩
    · rw [PyData.showableAll, h2, a]
      rfl
    · rw [PyData.shownAll, List.map_cons, List.sum_cons, List.length_cons]
      omega
    · rw [PyData.shownAll, List.length_cons, c, List.length_cons]
/-- repr of numbers below 300 -/
theorem reprOk {ns : List Nat} (h : ∀ n ∈ ns, n < 300) (l : ns.length ≤ 100000) : (PyData.list ((ns.map fun n => ((n : Nat) : Int)).map PyData.int)).showable = true ∧ (reprL (ns.map fun n => ((n : Nat) : Int))).length ≤ sizeLine := by
  obtain ⟨a, b, c⟩ := repr_small h
  refine ⟨by rw [PyData.showable]; exact a, ?_⟩
  have := listText_len_le (PyData.shownAll ((ns.map fun n => ((n : Nat) : Int)).map PyData.int))
  unfold reprL
  rw [PyData.shown, sizeLine_eq]
  omega
end Lf

set_option Elab.async false
set_option linter.all false
set_option maxRecDepth 100000
set_option maxHeartbeats 4000000
/-! try: .. except X as e: .. except Y: ..; what a suite asks of e: isinstance, told(). -/
namespace Lf
open PySem PySem.Spec PyProof.Rows L2
/-- clauses: the first one by a name, the others without -/
def wAsM (K : PySem.W.Frag) (c : Value) (i : Nat) (ts : Addr → Value → Option Addr → TS) (rest : Ends → WX) (D : Ends) : WX := fun cls d σ H =>
  ∃ b, PySem.W.exmOne K cls c = some b ∧ (b = true → ∀ a, H a = none → ts a cls d ⟨fun σ' H' => D.nx (σ'.set i none) H', D.rt, fun σ' H' => D.bk (σ'.set i none) H', fun σ' H' => D.ct (σ'.set i none) H'⟩ (σ.set i (some (.ref a))) H) ∧ (b = false → rest D cls d σ H)
/-- with as many slots as there are names -/
def wLen (n : Nat) (W : WX) : WX := fun cls d σ H => σ.length = n → W cls d σ H
section
variable {X : Cx} {x n : Str} {c : Value} {i : Nat} {body suite : List Stmt} {b1 : Stmt} {np pos p3 : Pos} {tb : WX → TS} {ts : Addr → Value → Option Addr → TS} {Wout : WX} {more : List ExceptHandler} {l : List (Value × (Addr → Value → Option Addr → TS))}
theorem ps_try_asM (st : X.stack = X.env :: X.outer) (fr : X.env.frame = some X.env.locals) (nd : X.N.Nodup) (ni : X.N[i]? = some n) (kd : X.env.kindOf n = some .local) (nm : Names X x c) (tk : Takes X Wout)
    (inner : ∀ (W : WX) (pn : List (Addr × Obj)) (xe : Value → Shared → Prop), Takes (X.tr pn xe) W → PassesOwn (model X.prog X.w) X.A X.env xe → PSs (X.tr pn xe) body (tb W))
    (first : ∀ (a : Addr) (o : Obj) (cls : Value) (d : Option Addr) (pn : List (Addr × Obj)), Zc cls d o → (∃ vs, o.data = .fields vs) → PSs (X.suite a ((a, o) :: pn)) (b1 :: suite) (ts a cls d)) (others : HdsOk X more l) :
    PS X (.Try body (.ExceptHandler (some (.Name x np)) (some n) (b1 :: suite) p3 :: more) [] [] pos) (fun D σ H => tb (wLen X.N.length (wAsM X.K c i ts (fun D => wMany X.K Wout D l) D)) D σ H) := by
  refine ⟨fun pins s σ H D I0 h => ?_⟩
  have ok := I0.ok
  have fa : X.A.frames = some (X.env :: X.outer) := by rw [ok.frames, st]
  have lc : Loc X.env.scope n := .inl kd
  refine wpAny_Try_except ?_
  refine wpAny_mono ((inner (wLen X.N.length (wAsM X.K c i ts (fun D => wMany X.K Wout D l) D)) (X.pn ++ pins) (fun e s1 => wpAny (model X.prog X.w) X.A (noteFrame e X.env) (fun _ s2 => wpAny (model X.prog X.w) X.A (setFlight e none) (fun _ s3 =>
    wpAny (model X.prog X.w) X.A (handleBy e X.env (.ExceptHandler (some (.Name x np)) (some n) (b1 :: suite) p3 :: more)) (SP X pins D) X.xe s3) X.xe s2) X.xe s1) (fun u s' q => ?_) PassesOwn.looking).run [] s σ H D (I0.toTry _) h) (fun f s1 q => ?_) (fun e s1 q => q)
  · obtain ⟨a, B, sI, pins', σ', H', cls, d, rfl, J', nb, up, sky, na, os, ag, w⟩ := q
    have J0 : Inv X pins σ' H' sI := J'.ofTry ok
    have sk : Sky B (X.env :: X.outer) a (Zc cls d) X.env.locals s'.heap := by rw [← st]; exact sky
    show wpAny (model X.prog X.w) X.A (noteFrame (.ref a) X.env) _ _ _
    refine Sky.land Zc.steady fa fr sk fun h1 g1 u1 => ?_
    have J1 : Inv X pins σ' H' { s' with heap := h1 } := J0.landed nb g1.1 (up.trans u1) os ag
    obtain ⟨o1, v1, e1, z1, d1⟩ := g1.there
    have off : a ∉ frs (X.env :: X.outer) := fun hm => by
      obtain ⟨_, o', e', nf⟩ := g1.2.2.1.mem hm
      rw [e1] at e'
      cases e'
      exact nf _ d1
    have nL : a ≠ X.env.locals := fun z => off (List.mem_filterMap.mpr ⟨X.env, List.mem_cons_self, by rw [fr, z]⟩)
    have nF : a ∉ X.fs := fun hm => by
      obtain ⟨e, he, q⟩ := List.mem_filterMap.mp hm
      exact off (List.mem_filterMap.mpr ⟨e, List.mem_cons_of_mem _ he, q⟩)
    have S1 := J1.suite e1 d1 na nL nF
    have L1 : PySem.W.Looks (model X.prog X.w) h1 (typeOf (.ref a)) cls := fun A Q E s k q => wpAny_typeOf_ref (k _ _ e1) (by rw [z1.1]; exact q)
    have asks : ∀ {y : Str} {cv : Value} {yp : Pos} {Q : Value → Shared → Prop} {E : Value → Shared → Prop}, Names X y cv → Q cv { s' with heap := h1 } → wpAny (model X.prog X.w) (X.A.mark (some (.ref a))) (eval (.Name y yp) X.env) Q E { s' with heap := h1 } := fun {y cv yp Q E} nm q => by
      obtain ⟨hg, hb, hm | ⟨hm, hv, hn⟩⟩ := nm
      · exact ld_glob (X := X.suite a ((a, o1) :: (X.pn ++ pins))) S1 hg hm q hb
      · exact ld_blt (X := X.suite a ((a, o1) :: (X.pn ++ pins))) S1 hg hm hv q hn hb
    have rest : ∀ {hs : List ExceptHandler} {l' : List (Value × (Addr → Value → Option Addr → TS))}, HdsOk X hs l' → wMany X.K Wout D l' cls d σ' H' →
        wpAny (model X.prog X.w) X.A (handleBy (.ref a) X.env hs) (SP X pins D) X.xe { s' with heap := h1 } := by
      intro hs l' hk
      induction hk with
      | nil =>
        intro w
        refine wpAny_handleBy_nil ?_
        obtain ⟨k1, k2, k3, oe, vs, T, oT, ts', he, hz, hd, f1, hr⟩ := id g1
        unfold PySem.passOn
        refine wpAny_bind (wpAny_field he hd f1 ?_)
        rw [if_neg (show ¬ ((Value.ref T == Value.none) = true) from by simp)]
        have out : wpAny (model X.prog X.w) X.A (setFlight (.ref a) X.env.frame) (fun _ s4 => wpAny (model X.prog X.w) X.A (throw (.ref a) : Sem Flow) (SP X pins D) X.xe s4) X.xe { s' with heap := h1 } := by
          rw [fr]
          exact HandSPX.setFlight_upZ g1 fun h2 b2 u2 => wpAny_throw (tk _ _ ⟨a, B, sI, pins, σ', H', cls, d, rfl, J0, nb, (up.trans u1).trans u2, .inr (.inr (by rw [st]; exact b2)), na, os, ag, w⟩)
        first
          | exact wpAny_bind (wpAny_pure (wpAny_bind out))
          | exact wpAny_bind out
      | @cons y cv ts2 c1 suite2 yp p4 more2 l2 nm2 hsu r ih =>
        intro w
        obtain ⟨b, hb1, yes, no⟩ := w
        refine wpAny_handleBy_cons (codeAny_handlers_test ?_) (by intro q; cases q)
        refine asks nm2 ((PySem.W.exm_one (M := model X.prog X.w) J1.kIn L1 hb1).here ?_)
        cases b with
        | true =>
          refine codeAny_handlers_suite ?_
          refine HandSPX.lands_againZ g1 fun h2 g2 u2 => ?_
          have J2 : Inv X pins σ' H' { s' with heap := h2 } := J0.landed nb g2.1 ((up.trans u1).trans u2) os ag
          obtain ⟨o2, v2, e2, z2, d2⟩ := g2.there
          refine wpAny_mono ((hsu a o2 cls d (X.pn ++ pins) z2 ⟨_, d2⟩).run [] _ _ H' _ (J2.suite e2 d2 na nL nF) (yes rfl a na)) (fun f s6 q => ?_) (fun _ _ z => False.elim z)
          cases f with
          | ret u =>
            obtain ⟨v6, σ6, H6, S6, r6, q6⟩ := q
            exact ⟨_, _, _, S6.unsuite ok, r6, q6⟩
          | next => obtain ⟨σ6, H6, S6, q6⟩ := q; exact ⟨_, _, S6.unsuite ok, q6⟩
          | brk => obtain ⟨σ6, H6, S6, q6⟩ := q; exact ⟨_, _, S6.unsuite ok, q6⟩
          | cont => obtain ⟨σ6, H6, S6, q6⟩ := q; exact ⟨_, _, S6.unsuite ok, q6⟩
        | false =>
          show wpAny _ X.A (handleBy (.ref a) X.env more2) _ _ _
          exact ih (no rfl)
    obtain ⟨b, hb1, yes, no⟩ := w J0.len
    refine wpAny_handleBy_cons (codeAny_handlers_test ?_) (by intro q; cases q)
    refine asks nm ((PySem.W.exm_one (M := model X.prog X.w) J1.kIn L1 hb1).here ?_)
    cases b with
    | false =>
      show wpAny _ X.A (handleBy (.ref a) X.env more) _ _ _
      exact rest others (no rfl)
    | true =>
      refine codeAny_handlers_suite_as ?_
      refine HandSPX.lands_againZ g1 fun h2 g2 u2 => ?_
      have J2 : Inv X pins σ' H' { s' with heap := h2 } := J0.landed nb g2.1 ((up.trans u1).trans u2) os ag
      obtain ⟨o2, v2, e2, z2, d2⟩ := g2.there
      refine store_ok (X := X.suite a ((a, o2) :: (X.pn ++ pins))) (v := .ref a) (J2.suite e2 d2 na nL nF) nd ni lc rfl (fun s5 S5 => ?_) (.inr kd)
      refine wpAny_mono ((first a o2 cls d (X.pn ++ pins) z2 ⟨_, d2⟩).run [] s5 _ H' _ S5 (yes rfl a na)) (fun f s6 q => ?_) (fun _ _ z => False.elim z)
      have gone : ∀ {σ6 : L2.St} {H6 : Hp} {Q : Shared → Prop}, Inv (X.suite a ((a, o2) :: (X.pn ++ pins))) [] σ6 H6 s6 → (∀ s7, Inv X pins (σ6.set i none) H6 s7 → Q s7) →
          wpAny (model X.prog X.w) X.A (do bindName X.env n .none; unbindBehindTheSuite X.env n p3) (fun _ s7 => Q s7) X.xe s6 := fun {σ6 H6 Q} S6 hq => gone_ok (S6.unsuite ok) nd ni kd hq
      cases f with
      | ret u =>
        obtain ⟨v6, σ6, H6, S6, r6, q6⟩ := q
        exact gone S6 fun s7 J7 => ⟨_, _, _, J7, r6, q6⟩
      | next => obtain ⟨σ6, H6, S6, q6⟩ := q; exact gone S6 fun s7 J7 => ⟨_, _, J7, q6⟩
      | brk => obtain ⟨σ6, H6, S6, q6⟩ := q; exact gone S6 fun s7 J7 => ⟨_, _, J7, q6⟩
      | cont => obtain ⟨σ6, H6, S6, q6⟩ := q; exact gone S6 fun s7 J7 => ⟨_, _, J7, q6⟩
  · cases f with
    | ret u =>
      obtain ⟨v, σ', H', J', r, q⟩ := q
      exact ⟨v, σ', H', J'.ofTry ok, r, q⟩
    | next => obtain ⟨σ', H', J', q⟩ := q; exact wpAny_execs_nil ⟨σ', H', J'.ofTry ok, q⟩
    | brk => obtain ⟨σ', H', J', q⟩ := q; exact ⟨σ', H', J'.ofTry ok, q⟩
    | cont => obtain ⟨σ', H', J', q⟩ := q; exact ⟨σ', H', J'.ofTry ok, q⟩
end

/-- a block by a reading that is chosen when its slots and heap are known -/
theorem pss_some {X : Cx} {b : List Stmt} {ts : TS} (h : ∀ D σ H, ts D σ H → ∃ t, PSs X b t ∧ t D σ H) : PSs X b ts := ⟨fun pins s σ H D I q => by
  obtain ⟨t, p, z⟩ := h D σ H q
  exact p.run pins s σ H D I z⟩
theorem pe_some {X : Cx} {e : Expr} {te : TE} (h : ∀ σ H Q, te σ H Q → ∃ t, PE X e t ∧ t σ H Q) : PE X e te := ⟨fun pins s σ H Q I q => by
  obtain ⟨t, p, z⟩ := h σ H Q q
  exact p.run pins s σ H Q I z⟩

/-! ### a def called while an exception is handled: it raises nothing -/
structure FnW (P : Program) (w : World) (K : PySem.W.Frag) (mg : Str → Option Value) (base : Heap) (k : Nat) (f : Addr) (fd : FuncData) (ps : List Str) (sp : Sp) : Prop where
  len : ∀ vs H Q E, sp vs H Q E → vs.length = ps.length
  run : ∀ (A : Around) (outer : List Env) (s : Shared) (H : Hp) (args : Args) (us : List Value) (vs : List V) (Q : VK) (p : Addr × Obj), L2H.RoomH k A → L2H.PinOk outer H s p → Env0 P w K mg base A outer s H → BindsTo s fd args (ps.zip us) → Vals vs us → sp vs H Q E0 →
    codeAny (model P w) A (.call (.ref f) args) (CR CX0 outer P w H s Q E0) s
section
variable {P : Program} {w : World} {K : PySem.W.Frag} {mg : Str → Option Value} {base : Heap} {x qual : Str} {params : Arguments} {body : List Stmt} {scope : Scope} {dvs : List V} {kws : List (Str × V)} {f : Addr} {fd : FuncData}
theorem fnW_of {N ps : List Str} {k : Nat} {sp : Sp} (F : FunD K x qual params body scope dvs kws f fd) (S : FnScope N ps scope) (len : ∀ vs H Q E, sp vs H Q E → vs.length = ps.length)
    (hbody : ∀ (cdv : Value) (A : Around) (outer : List Env) (s : Shared) (H : Hp) (vs : List V) (Q : VK) (p : Addr × Obj), L2H.RoomH k (A.deeper (envOfC qual scope s.heap.objs.size f cdv)) → sp vs H Q E0 →
      ∃ t, PSs (L2H.cxH CX0 P w K mg base N qual scope f cdv A outer s H E0 p) body t ∧ t { nx := fun _ H' => Q .non H', rt := Q } (L2.start N vs) H) : FnW P w K mg base (k + 1) f fd ps sp := by
  obtain ⟨oc, od, dV, kV, doc, pm, an, cdv, ct, osl, rfl, lk, cd, _, _⟩ := F.ex
  refine ⟨len, fun A outer s H args us vs Q p room pin env bd rel told => ?_⟩
  have ln := len _ _ _ _ told
  have KX : K.In s.heap := env.mod.kin.keeps fun b o e => (env.bs b o e).1
  have kinds : ∀ y ∈ ps.zip us, scope.names.lookup y.1 = some .local ∨ (scope.names.lookup y.1 = some .cell ∧ ((cellsFrom (s.heap.objs.size + 1) scope.names []).lookup y.1).isSome = true) := fun ⟨m, v⟩ hy =>
    (S.par m (List.of_mem_zip hy).1).imp id fun q => ⟨q, PySem.W.cellsFrom_some _ _ _ (.inl q)⟩
  refine codeAny_call_function room.depth (KX _ _ lk) rfl S.co S.gen rfl (PySem.W.codeRec_of KX cd) (bd _ _ _ _ ?_)
  refine wpAny_newFunctionEnv_cells S.kind kinds fun en he s1 inC => ?_
  subst he
  refine ⟨(env.mod.nolimit.keeps fun b o e => (env.bs b o e).1).keeps inC.toInCall.keep, codeAny_func ?_⟩
  obtain ⟨t, ht, hq⟩ := hbody cdv A outer s H vs Q p (room.deeper _) told
  have I0 := L2H.inv_startH (CX := CX0) (E := E0) S pin env ln rel inC
  refine wpAny_mono (ht.run [] s1 (L2.start N vs) H _ I0 hq) (fun fl s' hs => ?_) fun e s' hs => hs
  cases fl with
  | ret u =>
    obtain ⟨v, σ', H', J, rv, q⟩ := hs
    exact ⟨v, H', J.os, J.bare, J.base, J.hok, rv, q⟩
  | next =>
    obtain ⟨σ', H', J, q⟩ := hs
    exact ⟨V.non, H', J.os, J.bare, J.base, J.hok, rfl, q⟩
  | brk => obtain ⟨_, _, _, q⟩ := hs; exact q.elim
  | cont => obtain ⟨_, _, _, q⟩ := hs; exact q.elim
/-- told() of one text, there -/
theorem told_okW {t : Str} {j : Nat} {p p2 : Pos} (F : FunD K "told" qual params [.Return (some (.Constant (.str t) j p)) p2] scope [] [] f fd) (S : FnScope ["self"] ["self"] scope) : FnW P w K mg base 1 f fd ["self"] (spTold t) := by
  refine fnW_of F S (fun vs H Q E h => ?_) (fun cdv A outer s H vs Q pp hr h => ?_)
  · obtain ⟨v, rfl, _⟩ := h
    rfl
  · obtain ⟨v, rfl, q⟩ := h
    exact ⟨_, pss_one (ps_ret pe_str), q⟩
end
section
variable {X : Cx} {a C f : Addr} {o1 : Obj} {pn : List (Addr × Obj)} {d : Option Addr} {m : Str} {fd : FuncData} {sp : Sp} {k : Nat}
/-- the caught error as an instance -/
theorem caught_inst {pins : List (Addr × Obj)} {σ : L2.St} {H : Hp} {s : Shared} (I : Inv (X.suite a ((a, o1) :: pn)) pins σ H s) (z : Zc (.ref C) d o1) (fl : ∃ vs, o1.data = .fields vs) (hd : ∀ dx, d = some dx → ∃ fs, H dx = some (exd dx fs) ∧ fs.lookup m = none) :
    ∃ od, PySem.W.InstAt s.heap a o1 C od ∧ PySem.W.shadowIn od m = some false := by
  obtain ⟨g, _⟩ := I.pin (a, o1) (List.mem_append_left _ List.mem_cons_self)
  obtain ⟨vs, hv⟩ := fl
  have nc : PySem.W.notCls o1 = true := by unfold PySem.W.notCls; rw [hv] <;> rfl
  cases d with
  | none => exact ⟨none, ⟨g, z.1, nc, by rw [z.2]; trivial⟩, rfl⟩
  | some dx =>
    obtain ⟨fs, e, lk⟩ := hd dx rfl
    obtain ⟨mA, ns, rel⟩ := exd_at I.hok e
    obtain ⟨od, h2, hk⟩ := lookIn_ns ns
    refine ⟨some od, ⟨g, z.1, nc, by rw [z.2]; exact h2⟩, ?_⟩
    have hm : mA m = none := by
      have r := rel m
      rw [lk] at r
      cases y : mA m with
      | none => rfl
      | some v => rw [y] at r; exact r.elim
    show (PySem.W.lookIn m od).map _ = _
    rw [hk, hm]
    rfl
def tToldC (a : Addr) (d : Option Addr) (m : Str) (sp : Sp) (te : TE) : TE := fun σ H Q => te σ H fun x H1 => x = .ref a ∧ (∀ dx, d = some dx → ∃ fs, H1 dx = some (exd dx fs) ∧ fs.lookup m = none) ∧ sp [.ref a] H1 Q E0
/-- e.m() of the caught error e -/
theorem pe_toldC {o : Expr} {te : TE} {pos apos : Pos} {pl : Sem Bool} (T : IsC X.K C) (M : Meth X.K C m f) (F : FnW X.prog X.w X.K X.mg X.base k f fd ["self"] sp) (hb : L2.Binds X.K fd ["self"] []) (hr : L2H.RoomH k X.A) (z : Zc (.ref C) d o1) (fl : ∃ vs, o1.data = .fields vs)
    (he : PE (X.suite a ((a, o1) :: pn)) o te)
    (ht : eval (.Call (.Attribute o m apos) [] [] pos) X.env = (do
      let ov ← eval o X.env
      standAt apos.atName
      let (f, first) ← holding [ov] (getMethod ov m pl)
      callWith pos f first (backTo pos (starEach [] X.env)) (backToKw pos (keywordEach [] X.env))) := by rfl) :
    PE (X.suite a ((a, o1) :: pn)) (.Call (.Attribute o m apos) [] [] pos) (tToldC a d m sp te) := by
  refine ⟨fun pins s σ H Q I h => ?_⟩
  refine PySem.W.methodCall_KW (pl := pl) (thn (he.run pins s σ H _ I h) fun u s1 hh => ?_) ht
  obtain ⟨x, H1, I1, rx, rfl, hd, q⟩ := hh
  obtain rfl : u = Value.ref a := rx
  obtain ⟨mm, fr⟩ := I1.fr
  obtain ⟨od, J, sh⟩ := caught_inst I1 z fl hd
  refine PySem.W.method_exc fr I1.ok.mod.kin J T.ga T.gg M.at_ M.fn sh (PySem.W.callWith_K0 (first := [.ref a]) I1.kIn M.kp ?_)
  have pin := I1.pin (a, o1) (List.mem_append_left _ List.mem_cons_self)
  have pk : L2H.PinOk (X.suite a ((a, o1) :: pn)).stack H1 s1 (a, o1) := ⟨pin.1, pin.2.1, fun hm => (List.mem_cons.mp (I1.stkSub _ hm)).elim pin.2.2.1 pin.2.2.2.1, pin.2.2.2.2⟩
  have room : L2H.RoomH k (X.suite a ((a, o1) :: pn)).A := ⟨hr.dp, hr.un⟩
  have bd := hb s1 [.ref a] I1.kIn rfl
  refine wpAny_call (codeAny_mono (F.run _ _ s1 H1 ⟨[.ref a], []⟩ [.ref a] [.ref a] Q (a, o1) room pk I1.env0 (by simpa using bd) (.cons rfl .nil) q) fun r s' hq => ?_)
  cases r with
  | error e => exact (show False from hq).elim
  | ok fl' =>
    cases fl' with
    | ret u => exact I1.after hq
    | next => exact hq.elim
    | brk => exact hq.elim
    | cont => exact hq.elim
/-- isinstance(e, c), e the caught error -/
def rIsC (K : PySem.W.Frag) (a C : Addr) (d : Option Addr) : List V → Hp → VK → Prop := fun xs H Q => ∃ (c : V) (cv : Value) (b : Bool),
  xs = [.ref a, c] ∧ ClsV c cv ∧ (∀ dx, d = some dx → ∃ fs, H dx = some (exd dx fs) ∧ fs.lookup ("__class__" : Str) = none) ∧ PySem.W.kitOne K (.ref C) cv = some b ∧ Q (.bl b) H
theorem call_isC (T : IsC X.K C) (z : Zc (.ref C) d o1) (fl : ∃ vs, o1.data = .fields vs) : CallR (X.suite a ((a, o1) :: pn)) (.builtin "isinstance") (rIsC X.K a C d) := by
  intro pins s σ H xs us Q I r h
  obtain ⟨c, cv, b, rfl, k, hd, e, q⟩ := h
  obtain ⟨u1, u2, rfl, r1, r2⟩ := vals2 r
  obtain rfl := k.eq r2
  obtain rfl : u1 = Value.ref a := r1
  obtain ⟨od, J, _⟩ := caught_inst I z fl hd
  exact PySem.W.kia_one (PySem.W.kitx_exc (od := od) T.cl T.ga T.gg T.sb T.ca T.sg T.tk T.ob) I.kIn J e (fun z => nomatch z)
    fun tk => ⟨.bl b, H, I.kept (t' := tk) fun _ _ z => z, rfl, q⟩
end
end Lf

set_option Elab.async false
set_option linter.all false
set_option maxRecDepth 100000
set_option maxHeartbeats 4000000
/-! raise X(e) of an own class with its __init__; try with clauses of which any may have `as`; repr of data. -/
namespace Lf
open PySem PySem.Spec PyProof.Rows L2
/-- raise X(e) -/
def tMk1 (C : Addr) (fl : Str) (ta : TE) : L2.St → Hp → XK → Prop := fun σ H Q => ta σ H fun v H1 => ∀ d H', H1 d = none → Same H1 H' → H' d = some (.xd [(fl, v)]) → Q (.ref C) (some d) H'
theorem pmk_err1 {X : Cx} {x fl t : Str} {e : Expr} {ta : TE} {p pos : Pos} (E : Err1 X.prog X.w X.K X.mg X.base x fl t) (hr : Room 2 X.A) (hg : Gl X x) (ha : PE X e ta)
    (hdb : (x == ("__debug__" : Str)) = false := by decide) (hs : starEach [e] X.env = (false, eval e X.env) :: starEach [] X.env := by rfl) :
    PMk X (.Call (.Name x p) [e] [] pos) (tMk1 (He.ga X.K x) fl ta) := by
  obtain ⟨fI, fd, i1, i2, F, b⟩ := E.ini
  have M := pmk_oex (X := X) (pos := pos) (p := p) (dvs := []) E.c.o i1 i2 F hr b .nil pass0 hg E.g (pa_cons (PE.up ha) pa_nil hs) hdb hs rfl
  intro pins s σ H Q I h
  refine M pins s σ H Q I ?_
  refine ⟨_, h, fun v H1 k => ⟨(by show 1 ≤ 1000; decide), fun a na => ⟨a, v, rfl, upd_same, fun d nd ne => ?_⟩⟩⟩
  have nd1 : H1 d = none := by rw [upd_ne ne] at nd; exact nd
  refine ⟨rfl, d, [(fl, v)], upd_same, by rw [upd_ne ne]; exact upd_same, nd1, ?_⟩
  refine k d _ nd1 (fun b o q => ?_) upd_same
  have n1 := ne_of_none q na
  have n2 := ne_of_none q nd1
  rw [upd_ne n2, del_ne n1, upd_ne n1, upd_ne n2, upd_ne n1]
  exact q
/-! ### clauses, with a name or without -/
abbrev Cl := Value × Option Nat × (Addr → Value → Option Addr → TS)
def asEnds (i : Nat) (D : Ends) : Ends := ⟨fun σ' H' => D.nx (σ'.set i none) H', D.rt, fun σ' H' => D.bk (σ'.set i none) H', fun σ' H' => D.ct (σ'.set i none) H'⟩
def wA (K : PySem.W.Frag) (Wout : WX) (D : Ends) : List Cl → WX
  | [] => Wout
  | (c, none, ts) :: r => fun cls d σ H => ∃ b, PySem.W.exmOne K cls c = some b ∧ (b = true → ∀ a, H a = none → ts a cls d D σ H) ∧ (b = false → wA K Wout D r cls d σ H)
  | (c, some i, ts) :: r => fun cls d σ H => ∃ b, PySem.W.exmOne K cls c = some b ∧ (b = true → ∀ a, H a = none → ts a cls d (asEnds i D) (σ.set i (some (.ref a))) H) ∧ (b = false → wA K Wout D r cls d σ H)
inductive HdA (X : Cx) : List ExceptHandler → List Cl → Prop
  | nil : HdA X [] []
  | plain {x : Str} {c : Value} {ts : Addr → Value → Option Addr → TS} {b1 : Stmt} {suite : List Stmt} {np p3 : Pos} {hds : List ExceptHandler} {l : List Cl} (nm : Names X x c)
      (hsu : ∀ (a : Addr) (o : Obj) (cls : Value) (d : Option Addr) (pn : List (Addr × Obj)), Zc cls d o → (∃ vs, o.data = .fields vs) → PSs (X.suite a ((a, o) :: pn)) (b1 :: suite) (ts a cls d)) (r : HdA X hds l) :
      HdA X (.ExceptHandler (some (.Name x np)) none (b1 :: suite) p3 :: hds) ((c, none, ts) :: l)
  | as {x n : Str} {c : Value} {i : Nat} {ts : Addr → Value → Option Addr → TS} {b1 : Stmt} {suite : List Stmt} {np p3 : Pos} {hds : List ExceptHandler} {l : List Cl} (nm : Names X x c) (ni : X.N[i]? = some n) (kd : X.env.kindOf n = some .local)
      (hsu : ∀ (a : Addr) (o : Obj) (cls : Value) (d : Option Addr) (pn : List (Addr × Obj)), Zc cls d o → (∃ vs, o.data = .fields vs) → PSs (X.suite a ((a, o) :: pn)) (b1 :: suite) (ts a cls d)) (r : HdA X hds l) :
      HdA X (.ExceptHandler (some (.Name x np)) (some n) (b1 :: suite) p3 :: hds) ((c, some i, ts) :: l)
section
variable {X : Cx} {body : List Stmt} {h0 : ExceptHandler} {hds : List ExceptHandler} {l : List Cl} {pos : Pos} {tb : WX → TS} {Wout : WX}
theorem ps_tryA (st : X.stack = X.env :: X.outer) (fr : X.env.frame = some X.env.locals) (nd : X.N.Nodup) (tk : Takes X Wout)
    (inner : ∀ (W : WX) (pn : List (Addr × Obj)) (xe : Value → Shared → Prop), Takes (X.tr pn xe) W → PassesOwn (model X.prog X.w) X.A X.env xe → PSs (X.tr pn xe) body (tb W))
    (hh : HdA X (h0 :: hds) l) : PS X (.Try body (h0 :: hds) [] [] pos) (fun D σ H => tb (wLen X.N.length (wA X.K Wout D l)) D σ H) := by
  refine ⟨fun pins s σ H D I0 h => ?_⟩
  have ok := I0.ok
  have fa : X.A.frames = some (X.env :: X.outer) := by rw [ok.frames, st]
  refine wpAny_Try_except ?_
  refine wpAny_mono ((inner (wLen X.N.length (wA X.K Wout D l)) (X.pn ++ pins) (fun e s1 => wpAny (model X.prog X.w) X.A (noteFrame e X.env) (fun _ s2 => wpAny (model X.prog X.w) X.A (setFlight e none) (fun _ s3 =>
    wpAny (model X.prog X.w) X.A (handleBy e X.env (h0 :: hds)) (SP X pins D) X.xe s3) X.xe s2) X.xe s1) (fun u s' q => ?_) PassesOwn.looking).run [] s σ H D (I0.toTry _) h) (fun f s1 q => ?_) (fun e s1 q => q)
  · obtain ⟨a, B, sI, pins', σ', H', cls, d, rfl, J', nb, up, sky, na, os, ag, w⟩ := q
    have J0 : Inv X pins σ' H' sI := J'.ofTry ok
    have sk : Sky B (X.env :: X.outer) a (Zc cls d) X.env.locals s'.heap := by rw [← st]; exact sky
    show wpAny (model X.prog X.w) X.A (noteFrame (.ref a) X.env) _ _ _
    refine Sky.land Zc.steady fa fr sk fun h1 g1 u1 => ?_
    have J1 : Inv X pins σ' H' { s' with heap := h1 } := J0.landed nb g1.1 (up.trans u1) os ag
    obtain ⟨o1, v1, e1, z1, d1⟩ := g1.there
    have off : a ∉ frs (X.env :: X.outer) := fun hm => by
      obtain ⟨_, o', e', nf⟩ := g1.2.2.1.mem hm
      rw [e1] at e'
      cases e'
      exact nf _ d1
    have nL : a ≠ X.env.locals := fun z => off (List.mem_filterMap.mpr ⟨X.env, List.mem_cons_self, by rw [fr, z]⟩)
    have nF : a ∉ X.fs := fun hm => by
      obtain ⟨e, he, q⟩ := List.mem_filterMap.mp hm
      exact off (List.mem_filterMap.mpr ⟨e, List.mem_cons_of_mem _ he, q⟩)
    have S1 := J1.suite e1 d1 na nL nF
    have L1 : PySem.W.Looks (model X.prog X.w) h1 (typeOf (.ref a)) cls := fun A Q E s k q => wpAny_typeOf_ref (k _ _ e1) (by rw [z1.1]; exact q)
    have asks : ∀ {y : Str} {cv : Value} {yp : Pos} {Q : Value → Shared → Prop} {E : Value → Shared → Prop}, Names X y cv → Q cv { s' with heap := h1 } → wpAny (model X.prog X.w) (X.A.mark (some (.ref a))) (eval (.Name y yp) X.env) Q E { s' with heap := h1 } := fun {y cv yp Q E} nm q => by
      obtain ⟨hg, hb, hm | ⟨hm, hv, hn⟩⟩ := nm
      · exact ld_glob (X := X.suite a ((a, o1) :: (X.pn ++ pins))) S1 hg hm q hb
      · exact ld_blt (X := X.suite a ((a, o1) :: (X.pn ++ pins))) S1 hg hm hv q hn hb
    have rest : ∀ {hs : List ExceptHandler} {l' : List Cl}, HdA X hs l' → wA X.K Wout D l' cls d σ' H' →
        wpAny (model X.prog X.w) X.A (handleBy (.ref a) X.env hs) (SP X pins D) X.xe { s' with heap := h1 } := by
      intro hs l' hk
      induction hk with
      | nil =>
        intro w
        refine wpAny_handleBy_nil ?_
        obtain ⟨k1, k2, k3, oe, vs, T, oT, ts', he, hz, hd, f1, hr⟩ := id g1
        unfold PySem.passOn
        refine wpAny_bind (wpAny_field he hd f1 ?_)
        rw [if_neg (show ¬ ((Value.ref T == Value.none) = true) from by simp)]
        have out : wpAny (model X.prog X.w) X.A (setFlight (.ref a) X.env.frame) (fun _ s4 => wpAny (model X.prog X.w) X.A (throw (.ref a) : Sem Flow) (SP X pins D) X.xe s4) X.xe { s' with heap := h1 } := by
          rw [fr]
          exact HandSPX.setFlight_upZ g1 fun h2 b2 u2 => wpAny_throw (tk _ _ ⟨a, B, sI, pins, σ', H', cls, d, rfl, J0, nb, (up.trans u1).trans u2, .inr (.inr (by rw [st]; exact b2)), na, os, ag, w⟩)
        first
          | exact wpAny_bind (wpAny_pure (wpAny_bind out))
          | exact wpAny_bind out
      | @plain y cv ts2 c1 suite2 yp p4 more2 l2 nm2 hsu r ih =>
        intro w
        obtain ⟨b, hb1, yes, no⟩ := w
        refine wpAny_handleBy_cons (codeAny_handlers_test ?_) (by intro q; cases q)
        refine asks nm2 ((PySem.W.exm_one (M := model X.prog X.w) J1.kIn L1 hb1).here ?_)
        cases b with
        | true =>
          refine codeAny_handlers_suite ?_
          refine HandSPX.lands_againZ g1 fun h2 g2 u2 => ?_
          have J2 : Inv X pins σ' H' { s' with heap := h2 } := J0.landed nb g2.1 ((up.trans u1).trans u2) os ag
          obtain ⟨o2, v2, e2, z2, d2⟩ := g2.there
          refine wpAny_mono ((hsu a o2 cls d (X.pn ++ pins) z2 ⟨_, d2⟩).run [] _ _ H' _ (J2.suite e2 d2 na nL nF) (yes rfl a na)) (fun f s6 q => ?_) (fun _ _ z => False.elim z)
          cases f with
          | ret u =>
            obtain ⟨v6, σ6, H6, S6, r6, q6⟩ := q
            exact ⟨_, _, _, S6.unsuite ok, r6, q6⟩
          | next => obtain ⟨σ6, H6, S6, q6⟩ := q; exact ⟨_, _, S6.unsuite ok, q6⟩
          | brk => obtain ⟨σ6, H6, S6, q6⟩ := q; exact ⟨_, _, S6.unsuite ok, q6⟩
          | cont => obtain ⟨σ6, H6, S6, q6⟩ := q; exact ⟨_, _, S6.unsuite ok, q6⟩
        | false =>
          show wpAny _ X.A (handleBy (.ref a) X.env more2) _ _ _
          exact ih (no rfl)
      | @as y n cv i ts2 c1 suite2 yp p4 more2 l2 nm2 ni kd hsu r ih =>
        intro w
        obtain ⟨b, hb1, yes, no⟩ := w
        refine wpAny_handleBy_cons (codeAny_handlers_test ?_) (by intro q; cases q)
        refine asks nm2 ((PySem.W.exm_one (M := model X.prog X.w) J1.kIn L1 hb1).here ?_)
        cases b with
        | false =>
          show wpAny _ X.A (handleBy (.ref a) X.env more2) _ _ _
          exact ih (no rfl)
        | true =>
          refine codeAny_handlers_suite_as ?_
          refine HandSPX.lands_againZ g1 fun h2 g2 u2 => ?_
          have J2 : Inv X pins σ' H' { s' with heap := h2 } := J0.landed nb g2.1 ((up.trans u1).trans u2) os ag
          obtain ⟨o2, v2, e2, z2, d2⟩ := g2.there
          have lc : Loc X.env.scope n := .inl kd
          refine store_ok (X := X.suite a ((a, o2) :: (X.pn ++ pins))) (v := .ref a) (J2.suite e2 d2 na nL nF) nd ni lc rfl (fun s5 S5 => ?_) (.inr kd)
          refine wpAny_mono ((hsu a o2 cls d (X.pn ++ pins) z2 ⟨_, d2⟩).run [] s5 _ H' _ S5 (yes rfl a na)) (fun f s6 q => ?_) (fun _ _ z => False.elim z)
          have gone : ∀ {σ6 : L2.St} {H6 : Hp} {Q : Shared → Prop}, Inv (X.suite a ((a, o2) :: (X.pn ++ pins))) [] σ6 H6 s6 → (∀ s7, Inv X pins (σ6.set i none) H6 s7 → Q s7) →
              wpAny (model X.prog X.w) X.A (do bindName X.env n .none; unbindBehindTheSuite X.env n p4) (fun _ s7 => Q s7) X.xe s6 := fun {σ6 H6 Q} S6 hq => gone_ok (S6.unsuite ok) nd ni kd hq
          cases f with
          | ret u =>
            obtain ⟨v6, σ6, H6, S6, r6, q6⟩ := q
            exact gone S6 fun s7 J7 => ⟨_, _, _, J7, r6, q6⟩
          | next => obtain ⟨σ6, H6, S6, q6⟩ := q; exact gone S6 fun s7 J7 => ⟨_, _, J7, q6⟩
          | brk => obtain ⟨σ6, H6, S6, q6⟩ := q; exact gone S6 fun s7 J7 => ⟨_, _, J7, q6⟩
          | cont => obtain ⟨σ6, H6, S6, q6⟩ := q; exact gone S6 fun s7 J7 => ⟨_, _, J7, q6⟩
    exact rest hh (w J0.len)
  · cases f with
    | ret u =>
      obtain ⟨v, σ', H', J', r, q⟩ := q
      exact ⟨v, σ', H', J'.ofTry ok, r, q⟩
    | next => obtain ⟨σ', H', J', q⟩ := q; exact wpAny_execs_nil ⟨σ', H', J'.ofTry ok, q⟩
    | brk => obtain ⟨σ', H', J', q⟩ := q; exact ⟨σ', H', J'.ofTry ok, q⟩
    | cont => obtain ⟨σ', H', J', q⟩ := q; exact ⟨σ', H', J'.ofTry ok, q⟩
end
/-! ### repr of data -/
theorem call_reprD {X : Cx} (hg : X.A.guards = some []) (hu : X.A.units + 9 < cLine) : CallR X (.builtin "repr") (fun xs H Q => ∃ v d, xs = [v] ∧ Dp X.K H v d ∧ d.showable = true ∧ d.hasDict = false ∧ d.depth ≤ 7 ∧ d.shown.length ≤ sizeLine ∧ Q (.str d.shown) H) := by
  intro pins s σ H xs us Q I r h
  obtain ⟨v, d, rfl, hd, sh, nd, dp, hz, q⟩ := h
  obtain ⟨u, rfl, rv⟩ := vals1 r
  obtain ⟨as, rd⟩ := Dp.reads I d v u hd rv
  cases rd with
  | none => exact P.repr_of_none ⟨.str "None", H, I.tok _, ⟨_, rfl⟩, q⟩
  | bool b =>
    refine P.repr_of_bool ⟨.str _, H, I.tok _, ⟨_, rfl⟩, ?_⟩
    exact q
  | int i t =>
    refine P.repr_of_int (by simpa [PyData.showable] using sh) ⟨.str _, H, I.tok _, ⟨_, rfl⟩, ?_⟩
    exact q
  | str x t =>
    refine P.repr_of_str ⟨.str _, H, I.tok _, ⟨_, rfl⟩, ?_⟩ hz
    exact q
  | list h1 h2 h3 h4 =>
    refine repr_of_reads' (h₀ := s.heap) (.list h1 h2 h3 h4) sh (fun z => by rw [nd] at z; cases z) hg (by omega) (fun _ _ z => z) (fun h' u tk hk => ?_) hz
    exact ⟨.str _, H, I.kept hk, ⟨u, rfl⟩, q⟩
  | tuple h1 h2 h3 h4 =>
    refine repr_of_reads' (h₀ := s.heap) (.tuple h1 h2 h3 h4) sh (fun z => by rw [nd] at z; cases z) hg (by omega) (fun _ _ z => z) (fun h' u tk hk => ?_) hz
    exact ⟨.str _, H, I.kept hk, ⟨u, rfl⟩, q⟩
  | dict h1 h2 h3 h4 h5 => rw [PyData.hasDict] at nd; cases nd
end Lf

set_option Elab.async false
set_option linter.all false
set_option maxRecDepth 100000
set_option maxHeartbeats 8000000
namespace K14
open PySem PySem.Spec PyProof.Rows L2 Lf
theorem cyc_add {n : Nat} {f : List Nat} {L i : Nat} (C : Mon.Cyc n f L i) : ∀ k, Mon.pw n f (L + k) = Mon.pw n f (i + k)
  | 0 => C.again
  | k + 1 => by
    show Mon.comp (Mon.pw n f (L + k)) f = Mon.comp (Mon.pw n f (i + k)) f
    rw [cyc_add C k]
theorem pAt_pw {n : Nat} {f : List Nat} {L i : Nat} (C : Mon.Cyc n f L i) : ∀ (b c : Nat), c ≤ b → Mon.pw n f (pAt L i c) = Mon.pw n f c := fun b => by
  have il := C.lt
  induction b with
  | zero =>
    intro c hc
    unfold pAt
    rw [if_pos (by omega)]
  | succ b ih =>
    intro c hc
    by_cases h : c < L
    · unfold pAt
      rw [if_pos h]
    · have q := ih (i + (c - L)) (by omega)
      have e := cyc_add C (c - L)
      rw [show L + (c - L) = c by omega] at e
      rw [e, ← q]
      congr 1
      unfold pAt
      rw [if_neg h]
      by_cases h2 : i + (c - L) < L
      · rw [if_pos h2, show c - i = (c - L) + (L - i) by omega, Nat.add_mod_right, Nat.mod_eq_of_lt (by omega)]
      · rw [if_neg h2, show c - i = (i + (c - L) - i) + (L - i) by omega, Nat.add_mod_right]
theorem cyc_show : ∀ i < 16, ∀ p < 16, (PyData.tuple [.int ((i : Nat) : Int), .int ((p : Nat) : Int)]).showable = true ∧ (PyData.tuple [.int ((i : Nat) : Int), .int ((p : Nat) : Int)]).hasDict = false ∧ (PyData.tuple [.int ((i : Nat) : Int), .int ((p : Nat) : Int)]).depth ≤ 7 ∧ (PyData.tuple [.int ((i : Nat) : Int), .int ((p : Nat) : Int)]).shown.length ≤ sizeLine := by decide +kernel
theorem small_log : ∀ r < 256, (((r : Nat) : Int)).natAbs.log2 < 1920 := by decide +kernel
theorem PwL.butL {H H' : Hp} {l l' : Addr} {ys : List V} {n : Nat} {f : List Nat} {L : Nat} (hl : H l' = some (.lst ys)) (np : l ≠ l') (b : But l' H H') (h : PwL H l n f L) : PwL H' l n f L := by
  obtain ⟨as, e1, e2, e3⟩ := h.ex
  exact ⟨as, b _ _ np e1, e2, fun j a ha => b _ _ (fun z => by have := e3 j a ha; rw [z, hl] at this; cases this) (e3 j a ha)⟩
theorem pAt_ge {L i c : Nat} (il : i < L) (h : i ≤ c) : pAt L i c = i + (c - i) % (L - i) := by
  unfold pAt
  split
  · rw [Nat.mod_eq_of_lt (by omega)]
    omega
  · rfl
def spProdsR (K : PySem.W.Frag) : Sp := fun vs H Q _ => ∃ l p pf k rows m n gens found, vs = [.ref l, .ref p, .ref pf] ∧ Src H l k ∧ k + 30 ≤ 1000000 ∧ MM K H p rows m n gens found ∧ Maps H pf found ∧ found.length ≤ 256 ∧
  ∀ H', But l H H' → Src H' l (k + 30) → Q (.bl true) H'
abbrev NPR : List Str := ["_law_source_here", "_law_monoid", "_law_found", "_law_turn", "_law_x", "_law_y", "_law_due", "_law_powers_here", "_law_index", "_law_period", "_law_count", "_law_at"]
section
variable {P : Program} {w : World} {K : PySem.W.Frag} {mg : Str → Option Value} {base : Heap}
theorem scProdsR : FnScope NPR ["_law_source_here", "_law_monoid", "_law_found"] (defScope s_L_products_right) := ⟨rfl, rfl, rfl, by decide +kernel, rfl, by decide +kernel, by decide +kernel⟩
theorem ok_prodsR {f : Addr} {fd : FuncData} {q : Str} (F : FunD K "_law_products_right" q (defArgs s_L_products_right) (defBody s_L_products_right) (defScope s_L_products_right) [] [] f fd) (T : Txt P w K mg base)
    (DD : Def P w K mg base CX0 1 "_law_draw" ["_law_source_here", "_law_many"] spDraw) (DP : Def P w K mg base CX0 1 "_law_product" ["_law_one", "_law_other"] (spProd K)) (DL : Def P w K mg base CX0 2 "_law_powers" ["_law_images"] (spPowersL K))
    (DT : DefM P w K mg base CX0 4 "times" ["self", "one", "other"] (spTimes K)) (DC : DefM P w K mg base CX0 4 "cycle" ["self", "number"] (spCycle K)) (DW : DefM P w K mg base CX0 4 "power" ["self", "number", "count"] (spPower K)) :
    FnG P w K mg base CX0 5 f fd ["_law_source_here", "_law_monoid", "_law_found"] (spProdsR K) := by
  have cl : L2.Cls K (He.ga K "Monoid") := He.cls_ok (T.d.fact 46 (f := .cls "Monoid") rfl)
  have zr : mg "range" = none := T.fr 41 "range" rfl
  have zn : mg "len" = none := T.fr 39 "len" rfl
  have zR : mg "repr" = none := T.fr 42 "repr" rfl
  have zs : mg "str" = none := T.fr 43 "str" rfl
  have zI : mg "int" = none := T.fr 37 "int" rfl
  obtain ⟨ft, fdt, mt, Ft, bt⟩ := DT.ex
  obtain ⟨fc, fdc, mc, Fc, bc⟩ := DC.ex
  obtain ⟨fw, fdw, mw, Fw, bw⟩ := DW.ex
  refine okG F scProdsR (fun vs H Q E h => ?_) (fun cdv A outer s H vs Q E hgd hr h => ?_)
  · obtain ⟨l, p, pf, k, rows, m, n, gens, found, rfl, _⟩ := h
    rfl
  · obtain ⟨l, p, pf, k0, rows, m, n, gens, found, rfl, src, k1, M, Mf, f256, fin⟩ := h
    have r1 : Room 1 _ := hr.mono (by decide)
    have r2 : Room 2 _ := hr.mono (by decide)
    have hu : (A.deeper (envOfC q (defScope s_L_products_right) s.heap.objs.size f cdv)).units + 64 < cLine := hr.units
    have hu5 : (A.deeper (envOfC q (defScope s_L_products_right) s.heap.objs.size f cdv)).units + 65 < cLine := by have := hr.un; omega
    have hu9 : (A.deeper (envOfC q (defScope s_L_products_right) s.heap.objs.size f cdv)).units + 9 < cLine := by omega
    refine ⟨_, PSs.nox (pss_cons (ps_for PassesOwn.never rfl (pi_range1 rfl zr (pa_cons pe_int pa_nil)) (pg_name (i := 3) scProdsR.nd rfl (.inl rfl))
        (pss_cons (ps_par (i := 4) (j := 5) rfl scProdsR.nd rfl rfl (by decide) rfl rfl (pa_cons (pe_def DD r1 pass0 rfl (pa_cons (pv 0) (pa_cons (pe_callB call_len_seq rfl zn boot_len (pa_cons (pv 2) pa_nil)) pa_nil))) (pa_cons (pe_def DD r1 pass0 rfl (pa_cons (pv 0) (pa_cons (pe_callB call_len_seq rfl zn boot_len (pa_cons (pv 2) pa_nil)) pa_nil))) pa_nil)) (by rfl))
        (pss_cons (ps_set (i := 6) scProdsR.nd rfl (.inl rfl) (pe_bm PySem.F.plainAttrs_list PySem.F.slot_list_index PySem.F.type_list_index (mt_indexD hu5) (pv 2) (pa_cons (pe_def DP r1 pass0 rfl (pa_cons (pe_ix ix_list (pv 2) (pv 4) (fun _ _ => rfl)) (pa_cons (pe_ix ix_list (pv 2) (pv 5) (fun _ _ => rfl)) pa_nil))) pa_nil)))
        (pss_cons (ps_if (PW.pt (pw_or (pt_cmpR op_ne (pe_callB SkE.call_repr_int rfl zR boot_repr (pa_cons (pe_meth (pv 1) cl mt Ft hr bt .nil pass0 (pa_cons (pv 4) (pa_cons (pv 5) pa_nil))) pa_nil)) (pe_callTy call_str_int rfl zs boot_str (pa_cons (pv 6) pa_nil)) (nomark _))
            (pw_or (pt_cmpR op_ne (pe_meth (pv 1) cl mt Ft hr bt .nil pass0 (pa_cons (pv 4) (pa_cons pe_int pa_nil))) (pv 4) (nomark _)) (pw_or1 (pt_cmpR op_ne (pe_meth (pv 1) cl mt Ft hr bt .nil pass0 (pa_cons pe_int (pa_cons (pv 5) pa_nil))) (pv 5) (nomark _)))))) (pss_one (ps_ret pe_bl)) pss_nil)
        (pss_cons (ps_asg (pe_def DL r2 pass0 rfl (pa_cons (pe_ix ix_list (pv 2) (pv 4) (fun _ _ => rfl)) pa_nil)) (pg_tup rfl (pgs_cons (pg_name (i := 7) scProdsR.nd rfl (.inl rfl)) (pgs_cons (pg_name (i := 8) scProdsR.nd rfl (.inl rfl)) pgs_nil))))
        (pss_cons (ps_set (i := 9) scProdsR.nd rfl (.inl rfl) (pe_op op_sub (pe_callB call_len_seq rfl zn boot_len (pa_cons (pv 7) pa_nil)) (pv 8)))
        (pss_cons (ps_if (pt_cmpR op_ne (pe_callB (call_reprD (by exact hgd) (by exact hu9)) rfl zR boot_repr (pa_cons (pe_meth (pv 1) cl mc Fc hr bc .nil pass0 (pa_cons (pv 4) pa_nil)) pa_nil)) (pe_callB (call_reprD (by exact hgd) (by exact hu9)) rfl zR boot_repr (pa_cons (pe_tup (pa_cons (pv 8) (pa_cons (pv 9) pa_nil))) pa_nil)) (nomark _)) (pss_one (ps_ret pe_bl)) pss_nil)
        (pss_cons (ps_for PassesOwn.never rfl (pi_tup (pe_tup (pa_cons pe_int (pa_cons pe_int (pa_cons pe_int (pa_cons (pv 8) (pa_cons (pe_def DD r1 pass0 rfl (pa_cons (pv 0) (pa_cons pe_int pa_nil))) (pa_cons (pe_def DD r1 pass0 rfl (pa_cons (pv 0) (pa_cons (pe_op op_pow pe_int pe_int) pa_nil))) (pa_cons (pe_op op_pow pe_int pe_int) pa_nil))))))))) (pg_name (i := 10) scProdsR.nd rfl (.inl rfl))
          (pss_cons (ps_set (i := 11) scProdsR.nd rfl (.inl rfl) (pe_ifExp (pt_cmpR op_lt (pv 10) (pv 8) (nomark _)) (pv 10) (pe_op op_add (pv 8) (pe_op op_mod (pe_callTy call_int1 rfl zI boot_int (pa_cons (pe_op op_sub (pv 10) (pv 8)) pa_nil)) (pv 9)))))
          (pss_one (ps_if (pt_cmpR (op_neD hu) (pe_ix ix_list (pv 2) (pe_meth (pv 1) cl mw Fw hr bw .nil pass0 (pa_cons (pv 4) (pa_cons (pv 10) pa_nil))) (fun _ _ => rfl)) (pe_ix ix_list (pv 7) (pv 11) (fun _ _ => rfl)) (nomark _)) (pss_one (ps_ret pe_bl)) pss_nil))))
        (pss_one (ps_if (pt_cmpR op_ne (pe_meth (pv 1) cl mw Fw hr bw .nil pass0 (pa_cons (pv 4) (pa_cons pe_int pa_nil))) (pe_meth (pv 1) cl mt Ft hr bt .nil pass0 (pa_cons (pe_meth (pv 1) cl mt Ft hr bt .nil pass0 (pa_cons (pv 4) (pa_cons (pv 4) pa_nil))) (pa_cons (pv 4) pa_nil))) (nomark _)) (pss_one (ps_ret pe_bl)) pss_nil))))))))))
      (pss_one (ps_ret pe_bl))), ?_⟩
    have FO := M.form
    have rl := M.tab.len
    obtain ⟨q1, q2, q3, hl0⟩ := src.un
    refine ⟨6, rfl, by decide, by decide, for_range (lo := 0) (n := 6) (fun i σ Hn => ∃ v3 v4 v5 v6 v7 v8 v9 v10 v11 : Option V, σ = [some (.ref l), some (.ref p), some (.ref pf), v3, v4, v5, v6, v7, v8, v9, v10, v11] ∧ But l H Hn ∧ Src Hn l (k0 + i * 4))
      ⟨none, none, none, none, none, none, none, none, none, rfl, But.refl, src⟩ (fun i σ Hn hi ⟨v3, v4, v5, v6, v7, v8, v9, v10, v11, eσ, bn, sn⟩ => ?_) (fun σ Hn ⟨v3, v4, v5, v6, v7, v8, v9, v10, v11, eσ, bn, sn⟩ => ?_)⟩
    · subst eσ
      have f0 := get_lt M.tab.head
      obtain ⟨as0, hf0, la0, el0⟩ := (Mf.but hl0 bn).ex
      refine ⟨_, rfl, _, rfl, pf, _, rfl, .inl (SqL.of hf0), l, k0 + i * 4, ((found.length : Nat) : Int), by rw [List.length_map, la0], sn, by omega, by omega, by omega, fun x H1 x0 x1 b1 src1 => ?_⟩
      obtain ⟨x, rfl⟩ : ∃ x' : Nat, x = (x' : Nat) := ⟨x.toNat, by omega⟩
      have b01 := But.trans bn b1
      obtain ⟨as1, hf1, la1, el1⟩ := (Mf.but hl0 b01).ex
      refine ⟨_, rfl, _, rfl, pf, _, rfl, .inl (SqL.of hf1), l, k0 + i * 4 + 1, ((found.length : Nat) : Int), by rw [List.length_map, la1], src1, by omega, by omega, by omega, fun y H2 y0 y1 b2 src2 => ?_⟩
      obtain ⟨y, rfl⟩ : ∃ y' : Nat, y = (y' : Nat) := ⟨y.toNat, by omega⟩
      have b02 := But.trans b01 b2
      have M2 := M.butL hl0 b02
      obtain ⟨as, hf, la, el⟩ := (Mf.but hl0 b02).ex
      obtain ⟨fx, hx⟩ := lt_get (show x < found.length by omega)
      obtain ⟨fy, hy⟩ := lt_get (show y < found.length by omega)
      obtain ⟨ax, hax⟩ := lt_get (show x < as.length by omega)
      obtain ⟨ay, hay⟩ := lt_get (show y < as.length by omega)
      have ex := el x ax fx hax hx
      have ey := el y ay fy hay hy
      have vx := M.tab.vf hx
      have vy := M.tab.vf hy
      obtain ⟨dx, _, _, _, hp2, _⟩ := id M2.mo.ex
      clear bn b1 b01 b2 hf0 hf1 el0 el1 la0 la1 src1 sn
      refine ⟨_, _, rfl, ?_⟩
      refine ⟨_, rfl, .inl ⟨rfl, _, SqL.of hf⟩, _, rfl, _, rfl, pf, _, _, _, rfl, rfl, SqL.of hf, atI_nat (get_map hax), _, rfl, _, rfl, pf, _, _, _, rfl, rfl, SqL.of hf, atI_nat (get_map hay), ax, ay, fx, fy, n, rfl, SqT.of ex, SqT.of ey, vx, vy, (by have := M.n4; omega), fun t H3 nt s3 ht => ?_⟩
      have pr := M.tab.prodW M.made M.len hx hy (word_letters FO M.made y)
      have sp1 := M.tab.prodW M.made M.len hx M.tab.head (word_letters FO M.made 0)
      rw [Mon.comp_id vx] at sp1
      have ep1 := Mon.nodup_at M.tab.nd sp1 hx
      have sp2 := M.tab.prodW M.made M.len M.tab.head hy (word_letters FO M.made y)
      rw [Mon.id_comp vy] at sp2
      have ep2 := Mon.nodup_at M.tab.nd sp2 hy
      generalize hr : Mon.walk rows x ((Mon.wordTab m).getD y []) = r at pr
      have r256 : r < 256 := by have := get_lt pr; omega
      obtain ⟨i1, i2, i3⟩ := index_pre M.tab.nd pr
      have dB : ∀ {Hk}, Same H2 Hk → Dp K Hk (.ref pf) (.list (found.map dI)) := fun sk => .lst (SqL.of (sk _ _ hf)) (dpR la fun j a z h1 h2 => SqT.of (sk _ _ (el j a z h1 h2)))
      refine ⟨pf, .ref t, dI (Mon.comp fx fy), found.map dI, r, dI (Mon.comp fx fy), rfl, rfl, dB s3, dpI (SqT.of ht), rows_sh _, dI_sh _, i1, i2, i3, ?_⟩
      have xl : x < rows.length := by omega
      have yl : y < rows.length := by omega
      refine ⟨_, rfl, p, dx, _, rfl, s3 _ _ hp2, rfl, _, rfl, _, rfl, p, rows, m, gens.length, x, y, rfl, (M2.same s3).mo, FO, M.made, M.len, xl, yl, fun H4 s4 => ?_⟩
      have s24 := s3.trans s4
      rw [hr]
      refine ⟨_, rfl, small_log r r256, ?_⟩
      refine ⟨_, rfl, _, rfl, small_log r r256, ?_⟩
      refine ⟨rfl, _, rfl, ?_⟩
      rw [show (!decide (V.str (toString ((r : Nat) : Int)) = V.str (toString ((r : Nat) : Int)))) = false by simp]
      refine ifF rfl ?_
      refine ⟨_, rfl, p, dx, _, rfl, s24 _ _ hp2, rfl, _, rfl, p, rows, m, gens.length, x, 0, rfl, (M2.same s24).mo, FO, M.made, M.len, xl, by omega, fun H5 s5 => ?_⟩
      have s25 := s24.trans s5
      rw [ep1]
      refine ⟨_, rfl, rfl, _, rfl, ?_⟩
      rw [show (!decide (V.int ((x : Nat) : Int) = V.int ((x : Nat) : Int))) = false by simp]
      refine ifF rfl ?_
      refine ⟨_, rfl, p, dx, _, rfl, s25 _ _ hp2, rfl, _, rfl, p, rows, m, gens.length, 0, y, rfl, (M2.same s25).mo, FO, M.made, M.len, by omega, yl, fun H6 s6 => ?_⟩
      have s26 := s25.trans s6
      rw [ep2]
      refine ⟨_, rfl, rfl, _, rfl, ?_⟩
      rw [show (!decide (V.int ((y : Nat) : Int) = V.int ((y : Nat) : Int))) = false by simp]
      refine ifF rfl ?_
      clear ht s3 s4 s5 s6 s24 s25 ep1 ep2 sp1 sp2 nt i1 i2 i3 ey hay hy vy
      -- the powers
      refine ⟨_, rfl, _, rfl, pf, _, _, _, rfl, rfl, SqL.of (s26 _ _ hf), atI_nat (get_map hax), ax, fx, n, rfl, SqT.of (s26 _ _ ex), vx, M.n1, M.n4, fun TT lp L ii H7 s7 nTT nlp hTT PL C => ?_⟩
      refine ⟨TT, _, rfl, SqT.of hTT, rfl, _, _, rfl, _, _, rfl, rfl, ?_⟩
      have il := C.lt
      have L15 := Mon.inj_le vx M.n1 M.n4 C.inj
      have s27 := s26.trans s7
      obtain ⟨aw, hlp, law, elw⟩ := PL.ex
      refine ⟨_, rfl, lp, _, rfl, .inl (SqL.of hlp), _, rfl, ((L : Nat) : Int), (ii : Nat), by rw [List.length_map, law], rfl, ?_⟩
      rw [show (fun i j : Int => V.int (i - j)) ((L : Nat) : Int) ((ii : Nat) : Int) = V.int ((L - ii : Nat) : Int) from congrArg V.int (show ((L : Nat) : Int) - (ii : Nat) = ((L - ii : Nat) : Int) by omega)]
      obtain ⟨c1, c2, c3, c4⟩ := cyc_show ii (by omega) (L - ii) (by omega)
      refine ⟨_, rfl, p, dx, _, rfl, s27 _ _ hp2, rfl, _, rfl, p, rows, m, n, gens, found, x, fx, rfl, M2.same s27, hx, fun tc L' i' H8 s8 C' htc => ?_⟩
      obtain ⟨eL, ei⟩ := C.uniq C'
      subst eL ei
      refine ⟨_, _, rfl, Dp.tup (SqT.of htc) (.cons (.int _) (.cons (.int _) .nil)), c1, c2, c3, c4, ?_⟩
      refine ⟨_, rfl, _, rfl, (by show 2 ≤ sizeLine; decide), fun tz nz => ?_⟩
      have u9 := same_upd (o := .tup [.int (ii : Nat), .int ((L - ii : Nat) : Nat)]) nz
      refine ⟨_, _, rfl, Dp.tup (SqT.of upd_same) (.cons (.int _) (.cons (.int _) .nil)), c1, c2, c3, c4, ?_⟩
      refine ⟨rfl, _, rfl, ?_⟩
      refine ifF (by rw [decide_eq_true rfl]; rfl) ?_
      have s29 := s27.trans (s8.trans u9)
      have PL9 := PL.same (s8.trans u9)
      have nlpl : lp ≠ l := (src2.same s26).ne nlp
      generalize L2.upd H8 tz (.tup [.int (ii : Nat), .int ((L - ii : Nat) : Nat)]) = H9 at s29 PL9 ⊢
      clear u9 nz htc C' s8 c1 c2 c3 c4 hlp elw law PL s27 hTT s7 nTT nlp
      have src9 := src2.same s29
      have b09 := But.trans b02 (But.of s29)
      obtain ⟨w1, w2, w3, hl9⟩ := src9.un
      refine ⟨_, rfl, _, rfl, l, k0 + i * 4 + 1 + 1, 30, rfl, src9, by omega, by omega, by omega, fun d H10 d0 d1 b10 src10 => ?_⟩
      obtain ⟨d, rfl⟩ : ∃ d' : Nat, d = (d' : Nat) := ⟨d.toNat, by omega⟩
      refine ⟨_, rfl, 10, 20, rfl, rfl, ⟨by decide, by decide, by decide⟩, l, k0 + i * 4 + 1 + 1 + 1, 100000000000000000000, rfl, src10, by omega, by omega, by omega, fun e H11 e0 e1 b11 src11 => ?_⟩
      obtain ⟨e, rfl⟩ : ∃ e' : Nat, e = (e' : Nat) := ⟨e.toNat, by omega⟩
      have b911 := But.trans b10 b11
      have b011 := But.trans b09 b911
      have PL11 := PL9.butL hl9 nlpl b911
      have M11 := M.butL hl0 b011
      have Mf11 := Mf.but hl0 b011
      refine ⟨10, 30, rfl, rfl, ⟨by decide, by decide, by decide⟩, (by show 7 ≤ sizeLine; decide), fun TQ nTQ => ⟨TQ, rfl, ⟨_, SqT.of upd_same⟩, ?_⟩⟩
      have u12 := same_upd (o := .tup [.int 0, .int 1, .int 2, .int (ii : Nat), .int (d : Nat), .int (e : Nat), (fun i j : Int => V.int (i ^ j.toNat)) 10 30]) nTQ
      have hTQ : L2.upd H11 TQ (.tup [.int 0, .int 1, .int 2, .int (ii : Nat), .int (d : Nat), .int (e : Nat), (fun i j : Int => V.int (i ^ j.toNat)) 10 30]) TQ = some (.tup [.int 0, .int 1, .int 2, .int (ii : Nat), .int (d : Nat), .int (e : Nat), (fun i j : Int => V.int (i ^ j.toNat)) 10 30]) := upd_same
      generalize L2.upd H11 TQ (.tup [.int 0, .int 1, .int 2, .int (ii : Nat), .int (d : Nat), .int (e : Nat), (fun i j : Int => V.int (i ^ j.toNat)) 10 30]) = H12 at u12 hTQ ⊢
      have M12 := M11.same u12
      obtain ⟨bs, hb, lb, eb⟩ := (Mf11.same u12).ex
      obtain ⟨bw, hbw, lbw, ebw⟩ := (PL11.same u12).ex
      obtain ⟨dx', _, _, _, hp12, _⟩ := id M12.mo.ex
      have b012 := But.trans b011 (But.of u12)
      have src12 := src11.same u12
      clear PL11 PL9 M11 Mf11 src9 src10 src11 b10 b11 b911 b011 b09 u12 hl9
      refine for_tup (K := K) (a := TQ) (xs := [.int 0, .int 1, .int 2, .int (ii : Nat), .int (d : Nat), .int (e : Nat), (fun i j : Int => V.int (i ^ j.toNat)) 10 30]) (fun j σ Hc => ∃ v10 v11 : Option V, σ = [some (.ref l), some (.ref p), some (.ref pf), some (.int (0 + (i : Nat))), some (.int (x : Nat)), some (.int (y : Nat)), some (.int (r : Nat)), some (.ref lp), some (.int (ii : Nat)), some (.int ((L - ii : Nat) : Nat)), v10, v11] ∧ Same H12 Hc)
        ⟨v10, v11, rfl, L2.Same.refl _⟩ (fun j σ Hc _ ⟨_, _, _, z⟩ => SqT.of (z _ _ hTQ)) (fun j yy σ Hc hyy ⟨v10, v11, eσ, sc⟩ => ?_) (fun σ Hc ⟨v10, v11, eσ, sc⟩ => ?_)
      · subst eσ
        obtain ⟨c, rfl, c30⟩ : ∃ c : Nat, yy = .int (c : Nat) ∧ c ≤ 1000000000000000000000000000000 := by
          have hm := List.mem_of_getElem? hyy
          simp only [List.mem_cons, List.not_mem_nil, or_false] at hm
          rcases hm with rfl | rfl | rfl | rfl | rfl | rfl | rfl
          · exact ⟨0, rfl, by decide⟩
          · exact ⟨1, rfl, by decide⟩
          · exact ⟨2, rfl, by decide⟩
          · exact ⟨ii, rfl, by omega⟩
          · exact ⟨d, rfl, by omega⟩
          · exact ⟨e, rfl, by omega⟩
          · exact ⟨1000000000000000000000000000000, congrArg V.int (by decide +kernel), Nat.le_refl _⟩
        refine gName_k ?_
        dsimp only
        refine tSeq_k ?_
        refine tAsg_k ?_
        refine tIf_k (R := fun v H' => v = .int (pAt L ii c : Nat) ∧ H' = Hc) (fun key => ?_) (fun v H' ⟨ev, eH⟩ => ?_)
        · refine ⟨_, rfl, _, rfl, _, _, rfl, rfl, _, rfl, ?_⟩
          refine ite2 (fun h0 => ?_) (fun h0 => ?_)
          · have h0 := of_decide_eq_true h0
            refine ⟨_, rfl, key _ Hc ⟨?_, rfl⟩⟩
            unfold pAt
            rw [if_pos (by omega)]
          · have h0 := of_decide_eq_false (Bool.eq_false_iff.mpr h0)
            refine ⟨_, rfl, _, rfl, _, rfl, ((c : Nat) : Int), ((ii : Nat) : Int), rfl, rfl, .inl ⟨_, rfl, _, rfl, ((c : Nat) : Int) - (ii : Nat), ((L - ii : Nat) : Int), rfl, rfl, (by omega), ((ii : Nat) : Int), _, rfl, rfl, key _ Hc ⟨?_, rfl⟩⟩⟩
            rw [pAt_ge il (by omega)]
            refine congrArg V.int ?_
            rw [show ((c : Nat) : Int) - (ii : Nat) = ((c - ii : Nat) : Int) by omega]
            omega
        · subst ev eH
          refine ⟨_, rfl, _, rfl, p, dx', _, rfl, sc _ _ hp12, rfl, _, rfl, _, rfl, p, rows, m, n, gens, found, x, fx, c, rfl, M12.same sc, hx, c30, fun r' L' i' H13 s13 C' hr' => ?_⟩
          obtain ⟨eL, ei⟩ := C.uniq C'
          subst eL ei
          have s123 := sc.trans s13
          obtain ⟨ar, har⟩ := lt_get (show r' < bs.length by have := get_lt hr'; omega)
          obtain ⟨aw, haw⟩ := lt_get (show pAt L ii c < bw.length by rw [lbw]; exact pAt_lt il)
          refine ⟨pf, _, _, .ref ar, rfl, rfl, SqL.of (s123 _ _ hb), atI_nat (get_map har), ?_⟩
          refine ⟨_, rfl, _, rfl, lp, _, _, .ref aw, rfl, rfl, SqL.of (s123 _ _ hbw), atI_nat (get_map haw), ?_⟩
          refine ⟨_, _, dpI (SqT.of (s123 _ _ (eb r' ar _ har hr'))), dpI (SqT.of (s123 _ _ (ebw _ aw haw))), dI_sh _, dI_sh _, _, rfl, ?_⟩
          rw [SeqAt.eqv_refl _ (SeqAt.canLay_of_shaped (dI_sh _))]
          refine ifF rfl ?_
          exact ⟨_, _, rfl, s123⟩
      · subst eσ
        have M13 := M12.same sc
        refine ⟨_, rfl, p, dx', _, rfl, sc _ _ hp12, rfl, _, rfl, p, rows, m, n, gens, found, x, fx, 3, rfl, M13, hx, (by decide), fun r3 L' i' H14 s14 C' hr3 => ?_⟩
        rw [pAt_pw C' 3 3 (Nat.le_refl _)] at hr3
        have sxx := M.tab.prodW M.made M.len hx hx (word_letters FO M.made x)
        generalize hr2 : Mon.walk rows x ((Mon.wordTab m).getD x []) = r2 at sxx
        have sx3 := M.tab.prodW M.made M.len sxx hx (word_letters FO M.made x)
        have e3 : Mon.pw n fx 3 = Mon.comp (Mon.comp fx fx) fx := by
          show Mon.comp (Mon.comp (Mon.comp (Mon.idm n) fx) fx) fx = _
          rw [Mon.id_comp vx]
        rw [e3] at hr3
        have er := Mon.nodup_at M.tab.nd sx3 hr3
        have s124 := sc.trans s14
        refine ⟨_, rfl, p, dx', _, rfl, s124 _ _ hp12, rfl, _, rfl, p, dx', _, rfl, s124 _ _ hp12, rfl, _, rfl, _, rfl, p, rows, m, gens.length, x, x, rfl, (M12.same s124).mo, FO, M.made, M.len, xl, xl, fun H15 s15 => ?_⟩
        rw [hr2]
        have s125 := s124.trans s15
        refine ⟨_, rfl, p, rows, m, gens.length, r2, x, rfl, (M12.same s125).mo, FO, M.made, M.len, (by have := get_lt sxx; omega), xl, fun H16 s16 => ?_⟩
        rw [er]
        refine ⟨rfl, _, rfl, ?_⟩
        refine ifF (by rw [decide_eq_true rfl]; rfl) ?_
        have s126 := s125.trans s16
        exact ⟨_, _, _, _, _, _, _, _, _, rfl, b012.trans (But.of s126), (src12.same s126).up (by omega)⟩
    · subst eσ
      exact fin _ bn (sn.up (by omega))
end
end K14

set_option Elab.async false
set_option linter.all false
set_option maxRecDepth 100000
set_option maxHeartbeats 4000000
/-! dict(zip(a list of tuples, range(n))): a range drawn from, a zip whose pair is still out, over iterators of any kind. -/
namespace Lf
open PySem PySem.Spec PyProof.Rows L2
section
variable {prog : Program} {w : World} {A : Around} {E : Value → Shared → Prop} {s : Shared}
theorem nextOf_range_item {it : Addr} {x left step : Int} {Q : Value → Shared → Prop} (hit : IsRangeIter s.heap it x left step) (hleft : 0 < left)
    (hQ : ∀ h', IsRangeIter h' it (x + step) (left - 1) step → Heap.SameBut it s.heap h' → Q (.int x s.toks) { s with heap := h', toks := s.toks + 1 }) :
    wpAny (model prog w) A (Builtin.SmallTypes.nextOf (.ref it)) Q E s := by
  unfold Builtin.SmallTypes.nextOf
  exact wpAny_bind (CpRep.range_item hit hleft fun h' a b => wpAny_pure (hQ h' a b))
theorem nextOf_range_end {it : Addr} {x left step : Int} {Q : Value → Shared → Prop} (hh : A.handled = none) (hit : IsRangeIter s.heap it x left step) (hleft : left ≤ 0)
    (hE : ∀ h' e, Heap.ExtBut it s.heap h' → (∃ o, h'.get? e = some o ∧ o.cls = .type "StopIteration") → E (.ref e) { s with heap := h' }) : wpAny (model prog w) A (Builtin.SmallTypes.nextOf (.ref it)) Q E s := by
  unfold Builtin.SmallTypes.nextOf
  refine wpAny_bind (CpRep.range_end hh hit hleft fun e h' st ex => ?_)
  obtain ⟨a, o, vs, rfl, ho, hc, _⟩ := st
  exact hE h' a ex ⟨o, ho, hc⟩
theorem draws_range (hh : A.handled = none) (it : Addr) (n : Nat) :
    Draws prog w A it [it] n (fun i v => ∃ t, v = .int (i : Nat) t) (fun i h => IsRangeIter h it ((i : Nat) : Int) ((n : Int) - (i : Nat)) 1) where
  live := fun _ _ st => ⟨_, st⟩
  frame := fun _ _ _ st hk => hk it (by simp) _ st
  item := fun i s Q E hi st hQ => by
    refine nextOf_range_item st (by omega) fun h' hit' hs' => ?_
    refine hQ _ h' (s.toks + 1) ⟨_, rfl⟩ ?_ hs'
    have e1 : ((i : Nat) : Int) + 1 = ((i + 1 : Nat) : Int) := by omega
    have e2 : (n : Int) - (i : Nat) - 1 = (n : Int) - ((i + 1 : Nat) : Int) := by omega
    rw [e1, e2] at hit'
    exact hit'
  done := fun s Q E st hE => nextOf_range_end hh st (by omega) hE
theorem begins_range (r : Addr) (n : Nat) (t u v : Tok) (hn : n < 2 ^ 62) : Begins (.ref r) { cls := .type "range_iterator", data := .fields #[rawInt 0, rawInt ((n : Nat) : Int), rawInt 1] } fun h => IsRange h r 0 ((n : Nat) : Int) 1 t u v where
  iter := fun prog w A E s Q hr h => by
    refine wpAny_pyIter_range hr (small_one (by omega) (by omega) (by omega) (by omega)) ?_
    rw [rangeSize_nat, show ((((n : Nat) : Int) - 0).toNat : Int) = ((n : Nat) : Int) by omega]
    exact h
  keeps := fun h h' x hk => hk r _ x
  free := rfl
variable {z TI TO i1 i2 : Addr} {fp1 fp2 : List Addr} {n1 n2 i : Nat} {P1 P2 : Nat → Value → Prop} {St1 St2 : Nat → Heap → Prop}
theorem held_next_item {T : Addr} {f : Bool} {oT : Obj} {Q : Value → Shared → Prop} (S : ZipSep2 z TI TO i1 i2 fp1 fp2) (D1 : Draws prog w A i1 fp1 n1 P1 St1) (D2 : Draws prog w A i2 fp2 n2 P2 St2)
    (hz : IsZipHeld s.heap z TI TO T f) (hT : s.heap.get? T = some oT) (hTI : IsTupOf2 s.heap TI (.ref i1) (.ref i2)) (st1 : St1 i s.heap) (st2 : St2 i s.heap) (hlt1 : i < n1) (hlt2 : i < n2)
    (hQ : ∀ x1 x2 h' tk, P1 i x1 → P2 i x2 → IsZipHeld h' z TI TO T true → St1 (i + 1) h' → St2 (i + 1) h' → IsTupOf2 h' s.heap.objs.size x1 x2 → h'.objs.size = s.heap.objs.size + 1 →
      (∀ c o, c ≠ z → c ≠ i1 → c ≠ i2 → s.heap.get? c = some o → h'.get? c = some o) → Q (.ref s.heap.objs.size) { s with heap := h', toks := tk }) :
    wpAny (model prog w) A (Builtin.«zip.__next__» ⟨[.ref z], []⟩) (fun fin s' => ∃ v, fin = .done (.ret v) ∧ Q v s') E s := by
  obtain ⟨hp, g, d, tk0, os⟩ := s
  show wpAny _ _ (field (.ref z) 2 >>= _) _ _ _
  refine wpAny_bind (wpAny_field hz rfl (x := .bool false) rfl ?_)
  show wpAny _ _ (field (.ref z) 3 >>= _) _ _ _
  refine wpAny_bind (wpAny_field hz rfl (x := .ref TI) rfl ?_)
  refine wpAny_bind (wpAny_seqItems hTI rfl ?_)
  show wpAny _ _ (Builtin.SmallTypes.ownedTupleIsFree (.ref z) >>= _) _ _ _
  refine wpAny_bind (wpAny_tupleHeld_zip hz hT fun h₁ hz₁ hs₁ => ?_)
  replace hs₁ : Heap.SameBut z hp h₁ := hs₁
  simp only [Bool.false_eq_true, if_false]
  refine wpAny_bind ?_
  rw [← Array.forIn_toList]
  simp only [List.forIn_cons, List.forIn_nil]
  refine wpAny_bind (wpAny_bind (wpAny_holding ?_))
  show wpAny _ _ (Builtin.SmallTypes.nextOf (.ref i1) >>= _) _ _ ⟨h₁, g, d, tk0, os⟩
  refine wpAny_bind (D1.item i _ _ _ hlt1 (D1.over st1 hs₁ S.zf1) fun x1 h₂ tk1 hx1 sn1 hs₂ => wpAny_pure ?_)
  replace hs₂ : Heap.SameBut i1 h₁ h₂ := hs₂
  refine wpAny_pure ?_
  refine wpAny_bind (wpAny_bind (wpAny_holding ?_))
  show wpAny _ _ (Builtin.SmallTypes.nextOf (.ref i2) >>= _) _ _ ⟨h₂, g, d, tk1, os⟩
  refine wpAny_bind (D2.item i _ _ _ hlt2 (D2.over (D2.over st2 hs₁ S.zf2) hs₂ S.sep1_2) fun x2 h₃ tk2 hx2 sn2 hs₃ => wpAny_pure ?_)
  replace hs₃ : Heap.SameBut i2 h₂ h₃ := hs₃
  refine wpAny_pure (wpAny_pure ?_)
  show wpAny _ _ (newTuple [x1, x2] >>= _) _ _ _
  refine wpAny_bind (wpAny_newTuple ?_)
  have hsz : h₃.objs.size = hp.objs.size := by rw [hs₃.1, hs₂.1, hs₁.1]
  have hz₃ : IsZipHeld h₃ z TI TO T true := hs₃.extBut _ _ S.zi2 (hs₂.extBut _ _ S.zi1 hz₁)
  have hk : ∀ c o, c ≠ z → c ≠ i1 → c ≠ i2 → hp.get? c = some o → h₃.get? c = some o := fun c o c1 c2 c3 e => hs₃.extBut _ _ c3 (hs₂.extBut _ _ c2 (hs₁.extBut _ _ c1 e))
  have h1₃ : St1 (i + 1) h₃ := D1.over sn1 hs₃ S.sep2_1
  refine wpAny_pure ⟨_, rfl, ?_⟩
  show Q (.ref h₃.objs.size) _
  have hp' : IsTupOf2 (h₃.push { cls := .type "tuple", data := .seq #[x1, x2] }) h₃.objs.size x1 x2 := Heap.get?_push_size _ rfl
  have hz4 : (h₃.push { cls := .type "tuple", data := .seq #[x1, x2] }).objs.size = h₃.objs.size + 1 := Heap.size_push ..
  rw [hsz] at hp' hz4 ⊢
  exact hQ x1 x2 _ tk2 hx1 hx2 (Heap.get?_push_of_some _ hz₃) (D1.frame _ _ _ h1₃ fun b hb o e => Heap.get?_push_of_some _ e) (D2.frame _ _ _ sn2 fun b hb o e => Heap.get?_push_of_some _ e) hp' hz4 fun c o c1 c2 c3 e => Heap.get?_push_of_some _ (hk c o c1 c2 c3 e)
theorem held_next_end {T : Addr} {f : Bool} {oT : Obj} {Q : Fin → Shared → Prop} (S : ZipSep2 z TI TO i1 i2 fp1 fp2) (D1 : Draws prog w A i1 fp1 n1 P1 St1) (D2 : Draws prog w A i2 fp2 n2 P2 St2)
    (hz : IsZipHeld s.heap z TI TO T f) (hT : s.heap.get? T = some oT) (hTI : IsTupOf2 s.heap TI (.ref i1) (.ref i2)) (st1 : St1 i s.heap) (st2 : St2 i s.heap) (hi1 : i = n1)
    (hE : ∀ h' tk e, (∀ c o, c ≠ z → c ≠ i1 → c ≠ i2 → s.heap.get? c = some o → h'.get? c = some o) → (∃ o, h'.get? e = some o ∧ o.cls = .type "StopIteration") → E (.ref e) { s with heap := h', toks := tk }) :
    wpAny (model prog w) A (Builtin.«zip.__next__» ⟨[.ref z], []⟩) Q E s := by
  obtain ⟨hp, g, d, tk0, os⟩ := s
  show wpAny _ _ (field (.ref z) 2 >>= _) _ _ _
  refine wpAny_bind (wpAny_field hz rfl (x := .bool false) rfl ?_)
  show wpAny _ _ (field (.ref z) 3 >>= _) _ _ _
  refine wpAny_bind (wpAny_field hz rfl (x := .ref TI) rfl ?_)
  refine wpAny_bind (wpAny_seqItems hTI rfl ?_)
  show wpAny _ _ (Builtin.SmallTypes.ownedTupleIsFree (.ref z) >>= _) _ _ _
  refine wpAny_bind (wpAny_tupleHeld_zip hz hT fun h₁ hz₁ hs₁ => ?_)
  replace hs₁ : Heap.SameBut z hp h₁ := hs₁
  simp only [Bool.false_eq_true, if_false]
  refine wpAny_bind ?_
  rw [← Array.forIn_toList]
  simp only [List.forIn_cons, List.forIn_nil]
  refine wpAny_bind (wpAny_bind (wpAny_holding ?_))
  show wpAny _ _ (Builtin.SmallTypes.nextOf (.ref i1) >>= _) _ _ ⟨h₁, g, d, tk0, os⟩
  refine wpAny_bind (D1.done ⟨h₁, g, d, tk0, os⟩ _ _ (by rw [← hi1]; exact D1.over st1 hs₁ S.zf1) fun q e hq he => ?_)
  replace hq : Heap.ExtBut i1 h₁ q := hq
  exact hE q tk0 e (fun c o cz c1 c2 x => hq _ _ c1 (hs₁.extBut _ _ cz x)) he
theorem pyNext_held_item {T : Addr} {f : Bool} {oT : Obj} {Q : Option Value → Shared → Prop} (S : ZipSep2 z TI TO i1 i2 fp1 fp2) (D1 : Draws prog w A.in1 i1 fp1 n1 P1 St1) (D2 : Draws prog w A.in1 i2 fp2 n2 P2 St2)
    (hz : IsZipHeld s.heap z TI TO T f) (hT : s.heap.get? T = some oT) (hTI : IsTupOf2 s.heap TI (.ref i1) (.ref i2)) (st1 : St1 i s.heap) (st2 : St2 i s.heap) (hlt1 : i < n1) (hlt2 : i < n2)
    (hQ : ∀ x1 x2 h' tk, P1 i x1 → P2 i x2 → IsZipHeld h' z TI TO T true → St1 (i + 1) h' → St2 (i + 1) h' → IsTupOf2 h' s.heap.objs.size x1 x2 → h'.objs.size = s.heap.objs.size + 1 →
      (∀ c o, c ≠ z → c ≠ i1 → c ≠ i2 → s.heap.get? c = some o → h'.get? c = some o) → Q (some (.ref s.heap.objs.size)) { s with heap := h', toks := tk }) :
    wpAny (model prog w) A (pyNext (.ref z)) Q E s := by
  have hTy : s.TypeIs (.ref z) "zip" := ⟨_, hz, rfl⟩
  unfold pyNext
  exact wpAny_bind (wpAny_attempt (wpAny_callSpecial?_slot (name := Str.ofString "__next__") hTy F.slot_zip_next
    (wpAny_call_entry F.slot_zip_next hTy F.entry_zip_next
      (held_next_item S D1 D2 hz hT hTI st1 st2 hlt1 hlt2 fun x1 x2 h' tk a1 a2 a3 a4 a5 a6 a7 a8 => wpAny_pure (hQ x1 x2 h' tk a1 a2 a3 a4 a5 a6 a7 a8)) (F.args_zip_next_1 _))))
theorem pyNext_held_end {T : Addr} {f : Bool} {oT : Obj} {Q : Option Value → Shared → Prop} (S : ZipSep2 z TI TO i1 i2 fp1 fp2) (D1 : Draws prog w A.in1 i1 fp1 n1 P1 St1) (D2 : Draws prog w A.in1 i2 fp2 n2 P2 St2)
    (hz : IsZipHeld s.heap z TI TO T f) (hT : s.heap.get? T = some oT) (hTI : IsTupOf2 s.heap TI (.ref i1) (.ref i2)) (st1 : St1 i s.heap) (st2 : St2 i s.heap) (hi1 : i = n1)
    (hQ : ∀ h' tk, (∀ c o, c ≠ z → c ≠ i1 → c ≠ i2 → s.heap.get? c = some o → h'.get? c = some o) → Q none { s with heap := h', toks := tk }) : wpAny (model prog w) A (pyNext (.ref z)) Q E s := by
  have hTy : s.TypeIs (.ref z) "zip" := ⟨_, hz, rfl⟩
  unfold pyNext
  refine wpAny_bind (wpAny_attempt (wpAny_callSpecial?_slot (name := Str.ofString "__next__") hTy F.slot_zip_next
    (wpAny_call_entry F.slot_zip_next hTy F.entry_zip_next (held_next_end S D1 D2 hz hT hTI st1 st2 hi1 fun h' tk e hk he => ?_) (F.args_zip_next_1 _))))
  obtain ⟨o, ho, hc⟩ := he
  refine wpAny_bind (wpAny_isInstance (T := "StopIteration") (b := true) ⟨o, ho, hc⟩ isSubtype_stop ?_)
  exact wpAny_pure (hQ _ _ hk)
end
/-- zip(list, range(n)) as the argument of dict: n items at least in the list -/
theorem pairZipR {prog : Program} {w : World} (z TI TO i1 i2 l : Addr) (S : ZipSep2 z TI TO i1 i2 [i1, l] [i2]) (xs : Array Value) (n : Nat) (hn : n = xs.size) :
    PairArg prog w "zip" z [z, TI, TO, i1, i2, l] [z, TO, i1, i2] n (fun i k v => xs[i]? = some k ∧ ∃ t, v = .int (i : Nat) t)
      (fun h => IsZip h z TI TO .none ∧ IsTupOf2 h TI (.ref i1) (.ref i2) ∧ (∃ a b, IsTupOf2 h TO a b) ∧ (h.IsListIter i1 l 0 ∧ h.IsList l xs) ∧ IsRangeIter h i2 0 ((n : Nat) : Int) 1) where
  type := fun s ok => ⟨_, ok.1, rfl⟩
  notDict := by decide
  keep := fun h h' ok hk => by
    obtain ⟨hz, hTI, ⟨a, b, hTO⟩, ⟨h1, hl⟩, h2⟩ := ok
    exact ⟨hk _ _ hz, hk _ _ hTI, ⟨a, b, hk _ _ hTO⟩, ⟨h1.at fun o e => hk _ o e, hl.at fun o e => hk _ o e⟩, hk _ _ h2⟩
  there := fun h ok b hb => by
    obtain ⟨hz, hTI, ⟨a, c, hTO⟩, ⟨⟨o1, h1, _⟩, ⟨o3, hl, _⟩⟩, h2⟩ := ok
    simp only [List.mem_cons, List.not_mem_nil, or_false] at hb
    rcases hb with rfl | rfl | rfl | rfl | rfl | rfl
    all_goals first | exact ⟨_, hz⟩ | exact ⟨_, hTI⟩ | exact ⟨_, hTO⟩ | exact ⟨_, h1⟩ | exact ⟨_, h2⟩ | exact ⟨_, hl⟩
  sub := fun b hb => by simp at hb ⊢; rcases hb with rfl | rfl | rfl | rfl <;> simp
  noKeys := fun A s Q E hA ok h => getAttrOr_miss_zip ok.1 rfl rfl rfl zip_no_keys (by decide +kernel) hA h
  iter := fun A s d Q E hA ok hd hdf h => by
    obtain ⟨hz, hTI, ⟨a, b, hTO⟩, ⟨h1, hl⟩, h2⟩ := ok
    simp only [List.mem_cons, List.not_mem_nil, or_false, not_or] at hdf
    obtain ⟨dz, dTI, dTO, di1, di2, dl⟩ := hdf
    have hA1 : A.in1.handled = none := by simp [hA]
    have lz : l ≠ z := fun e => S.zf1 (by simp [e])
    have lTO : l ≠ TO := fun e => S.Tf1 (by simp [e])
    have l1 : l ≠ i1 := by
      intro e
      obtain ⟨o1, e1, c1, _⟩ := h1
      obtain ⟨o3, e3, c3, _⟩ := hl
      rw [e, e1] at e3
      cases e3
      rw [c1] at c3
      simp at c3
    have D1 : Draws prog w A.in1 i1 [i1, l] xs.size (fun i v => xs[i]? = some v) (fun i h => h.IsListIter i1 l i ∧ h.IsList l xs) := Draws.list hA1 i1 l l1 xs
    have D2 := draws_range (prog := prog) (w := w) hA1 i2 n
    refine wpAny_pyIter_zip hz (h z [z, TO, i1, i2] (fun i h => IsTupOf2 h TI (.ref i1) (.ref i2) ∧ (h.IsListIter i1 l i ∧ h.IsList l xs) ∧ IsRangeIter h i2 ((i : Nat) : Int) ((n : Int) - (i : Nat)) 1 ∧
      ((IsZip h z TI TO .none ∧ ∃ a b, IsTupOf2 h TO a b) ∨ ∃ T f oT, IsZipHeld h z TI TO T f ∧ h.get? T = some oT ∧ T ≠ z ∧ T ≠ i1 ∧ T ≠ i2 ∧ T ≠ d)) s.heap s.toks ?_
      ⟨hTI, ⟨h1, hl⟩, (by simpa using h2), .inl ⟨hz, a, b, hTO⟩⟩ (fun _ _ e => e) fun b hb => .inl hb)
    exact {
      off := fun hm => by
        simp only [List.mem_cons, List.not_mem_nil, or_false] at hm
        rcases hm with e | e | e | e
        · exact dz e
        · exact dTO e
        · exact di1 e
        · exact di2 e
      frame := fun i h₁ h₂ st hk => by
        obtain ⟨hTI, ⟨h1, hl⟩, h2, hz⟩ := st
        refine ⟨hk _ _ (Ne.symm dTI) hTI, ⟨h1.at fun o e => hk _ o (Ne.symm di1) e, hl.at fun o e => hk _ o (Ne.symm dl) e⟩, hk _ _ (Ne.symm di2) h2, ?_⟩
        rcases hz with ⟨hz, a, b, hTO⟩ | ⟨T, f, oT, hz, hT, r1, r2, r3, r4⟩
        · exact .inl ⟨hk _ _ (Ne.symm dz) hz, a, b, hk _ _ (Ne.symm dTO) hTO⟩
        · exact .inr ⟨T, f, oT, hk _ _ (Ne.symm dz) hz, hk _ _ r4 hT, r1, r2, r3, r4⟩
      item := fun i s₁ Q₁ E₁ hi st hds hQ => by
        obtain ⟨hTI, st1, h2, hz⟩ := st
        have lt : ∀ {c o}, s₁.heap.get? c = some o → s₁.heap.objs.size ≠ c := fun e => Nat.ne_of_gt (Heap.lt_size e)
        have n1 : s₁.heap.objs.size ≠ i1 := let ⟨_, e, _⟩ := st1.1; lt e
        have n2 : s₁.heap.objs.size ≠ i2 := lt h2
        rcases hz with ⟨hz, a, b, hTO⟩ | ⟨T, f, oT, hz, hT, r1, r2, r3, r4⟩
        · refine wpAny_pyNext_zipD2_item S D1 D2 hz hTI hTO st1 h2 (by omega) hi fun x1 x2 h' tk y1 y2 b1 b2 d1 d2 b5 b6 hk => ?_
          exact hQ s₁.heap.objs.size _ _ h' tk ⟨y1, y2⟩ (.inl ⟨_, b5, rfl, _, rfl⟩)
            ⟨hk _ _ S.TIz S.TITO S.TIi1 S.TIi2 hTI, d1, d2, .inr ⟨s₁.heap.objs.size, false, _, b1, b5, lt hz, n1, n2, Nat.ne_of_gt hds⟩⟩
            fun c o hc e => hk c o (fun x => hc (by simp [x])) (fun x => hc (by simp [x])) (fun x => hc (by simp [x])) (fun x => hc (by simp [x])) e
        · refine pyNext_held_item S D1 D2 hz hT hTI st1 h2 (by omega) hi fun x1 x2 h' tk y1 y2 b1 d1 d2 b5 b6 hk => ?_
          exact hQ s₁.heap.objs.size _ _ h' tk ⟨y1, y2⟩ (.inl ⟨_, b5, rfl, _, rfl⟩)
            ⟨hk _ _ S.TIz S.TIi1 S.TIi2 hTI, d1, d2, .inr ⟨T, true, oT, b1, hk _ _ r1 r2 r3 hT, r1, r2, r3, r4⟩⟩
            fun c o hc e => hk c o (fun x => hc (by simp [x])) (fun x => hc (by simp [x])) (fun x => hc (by simp [x])) e
      done := fun s₁ Q₁ E₁ st hQ => by
        obtain ⟨hTI, st1, h2, hz⟩ := st
        rcases hz with ⟨hz, a, b, hTO⟩ | ⟨T, f, oT, hz, hT, r1, r2, r3, r4⟩
        · exact wpAny_pyNext_zipD2_end S D1 D2 hz hTI hTO st1 h2 (by omega) (Nat.le_refl _) (.inr rfl) fun h' tk hk => hQ h' tk fun c o hc e => hk c o (fun x => hc (by simp [x])) (fun x => hc (by simp [x])) (fun x => hc (by simp [x])) (fun x => hc (by simp [x])) e
        · exact pyNext_held_end S D1 D2 hz hT hTI st1 h2 hn fun h' tk hk => hQ h' tk fun c o hc e => hk c o (fun x => hc (by simp [x])) (fun x => hc (by simp [x])) (fun x => hc (by simp [x])) e }
end Lf

set_option Elab.async false
set_option linter.all false
set_option maxRecDepth 100000
set_option maxHeartbeats 4000000
/-! dict(zip(found, range(len(found)))), found a list of tuples of numbers. -/
namespace Lf
open PySem PySem.Spec PyProof.Rows L2
theorem key_up {P : Program} {w : World} {H : Hp} {h h' : Heap} {a : Addr} {ks : List Key} (ok : HOk P w H h) (e : H a = some (.tup (ks.map kV))) (k : ∀ o, h.get? a = some o → h'.get? a = some o) : (tupleKind (mixKind P w)).is h' ks a := by
  obtain ⟨o, its, n, h1, h2, h3, r⟩ := key_of ok e
  exact ⟨o, its, n, k o h1, h2, h3, r⟩
theorem kt_keys {P : Program} {w : World} {H : Hp} {h h' : Heap} (ok : HOk P w H h) (k : ∀ a o, h.get? a = some o → h'.get? a = some o) : ∀ {l : List (List Key × V)} {m : List (List Key × Addr × Value)}, KT H l m → ∀ x ∈ m, (tupleKind (mixKind P w)).is h' x.1 x.2.1 := by
  intro l m q
  induction q with
  | nil => intro x hx; exact nomatch hx
  | @cons p q ps qs hq t ih =>
    intro x hx
    rcases List.mem_cons.mp hx with e | hx
    · subst e
      exact key_up ok (by rw [← hq.1]; exact hq.2.1) (k _)
    · exact ih x hx
def tDZ (K : PySem.W.Frag) (ta : TE) (tr : L2.St → Hp → (Int → Int → Hp → Prop) → Prop) : TE := fun σ H Q => ta σ H fun x H1 => tr σ H1 fun lo hi H2 => ∃ (a : Addr) (as : List Addr) (found : List (List Nat)), x = .ref a ∧ lo = 0 ∧ hi = ((found.length : Nat) : Int) ∧ found.length ≤ 100000 ∧ SqL K H2 a (as.map V.ref) ∧ as.length = found.length ∧
  (∀ (j : Nat) b x, as[j]? = some b → found[j]? = some x → H2 b = some (.tup (x.map fun i => V.int (i : Nat)))) ∧ found.Nodup ∧ ∀ p, H2 p = none → Q (.ref p) (L2.upd H2 p (.dT (dtab found)))
theorem call_dictZ {X : Cx} {pins : List (Addr × Obj)} {σ : L2.St} {H : Hp} {s : Shared} (hu : X.A.units + 9 < cLine) (hc : X.A.handled = none) (I : Inv X pins σ H s) {a r : Addr} {as : List Addr} {found : List (List Nat)} {t u v : Tok} {Q : VK}
    (hr : IsRange s.heap r 0 ((found.length : Nat) : Int) 1 t u v) (f2 : found.length ≤ 100000) (hs : SqL X.K H a (as.map V.ref)) (la : as.length = found.length) (el : ∀ (j : Nat) b x, as[j]? = some b → found[j]? = some x → H b = some (.tup (x.map fun i => V.int (i : Nat)))) (nd : found.Nodup)
    (q : ∀ p, H p = none → Q (.ref p) (L2.upd H p (.dT (dtab found)))) {h3 : Heap}
    (hz : IsZip h3 (s.heap.objs.size + 4) (s.heap.objs.size + 2) (s.heap.objs.size + 3) .none) (hTI : IsTupOf2 h3 (s.heap.objs.size + 2) (.ref s.heap.objs.size) (.ref (s.heap.objs.size + 1))) (hTO : IsTupOf2 h3 (s.heap.objs.size + 3) .none .none)
    (g1 : h3.get? s.heap.objs.size = some { cls := .type "list_iterator", data := .fields #[.ref a, .int 0 0] }) (g2 : h3.get? (s.heap.objs.size + 1) = some { cls := .type "range_iterator", data := .fields #[rawInt 0, rawInt ((found.length : Nat) : Int), rawInt 1] })
    (hsz : h3.objs.size = s.heap.objs.size + 5) (hk : ∀ c o, s.heap.get? c = some o → h3.get? c = some o) :
    wpAny (model X.prog X.w) X.A (call (.type "dict") [.ref (s.heap.objs.size + 4)]) (fun x s' => ∃ y H', Inv X pins σ H' s' ∧ RelV y x ∧ Q y H') X.xe { s with heap := h3 } := by
  obtain ⟨its, rv, pl, _⟩ := I.list hs
  have lb : a < s.heap.objs.size := pl.lt
  have li : its.length = found.length := by have := rv.length; rw [List.length_map] at this; omega
  have S : ZipSep2 (s.heap.objs.size + 4) (s.heap.objs.size + 2) (s.heap.objs.size + 3) s.heap.objs.size (s.heap.objs.size + 1) [s.heap.objs.size, a] [s.heap.objs.size + 1] := by
    have ne : ∀ k : Nat, s.heap.objs.size + k ≠ a := fun k => Nat.ne_of_gt (Nat.lt_of_lt_of_le lb (Nat.le_add_right _ _))
    have nm : ∀ {x y : Addr}, x ≠ y → x ≠ a → x ∉ [y, a] := fun h1 h2 h => by
      simp only [List.mem_cons, List.not_mem_nil, or_false] at h
      exact h.elim h1 h2
    refine ⟨?_, ?_, ?_, ?_, List.mem_cons_self, nm ?_ (ne 4), nm ?_ (ne 3), ?_, List.mem_cons_self, fun h => ?_, fun h => ?_, fun h => ?_, nm ?_ (ne 1)⟩
    all_goals first | (intro h; have h' : (_ : Nat) = _ := h; omega) | (have h' : (_ : Nat) = _ := List.mem_singleton.mp h; omega)
  refine call_dict_arg (pairZipR _ _ _ _ _ a S its.toArray found.length (by simp [li])) ⟨hz, hTI, ⟨_, _, hTO⟩, ⟨⟨_, g1, rfl, rfl⟩, pl.isList.at fun o e => hk _ o e⟩, g2⟩ fun s₁ hs₁ hdf ok₁ => ?_
  subst hs₁
  have small : ∀ {c : Addr} {o : Obj}, s.heap.get? c = some o → c ≠ h3.objs.size ∧ c ∉ [s.heap.objs.size + 4, s.heap.objs.size + 3, s.heap.objs.size, s.heap.objs.size + 1] := fun {c o} e => by
    have l : c < s.heap.objs.size := Heap.lt_size e
    have ne : ∀ k : Nat, c ≠ s.heap.objs.size + k := fun k => Nat.ne_of_lt (Nat.lt_of_lt_of_le l (Nat.le_add_right _ _))
    refine ⟨by rw [hsz]; exact ne 5, fun h => ?_⟩
    simp only [List.mem_cons, List.not_mem_nil, or_false] at h
    rcases h with h | h | h | h
    · exact ne 4 h
    · exact ne 3 h
    · exact ne 0 h
    · exact ne 1 h
  have knt : ∀ {i : Nat} {xs : List (List Key × Addr × Value)}, KT H (dtab (found.take i)) xs → xs.length ≤ 100000 := fun {i xs} r => by
    have e1 := Paired.length r
    have e2 : (dtab (found.take i)).length = (found.take i).length := dtabF_len
    have e3 : (found.take i).length ≤ found.length := by rw [List.length_take]; omega
    omega
  have hsl := sizeLine_eq
  refine updateFrom_arg (A := X.A.in1) (d := h3.objs.size)
    (Tab := fun i h => (∃ xs, KT H (dtab (found.take i)) xs ∧ h.DictOfH (tupleKind (mixKind X.prog X.w)) h3.objs.size xs) ∧ ∀ c o, s.heap.get? c = some o → h.get? c = some o)
    (pairZipR _ _ _ _ _ a S its.toArray found.length (by simp [li])) .none hc ok₁ hdf ⟨⟨[], .nil, Heap.DictOfH.new h3⟩, fun c o e => Heap.get?_push_of_some _ (hk c o e)⟩ (fun _ _ tb => by obtain ⟨⟨_, _, y⟩, _⟩ := tb; exact y.lt_size) (fun i h h' wr' hd hw tb hk' => ?_) (fun i k v s' Q' E' hi hrel tb _ hQ => ?_) (fun h' tk tb hk' => ?_)
  · obtain ⟨⟨xs, r, y⟩, up⟩ := tb
    have up' : ∀ c o, s.heap.get? c = some o → h'.get? c = some o := fun c o e => hk' c o (fun hm => by
      rcases hw c hm with z | z
      · exact (small e).2 z
      · rw [Heap.get?_push_of_some _ (hk c o e)] at z
        cases z) (up c o e)
    exact ⟨⟨xs, r, y.at' (fun o e => hk' _ o hd e) (kt_keys I.hok up' r)⟩, up'⟩
  · obtain ⟨⟨xs, r, y⟩, up⟩ := tb
    obtain ⟨hk1, tt, rfl⟩ := hrel
    obtain ⟨b, hb⟩ := Mon.lt_get' (show i < as.length by omega)
    obtain ⟨x, hx⟩ := Mon.lt_get' hi
    obtain ⟨u', hu', ru⟩ := rv.get (i := i) (x := .ref b) (by rw [List.getElem?_map, hb]; rfl)
    have ek : k = .ref b := by
      have e1 : its[i]? = some k := by simpa using hk1
      rw [hu'] at e1
      have e2 : u' = .ref b := ru
      rw [← Option.some.inj e1, e2]
    subst ek
    have hH : H b = some (.tup ((kt x).map kV)) := by rw [kt_map]; exact el i b x hb hx
    have nx : x ∉ found.take i := fun hm => by
      obtain ⟨j, hj⟩ := List.getElem?_of_mem hm
      have jl := Mon.get_lt' hj
      rw [List.length_take] at jl
      rw [List.getElem?_take_of_lt (by omega)] at hj
      have := Mon.nodup_at nd hj hx
      omega
    have lt : (found.take i).length = i := by rw [List.length_take]; omega
    refine wpAny_dictSet_heap (hsz := by have := knt r; omega) (knd := tupleKind (mixKind X.prog X.w)) (show (tupleKind (mixKind X.prog X.w)).room X.A.in1.in1 from (by show X.A.units + 1 + 1 < cLine; omega)) (key_up I.hok hH (up b)) y fun h' hm' hs' => ?_
    refine hQ h' _ ⟨⟨_, ?_, hm'⟩, fun c o e => hs'.extBut c o (small e).1 (up c o e)⟩ hs'
    have p := KT.put r (kt x) (y := .int ((i : Nat) : Int)) (u := .int ((i : Nat) : Int) tt) hH ⟨tt, rfl⟩
    have e := dtab_put nx
    rw [lt] at e
    rw [e] at p
    have et : found.take (i + 1) = found.take i ++ [x] := by rw [List.take_add_one, hx]; rfl
    rw [et]
    exact p
  · obtain ⟨⟨xs, r, y⟩, up⟩ := tb
    rw [List.take_of_length_le (Nat.le_refl _)] at r
    have hd : (h3.objs.size == sysModules) = false := beq_eq_false_iff_ne.mpr (Nat.ne_of_gt (by have := I.big; rw [hsz]; exact Nat.lt_of_lt_of_le this (Nat.le_add_right _ _)))
    have hle : s.heap.objs.size ≤ h3.objs.size := by rw [hsz]; exact Nat.le_add_right _ _
    have hn := I.hok.fresh hle
    obtain ⟨o, es, ep, h1, h2, h3', h4, _, h5⟩ := y
    refine ⟨rfl, .ref h3.objs.size, _, I.laid (t' := tk) up hle (show ObjOk X.prog X.w _ _ _ (.dT (dtab found)) from ⟨?_, hd, xs, r.keeps fun c ys ec => ?_, o, es, ep, h1, h2, h3', h4, h5⟩), rfl, q _ hn⟩
    · have e2 : (dtab found).length = found.length := dtabF_len
      omega
    · rw [upd_ne (ne_of_none ec hn)]
      exact ec
theorem pe_dictZip {X : Cx} {e r : Expr} {te : TE} {tr : L2.St → Hp → (Int → Int → Hp → Prop) → Prop} {p1 p2 pos1 pos2 : Pos} (hu : X.A.units + 9 < cLine) (hc : X.calm = true) (hgd : Gl X "dict") (hmd : X.mg "dict" = none) (hgz : Gl X "zip") (hmz : X.mg "zip" = none) (he : PE X e te) (hr : PRg X r tr)
    (n1 : starEach [.Call (.Name "zip" p2) [e, r] [] pos2] X.env = (false, eval (.Call (.Name "zip" p2) [e, r] [] pos2) X.env) :: starEach [] X.env := by rfl)
    (n2 : starEach [e, r] X.env = (false, eval e X.env) :: starEach [r] X.env := by rfl) (n3 : starEach [r] X.env = (false, eval r X.env) :: starEach [] X.env := by rfl) (hp : (backTo pos2 (starEach [r] X.env)).any (·.1) = false := by rfl) :
    PE X (.Call (.Name "dict" p1) [.Call (.Name "zip" p2) [e, r] [] pos2] [] pos1) (tDZ X.K te tr) := by
  refine ⟨fun pins s σ H Q I h => ?_⟩
  refine Call_ (ld_blt I hgd hmd boot_dict (PyProof.Rows.callWith_type1 (args_cons (Call_ (ld_blt I hgz hmz PyProof.Rows.boot_zip (PyProof.Rows.callWith_type1 (args_cons (thn (he.run pins s σ H _ I h) fun v s1 ⟨x, H1, I1, rx, q1⟩ =>
    args_cons (thn (hr pins s1 σ H1 _ I1 q1) fun y s2 ⟨r', lo, hi, t, u, vv, H2, ey, hrng, I2, q2⟩ => args_nil ?_) n3) n2) n2 hp))) n1) n1))
  obtain ⟨a, as, found, rfl, rfl, rfl, f2, hs, la, el, nd, q⟩ := q2
  subst ey
  obtain rfl : v = Value.ref a := rx
  obtain ⟨its, rv, pl, _⟩ := I2.list hs
  refine zip_begins2 (begins_list a its.toArray) (begins_range r' found.length t u vv (by omega)) pl.isList hrng fun h3 hz hTI hTO g1 g2 hsz hk => ?_
  exact args_nil (call_dictZ hu (I2.ok.hd hc) I2 hrng f2 hs la el nd q hz hTI hTO g1 g2 hsz hk)
end Lf

set_option Elab.async false
set_option linter.all false
set_option maxRecDepth 100000
set_option maxHeartbeats 4000000
/-! What repr tells of data, held against what repr tells. -/
namespace Lf
open PySem PySem.Spec PyProof.Rows L2
/-- data that repr tells, in signs that stand -/
structure Rp (K : PySem.W.Frag) (H : Hp) (v : V) (d : PyData) : Prop where
  dp : Dp K H v d
  sh : d.showable = true
  nd : d.hasDict = false
  de : d.depth ≤ 7
  le : d.shown.length ≤ sizeLine
  ok : PyData.strOk d.shown = true
theorem Rp.same {K : PySem.W.Frag} {H H' : Hp} {v : V} {d : PyData} (h : Rp K H v d) (e : Same H H') : Rp K H' v d := ⟨dp_same e h.dp, h.sh, h.nd, h.de, h.le, h.ok⟩
theorem char_ok : ∀ c < 128, (∀ d ∈ Builtin.Str.reprChar 34 c, d < 1114112) ∧ ∀ d ∈ Builtin.Str.reprChar 39 c, d < 1114112 := by decide +kernel
theorem all_of {x : Str} (h : ∀ c ∈ x.cps.toList, c < 1114112) : PyData.strOk x = true := by
  unfold PyData.strOk
  rw [← Array.all_toList, List.all_eq_true]
  intro c hc
  exact decide_eq_true (h c hc)
theorem fold_signs {q : Nat} (hq : ∀ c < 128, ∀ d ∈ Builtin.Str.reprChar q c, d < 1114112) : ∀ (l : List Nat) (acc : Array Nat), (∀ c ∈ l, c < 128) → (∀ d ∈ acc.toList, d < 1114112) → ∀ d ∈ (l.foldl (fun out c => out ++ (Builtin.Str.reprChar q c).toArray) acc).toList, d < 1114112
  | [], acc, _, h => h
  | c :: r, acc, hl, h => by
    rw [List.foldl_cons]
    refine fold_signs hq r _ (fun d hd => hl d (List.mem_cons_of_mem _ hd)) fun d hd => ?_
    rw [Array.toList_append] at hd
    rcases List.mem_append.mp hd with z | z
    · exact h d z
    · exact hq c (hl c List.mem_cons_self) d z
theorem repr_signs {cs : List Nat} (h : ∀ c ∈ cs, c < 128) : PyData.strOk (reprText (tx cs)) = true := by
  refine all_of fun d hd => ?_
  unfold reprText at hd
  rw [Array.toList_push] at hd
  have hq : reprQuote (tx cs) = 34 ∨ reprQuote (tx cs) = 39 := by
    unfold reprQuote
    split
    · exact .inl rfl
    · exact .inr rfl
  have q1 : reprQuote (tx cs) < 1114112 := by rcases hq with z | z <;> omega
  rcases List.mem_append.mp hd with z | z
  · rw [← Array.foldl_toList] at z
    refine fold_signs (q := reprQuote (tx cs)) ?_ _ _ h ?_ d z
    · intro c hc
      rcases hq with y | y <;> rw [y]
      · exact (char_ok c hc).1
      · exact (char_ok c hc).2
    · intro d hd
      rw [List.mem_singleton.mp hd]
      exact q1
  · rw [List.mem_singleton.mp z]
    exact q1
theorem rp_txt {K : PySem.W.Frag} {H : Hp} {cs : List Nat} (h : ∀ c ∈ cs, c < 128) (l : cs.length ≤ 100000) : Rp K H (.str (tx cs)) (.str (tx cs)) where
  dp := .str _
  sh := rfl
  nd := rfl
  de := by show 0 ≤ 7; decide
  le := by
    have := StrLaws.reprText_len (tx cs) fun c hc => by
      have := h c hc
      have : (128 : Nat) < 16 ^ 8 := by decide
      omega
    rw [tx_len] at this
    show (reprText (tx cs)).length ≤ 16777216
    omega
  ok := repr_signs h
/-- a tuple of two texts -/
theorem dp_pair {K : PySem.W.Frag} {H : Hp} {t : Addr} {a b : Str} (h : H t = some (.tup [.str a, .str b])) : Dp K H (.ref t) (.tuple [.str a, .str b]) := .tup (SqT.of h) (.cons (.str a) (.cons (.str b) .nil))
theorem pair_shaped {a b : Str} (ha : PyData.strOk a = true) (hb : PyData.strOk b = true) : SeqAt.shaped (.tuple [.str a, .str b]) = true := by
  unfold SeqAt.shaped
  simp [PyData.canLay0, PyData.canLayAll0, PyData.depth, PyData.depthAll, ha, hb]
end Lf

set_option Elab.async false
set_option linter.all false
set_option maxRecDepth 100000
set_option maxHeartbeats 8000000
namespace K14
open PySem PySem.Spec PyProof.Rows L2 Lf
abbrev NL : List Str := ["_law_script", "_law_cell", "_law_source_here", "_law_turn", "_law_rows", "_law_found", "_law_words", "_law_table_here", "_law_monoid", "_law_told", "_law_numbers", "_law_due", "_law_one", "_law_row"]
def spLaw (K : PySem.W.Frag) : Sp := fun vs H Q _ => ∃ (a : Addr) (ns : List Int), vs = [.ref a] ∧ SqL K H a (ns.map V.int) ∧ ns.length ≤ 63 ∧ ∀ H', Q (.bl true) H'
/-- words as data -/
def dW (x : List Nat) : PyData := .str (ws x)
theorem dW_lay {x : List Nat} (h : ∀ c ∈ x, c < 6) : (dW x).canLay0 = true ∧ (dW x).depth ≤ 0 := by
  refine ⟨?_, by simp [dW, PyData.depth]⟩
  show PyData.strOk (ws x) = true
  refine all_of fun c hc => ?_
  obtain ⟨d, hd, rfl⟩ := List.mem_map.mp (show c ∈ x.map fun c => 97 + c from by simpa [ws] using hc)
  have := h d hd
  omega
theorem words_sh {l : List (List Nat)} (h : ∀ x ∈ l, ∀ c ∈ x, c < 6) : SeqAt.shaped (.list (l.map dW)) = true := sh_lay (lst_lay fun d hd => by
  obtain ⟨x, hx, rfl⟩ := List.mem_map.mp hd
  exact dW_lay (h x hx)) (by decide)
theorem dpW {K : PySem.W.Frag} {H : Hp} : ∀ {l : List (List Nat)}, DpAll K H (l.map wv) (l.map dW)
  | [] => .nil
  | x :: l => .cons (.str _) dpW
theorem cut_init {l : List V} {v : V} : cutV (l ++ [v]) none (some (-1)) = l := by
  have e : HT.sIx (l ++ [v]).length (l ++ [v]).length (some (-1)) = l.length := by
    have h := HT.clip_eq (-1) (l ++ [v]).length (l ++ [v]).length
    rw [if_pos (by decide), List.length_append, List.length_singleton] at h
    rw [List.length_append, List.length_singleton]
    omega
  unfold cutV
  rw [e, HT.sIx_none]
  simp
theorem left_rows {n : Nat} {gens found rows : List (List Nat)} {m : List (Nat × Nat)} (T : Mon.Tab n gens found rows) (g1 : 1 ≤ gens.length) (hm : Mon.madeTab 0 rows [] = some m) {k : Nat} {l : List Nat} (h : (Mon.leftTab rows m)[k]? = some l) : Mon.LeftOk gens found k l :=
  Mon.left_ok T (List.ne_nil_of_length_pos (by omega)) m (fun k p hp => Mon.madeTab_lt hm hp) k l h
def scOne : Scope := { kind := .function, names := [(".0", .local), ("_law_one", .cell), ("tuple", .globalImplicit), ("_law_numbers", .cell), ("_law_rows", .cell)], isGenerator := false, isCoroutine := false }
abbrev teInL (K : PySem.W.Frag) : TE := tDGet (tVar 10) (fun σ H Q => (tCons (tVar 13) (tCons (tVar 12) tNil)) σ H fun vs H1 => spProd K vs H1 Q E0)
abbrev teRow (K : PySem.W.Frag) : TE := tCB (rTup K) (tCons (tLc (iList K (tVar 4)) (gName 13) tYes (teInL K) [13]) tNil)
/-- one row of what is due -/
theorem one_row {K : PySem.W.Frag} {H : Hp} {p d a : Addr} {n i : Nat} {gens found rows : List (List Nat)} {m : List (Nat × Nat)} {x li : List Nat} {v0 v1 v2 v3 v5 v6 v7 v8 v9 v11 v13 : Option V} {Q : VK} (Mg : Maps H p gens) (hd : H d = some (.dT (dtab found))) (T : Mon.Tab n gens found rows) (n4 : n ≤ 4) (g6 : gens.length ≤ 6)
    (ha : H a = some (.tup (x.map nv))) (hx : found[i]? = some x) (hl : Mon.LeftOk gens found i li)
    (k : ∀ t H', H t = none → Same H H' → H' t = some (.tup (li.map nv)) → Q (.ref t) H') :
    teRow K [v0, v1, v2, v3, some (.ref p), v5, v6, v7, v8, v9, some (.ref d), v11, some (.ref a), v13] H Q := by
  obtain ⟨gs, hp, lg, eg⟩ := Mg.ex
  obtain ⟨ll, le⟩ := hl
  refine ⟨_, rfl, p, rfl, ⟨_, SqL.of hp⟩, fun D nD => ?_⟩
  refine lc_list (K := K) (a := p) (xs := gs.map V.ref) (fun c Hd => But D H Hd ∧ Hd D = some (.lst ((li.take c).map nv))) ⟨But.upd, upd_same⟩ (fun c Hd _ ⟨bd, _⟩ => SqL.of ((Same.but (L2.Same.refl _) nD bd) _ _ hp)) (fun c y Hd hy ⟨bd, hD⟩ => ?_) (fun Hd ⟨bd, hD⟩ => ?_)
  · obtain ⟨ga, hga, rfl⟩ := map_get hy
    have sd := Same.but (L2.Same.refl _) nD bd
    have cl := get_lt hga
    obtain ⟨g, hg⟩ := lt_get (show c < gens.length by omega)
    obtain ⟨e, he⟩ := lt_get (show c < li.length by omega)
    obtain ⟨g', x', h1, h2, h3⟩ := le c e he
    rw [hg] at h1
    rw [hx] at h2
    cases h1
    cases h2
    refine ⟨rfl, yesT ?_⟩
    refine ⟨_, rfl, _, rfl, _, rfl, ga, a, g, x, n, rfl, SqT.of (sd _ _ (eg c ga g hga hg)), SqT.of (sd _ _ ha), T.vg g (List.mem_of_getElem? hg), T.vf hx, by omega, fun t H5 nt s5 ht => ?_⟩
    have hv := dtabF_some (k := 0) T.nd h3
    have ht' : H5 t = some (.tup ((kt (Mon.comp g x)).map kV)) := by rw [kt_map]; exact ht
    refine ⟨d, .int ((0 + e : Nat) : Int), rfl, (by have z := DGet.t (k := kt (Mon.comp g x)) (s5 _ _ (sd _ _ hd)) ht'; rw [hv] at z; exact z), ?_⟩
    refine ⟨_, s5 _ _ hD, ?_, bd.trans ((But.of s5).trans But.upd), ?_⟩
    · rw [List.length_map, List.length_take]
      show min c li.length < 16777216
      omega
    · rw [upd_same, take_snoc he, List.map_append, Nat.zero_add]
      rfl
  · have sd := Same.but (L2.Same.refl _) nD bd
    rw [List.length_map, lg, ← ll, List.take_length] at hD
    refine ⟨D, _, rfl, .inl ⟨SqL.of hD, fun t nt => k t _ (nil_of sd nt) (sd.trans (same_upd nt)) upd_same⟩⟩
section
variable {P : Program} {w : World} {K : PySem.W.Frag} {mg : Str → Option Value} {base : Heap}
theorem scLaw : FnScope NL ["_law_script"] (defScope s_law) := ⟨rfl, rfl, rfl, by decide +kernel, rfl, by decide +kernel, by decide +kernel⟩
theorem ok_law {f : Addr} {fd : FuncData} {q : Str} (F : FunD K "law" q (defArgs s_law) (defBody s_law) (defScope s_law) [] [] f fd) (T : Txt P w K mg base)
    (DS : Def P w K mg base CX0 1 "_law_source" ["_law_cell"] spSource) (DM : Def P w K mg base CX0 2 "_law_maps" ["_law_source_here", "_law_most_points", "_law_most_letters"] spMaps) (DT : Def P w K mg base CX0 1 "_law_table" ["_law_rows"] (spTable K))
    (DP : Def P w K mg base CX0 1 "_law_product" ["_law_one", "_law_other"] (spProd K)) (DWR : Def P w K mg base CX0 4 "_law_words_right" ["_law_source_here", "_law_monoid", "_law_rows", "_law_found"] (spWordsR K)) (DPR : DefG P w K mg base CX0 5 "_law_products_right" ["_law_source_here", "_law_monoid", "_law_found"] (spProdsR K))
    {fm : Addr} {fdm : FuncData} (mM : Mk K (He.ga K "Monoid") fm) (FM : FnOk P w K mg base CX0 4 fm fdm ["self", "right"] (spMon K)) (bM : Binds K fdm ["self", "right"] [])
    (DW : DefM P w K mg base CX0 1 "words" ["self"] (spWords K)) (DZ : DefM P w K mg base CX0 1 "size" ["self"] (spSize K)) (DL : DefM P w K mg base CX0 1 "left" ["self"] (spLeftM K)) :
    FnG P w K mg base CX0 6 f fd ["_law_script"] (spLaw K) := by
  have cl : L2.Cls K (He.ga K "Monoid") := He.cls_ok (T.d.fact 46 (f := .cls "Monoid") rfl)
  have zr : mg "range" = none := T.fr 41 "range" rfl
  have zn : mg "len" = none := T.fr 39 "len" rfl
  have zt : mg "tuple" = none := T.fr 44 "tuple" rfl
  have zd : mg "dict" = none := T.fr 35 "dict" rfl
  have zz : mg "zip" = none := T.fr 45 "zip" rfl
  obtain ⟨fw, fdw, mw, Fw, bw⟩ := DW.ex
  obtain ⟨fz, fdz, mz, Fz, bz⟩ := DZ.ex
  obtain ⟨fl, fdl, ml, Fl, bl⟩ := DL.ex
  refine okG F scLaw (fun vs H Q E h => ?_) (fun cdv A outer s H vs Q E hgd hr h => ?_)
  · obtain ⟨a, ns, rfl, _⟩ := h
    rfl
  · obtain ⟨a, ns, rfl, hS, hlen, fin⟩ := h
    have R1 : Room 1 _ := hr.mono (by decide)
    have R2 : Room 2 _ := hr.mono (by decide)
    have R4 : Room 4 _ := hr.mono (by decide)
    have hu : (A.deeper (envOfC q (defScope s_law) s.heap.objs.size f cdv)).units + 64 < cLine := hr.units
    have hu9 : (A.deeper (envOfC q (defScope s_law) s.heap.objs.size f cdv)).units + 9 < cLine := by omega
    have hu1 : (A.deeper (envOfC q (defScope s_law) s.heap.objs.size f cdv)).units + 1 < cLine := by omega
    refine ⟨_, PSs.nox (pss_cons (ps_for PassesOwn.never rfl (pi_list (pe_slice sl_list (pe_op op_catL (pv 0) (pe_lst (pa_cons pe_int pa_nil))) po_none (po_some pe_int))) (pg_name (i := 1) scLaw.nd rfl (.inl rfl))
        (pss_cons (ps_set (i := 2) scLaw.nd rfl (.inl rfl) (pe_def DS R1 pass0 rfl (pa_cons (pv 1) pa_nil)))
        (pss_one (ps_for PassesOwn.never rfl (pi_range1 rfl zr (pa_cons pe_int pa_nil)) (pg_name (i := 3) scLaw.nd rfl (.inl rfl))
          (pss_cons (ps_set (i := 4) scLaw.nd rfl (.inr rfl) (pe_def DM R2 pass0 rfl (pa_cons (pv 2) (pa_cons pe_int (pa_cons pe_int pa_nil)))))
          (pss_cons (ps_asg (pe_def DT R1 pass0 rfl (pa_cons (pv 4) pa_nil)) (pg_tup rfl (pgs_cons (pg_name (i := 5) scLaw.nd rfl (.inl rfl)) (pgs_cons (pg_name (i := 6) scLaw.nd rfl (.inl rfl)) (pgs_cons (pg_name (i := 7) scLaw.nd rfl (.inl rfl)) pgs_nil)))))
          (pss_cons (ps_set (i := 8) scLaw.nd rfl (.inl rfl) (pe_make mM FM hr rfl (T.gl 4 "Monoid" rfl) bM .nil pass0 (pa_cons (pv 7) pa_nil)))
          (pss_cons (ps_set (i := 9) scLaw.nd rfl (.inl rfl) (pe_meth0 (pv 8) cl mw Fw R1 bw .nil pass0))
          (pss_cons (ps_expr (pe_bm PySem.F.plainAttrs_list PySem.F.slot_list_append PySem.F.type_list_append mt_append (pv 9) (pa_cons pe_str pa_nil)))
          (pss_cons (ps_if (PW.pt (pw_or (pt_cmpR (op_neD hu) (pe_meth0 (pv 8) cl mw Fw R1 bw .nil pass0) (pv 6) (nomark _)) (pw_or (pt_cmpR op_ne (pe_meth0 (pv 8) cl mz Fz R1 bz .nil pass0) (pe_callB call_len_seq rfl zn boot_len (pa_cons (pv 5) pa_nil)) (nomark _)) (pw_or1 (pt_cmpR (op_neD hu) (pe_slice sl_list (pv 9) po_none (po_some (pe_un un_neg pe_int))) (pv 6) (nomark _)))))) (pss_one (ps_ret pe_bl)) pss_nil)
          (pss_cons (ps_if (PW.pt (pw_or (pt_not (pt_val (pe_def DWR R4 pass0 rfl (pa_cons (pv 2) (pa_cons (pv 8) (pa_cons (pv 4) (pa_cons (pv 5) pa_nil))))))) (pw_or1 (pt_not (pt_val (pe_defG DPR hgd hr pass0 rfl (pa_cons (pv 2) (pa_cons (pv 8) (pa_cons (pv 5) pa_nil))))))))) (pss_one (ps_ret pe_bl)) pss_nil)
          (pss_cons (ps_set (i := 10) scLaw.nd rfl (.inr rfl) (pe_dictZip hu9 rfl rfl zd rfl zz (pv 5) (prg_1 rfl zr (pe_callB call_len_seq rfl zn boot_len (pa_cons (pv 5) pa_nil)))))
          (pss_cons (ps_setLc (i := 11) (own := [("_law_one", 12)]) (g := gName 12) (te := teRow K) rfl scLaw.nd rfl rfl (by rfl) (pi_list (pv 5)) (blkOk_by (own := [("_law_one", 12)]) (N := NL) (sc := defScope s_law) (by decide +kernel)) (fun _ _ _ _ _ => pg_name (i := 12) scLaw.nd rfl (Or.inr rfl)) (fun _ _ _ _ _ => pts_nil)
            (fun _ _ _ _ _ => by exact pe_callTy call_tuple_of rfl zt PyProof.Rows.boot_tuple (pa_cons (pe_lc (own := [("_law_row", 13)]) (g := gName 13) (te := teInL K) (by rfl) scLaw.nd (pi_list (pv 4)) (blkOk_by (own := [("_law_row", 13)]) (N := NL) (sc := scOne) (by decide +kernel)) (fun _ _ _ _ _ => pg_name (i := 13) scLaw.nd rfl (Or.inl rfl)) (fun _ _ _ _ _ => pts_nil)
              (fun _ _ _ _ _ => by exact pe_dget hu1 (pv 10) (pe_def DP R1 pass0 rfl (pa_cons (pv 13) (pa_cons (pv 12) pa_nil))) (fun _ _ => rfl))) pa_nil)))
          (pss_one (ps_if (pt_cmpR (op_neD hu) (pe_meth0 (pv 8) cl ml Fl R1 bl .nil pass0) (pe_callTy call_tuple_of rfl zt PyProof.Rows.boot_tuple (pa_cons (pv 11) pa_nil)) (nomark _)) (pss_one (ps_ret pe_bl)) pss_nil)))))))))))))))
      (pss_one (ps_ret pe_bl))), ?_⟩
    refine ⟨_, rfl, (by show 1 ≤ sizeLine; decide), fun z hz => ⟨a, z, _, _, rfl, rfl, L2.Same.seq (same_upd hz) hS, SqL.of upd_same, ?_, fun l0 h0 => ?_⟩⟩
    · rw [List.length_map]
      show ns.length + 1 ≤ 16777216
      omega
    refine ⟨3, rfl, l0, _, rfl, SqL.of upd_same, fun l1 h1 => ⟨l1, rfl, ⟨_, SqL.of upd_same⟩, ?_⟩⟩
    generalize hHs : L2.upd (L2.upd (L2.upd H z _) l0 _) l1 _ = Hs
    have at1 : Hs l1 = some (.lst (cutV (ns.map V.int ++ [.int 0]) none (some 3))) := by rw [← hHs]; exact upd_same
    clear hHs
    refine for_list (K := K) (a := l1) (xs := cutV (ns.map V.int ++ [.int 0]) none (some 3)) (fun i σ H' => ∃ v1 v2 v3 v4 v5 v6 v7 v8 v9 v10 v11 : Option V, σ = [some (.ref a), v1, v2, v3, v4, v5, v6, v7, v8, v9, v10, v11, none, none] ∧ Same Hs H')
      ⟨none, none, none, none, none, none, none, none, none, none, none, rfl, L2.Same.refl _⟩ (fun i σ H' _ ⟨_, _, _, _, _, _, _, _, _, _, _, _, e⟩ => SqL.of (e _ _ at1)) ?_ (fun σ H' ⟨_, _, _, _, _, _, _, _, _, _, _, _, _⟩ => ?_)
    · rintro i y σ H1 hi ⟨v1, v2, v3, v4, v5, v6, v7, v8, v9, v10, v11, rfl, e1⟩
      obtain ⟨nn, rfl⟩ : ∃ n, y = V.int n := by
        have hm := List.mem_of_getElem? hi
        have hm2 := List.mem_of_mem_drop (List.mem_of_mem_take hm)
        rcases List.mem_append.mp hm2 with q | q
        · obtain ⟨n, _, e⟩ := List.mem_map.mp q
          exact ⟨n, e.symm⟩
        · exact ⟨0, List.mem_singleton.mp q⟩
      refine ⟨_, rfl, nn, rfl, fun l H2 nl s2 src2 => ?_⟩
      have e2 : Same Hs H2 := e1.trans s2
      have off : ∀ b o, Hs b = some o → b ≠ l := fun b o h => ne_of_none (e1 _ _ h) nl
      refine ⟨2, rfl, by decide, by decide, ?_⟩
      refine for_range (lo := 0) (n := 2) (fun j σ H' => ∃ v3 v4 v5 v6 v7 v8 v9 v10 v11 : Option V, σ = [some (.ref a), some (.int nn), some (.ref l), v3, v4, v5, v6, v7, v8, v9, v10, v11, none, none] ∧ Same Hs H' ∧ Src H' l (670 * j)) ⟨v3, v4, v5, v6, v7, v8, v9, v10, v11, rfl, e2, src2⟩ (fun j σ H3 hj ⟨v3, v4, v5, v6, v7, v8, v9, v10, v11, eσ, e3, src3⟩ => ?_) (fun σ H3 ⟨v3, v4, v5, v6, v7, v8, v9, v10, v11, eσ, e3, src3⟩ => ?_)
      · subst eσ
        refine ⟨_, rfl, l, 670 * j, 4, 6, rfl, src3, by omega, by decide, by decide, by decide, by decide, fun p gens n H4 b4 np M4 ne g6 n1 n4 gv src4 => ?_⟩
        have e4 : Same Hs H4 := fun b o e => b4 _ _ (off b o e) (e3 _ _ e)
        have g1 : 1 ≤ gens.length := List.length_pos_iff.mpr ne
        clear b4 src3 e3
        refine ⟨_, rfl, p, n, gens, rfl, M4, ne, g6, n1, n4, gv, fun TT pf pw pt pn as bs found rows m H5 s5 nT hT L Tb hm lm ⟨npf, npw, npt, nbs⟩ => ?_⟩
        refine ⟨TT, _, rfl, SqT.of hT, rfl, _, _, rfl, _, _, rfl, _, _, rfl, rfl, ?_⟩
        have f256 : found.length ≤ 256 := by
          have f1 := Mon.maps_few Tb.nd Tb.val
          have f2 : n ^ n ≤ 256 := by
            have : n = 1 ∨ n = 2 ∨ n = 3 ∨ n = 4 := by omega
            rcases this with rfl | rfl | rfl | rfl <;> decide
          omega
        have rl := Tb.len
        have ac := accept_of Tb ne g6 (by omega) hm lm
        have FO := ac.form
        have m2 : m.length ≤ 2000 := by omega
        refine ⟨_, rfl, fun x dx nx ndx xdx => ?_⟩
        have u1 := same_upd (o := .own x) ndx
        have nx1 : L2.upd H5 dx (.own x) x = none := by rw [upd_ne (Ne.symm xdx)]; exact nx
        have u2 := u1.trans (same_upd (o := .ins (He.ga K "Monoid") dx []) nx1)
        have hx2 : L2.upd (L2.upd H5 dx (.own x)) x (.ins (He.ga K "Monoid") dx []) x = some (.ins (He.ga K "Monoid") dx []) := upd_same
        generalize L2.upd (L2.upd H5 dx (.own x)) x (.ins (He.ga K "Monoid") dx []) = H6 at u2 hx2 ⊢
        have L2' := L.same u2
        refine ⟨x, pt, dx, rows, gens.length, m, rfl, hx2, ⟨bs, SqL.of L2'.t, L2'.tl, fun j b r h1 h2 => SqL.of (L2'.te j b r h1 h2)⟩, ac, fun H7 b7 mo => ⟨rfl, ?_⟩⟩
        have s57 : Same H5 H7 := fun b o e => b7 _ _ (ne_of_none e nx) (u2 _ _ e)
        have s47 : Same H4 H7 := s5.trans s57
        have L7 : Lay H7 pf pw pt pn as bs found (Mon.wordTab m) rows := L.same s57
        have MM7 : MM K H7 x rows m n gens found := ⟨mo, FO, hm, lm, Tb, n1, n4⟩
        have Mg7 := M4.same s47
        have e7 := e4.trans s47
        have src7 := src4.same s47
        clear u1 u2 nx1 hx2 L2' b7 hT nT L s57 s47 mo s5 e4 src4 nx ndx xdx
        obtain ⟨dx0, tr0, u0, v0, hx7, _⟩ := id MM7.mo.ex
        have Mf7 : Maps H7 pf found := ⟨as, L7.f, L7.fl, L7.fe⟩
        have hw7 := L7.w
        clear L7 npf npw npt nbs M4
        -- words
        refine ⟨_, rfl, x, dx0, _, rfl, hx7, rfl, x, rows, m, gens.length, rfl, MM7.mo, FO, hm, m2, fun lt H8 s8 nlt hlt => ?_⟩
        have wlen : (Mon.wordTab m).length = m.length + 1 := Mon.word_len
        refine ⟨_, rfl, .inl ⟨rfl, _, SqL.of hlt⟩, lt, _, _, rfl, rfl, hlt, (by rw [List.length_map, wlen]; show m.length + 1 < 16777216; omega), ?_⟩
        have s9 : Same H7 (L2.upd H8 lt (.lst ((Mon.wordTab m).map wv ++ [V.str ("x" : Str)]))) := fun b o e => by
          rw [upd_ne (ne_of_none e nlt)]
          exact s8 b o e
        have h9 : L2.upd H8 lt (.lst ((Mon.wordTab m).map wv ++ [V.str ("x" : Str)])) lt = some (.lst ((Mon.wordTab m).map wv ++ [V.str ("x" : Str)])) := upd_same
        generalize L2.upd H8 lt (.lst ((Mon.wordTab m).map wv ++ [V.str ("x" : Str)])) = H9 at s9 h9 ⊢
        have w6 : ∀ y ∈ Mon.wordTab m, ∀ c ∈ y, c < 6 := fun y hy c hc => by
          obtain ⟨k', hk'⟩ := List.getElem?_of_mem hy
          have := word_letters FO hm k'
          rw [Mon.getD_of hk'] at this
          have := this c hc
          omega
        have wsh := words_sh w6
        refine ⟨_, rfl, x, dx0, _, rfl, s9 _ _ hx7, rfl, x, rows, m, gens.length, rfl, (MM7.same s9).mo, FO, hm, m2, fun lu H10 s10 nlu hlu => ?_⟩
        have s710 := s9.trans s10
        refine ⟨_, rfl, ne_dI (Dp.lst (SqL.of hlu) dpW) (Dp.lst (SqL.of (s710 _ _ hw7)) dpW) wsh ⟨_, rfl, ?_⟩⟩
        refine ifF rfl ?_
        have M10 := MM7.same s710
        have hf10 := (Mf7.same s710)
        obtain ⟨as1, hf1, la1, el1⟩ := id hf10.ex
        refine ⟨_, rfl, x, dx0, _, rfl, s710 _ _ hx7, rfl, x, rows, m, rfl, M10.mo, _, rfl, pf, _, rfl, .inl (SqL.of hf1), rfl, _, rfl, ?_⟩
        rw [List.length_map, la1, rl]
        refine ifF (by rw [decide_eq_true rfl]; rfl) ?_
        refine ⟨_, rfl, 1, rfl, -1, rfl, lt, _, rfl, SqL.of (s10 _ _ h9), fun l2 nl2 => ?_⟩
        rw [cut_init]
        have u11 := same_upd (o := .lst ((Mon.wordTab m).map wv)) nl2
        have s711 := s710.trans u11
        refine ⟨_, rfl, ne_dI (Dp.lst (SqL.of upd_same) dpW) (Dp.lst (SqL.of (s711 _ _ hw7)) dpW) wsh ⟨_, rfl, ?_⟩⟩
        refine ifF rfl ?_
        generalize L2.upd H10 l2 (.lst ((Mon.wordTab m).map wv)) = H11 at s711 ⊢
        clear u11 nl2 hf1 el1 la1 hf10 M10 s710 s10 hlu nlu s9 h9 s8 hlt nlt
        -- words and products
        have src11 := src7.same s711
        obtain ⟨q1, q2, q3, hl11⟩ := src11.un
        have MM11 := MM7.same s711
        have Mg11 := Mg7.same s711
        have Mf11 := Mf7.same s711
        have e11 := e7.trans s711
        clear s711 src7 MM7 Mg7 Mf7 e7 hw7 hx7
        refine ⟨_, rfl, _, rfl, _, rfl, _, rfl, l, x, p, pf, 670 * j + 40, rows, m, n, gens, found, rfl, src11, by omega, MM11, Mg11, Mf11, g1, f256, fun H12 b12 src12 => ?_⟩
        refine ⟨_, rfl, ifF rfl ?_⟩
        have MM12 := MM11.butL hl11 b12
        have Mf12 := Mf11.but hl11 b12
        refine ⟨_, rfl, _, rfl, _, rfl, l, x, pf, 670 * j + 40 + 600, rows, m, n, gens, found, rfl, src12, by omega, MM12, Mf12, f256, fun H13 b13 src13 => ?_⟩
        refine ⟨_, rfl, ifF rfl ?_⟩
        have b113 := But.trans b12 b13
        have MM13 := MM11.butL hl11 b113
        have Mg13 := Mg11.but hl11 b113
        have Mf13 := Mf11.but hl11 b113
        have e13 : Same Hs H13 := fun b o e => b113 _ _ (off b o e) (e11 _ _ e)
        clear MM12 Mf12 b12 b13 b113 MM11 Mg11 Mf11 e11 src11 src12 hl11
        obtain ⟨as3, hf3, la3, el3⟩ := id Mf13.ex
        -- what is due
        refine ⟨_, rfl, _, rfl, pf, _, rfl, .inl (SqL.of hf3), ((found.length : Nat) : Int), by rw [List.length_map, la3], pf, as3, found, rfl, rfl, rfl, by omega, SqL.of hf3, la3, el3, Tb.nd, fun d nd => ?_⟩
        have u14 := same_upd (o := .dT (dtab found)) nd
        have hd14 : L2.upd H13 d (.dT (dtab found)) d = some (.dT (dtab found)) := upd_same
        generalize L2.upd H13 d (.dT (dtab found)) = H14 at u14 hd14 ⊢
        refine ⟨_, rfl, pf, rfl, ⟨_, SqL.of (u14 _ _ hf3)⟩, fun D nD => ?_⟩
        have llen : (Mon.leftTab rows m).length = found.length := by rw [Mon.left_len]; omega
        refine lc_list (K := K) (a := pf) (xs := as3.map V.ref) (fun c Hd => But D H14 Hd ∧ ∃ cs : List Addr, Hd D = some (.lst (cs.map V.ref)) ∧ cs.length = c ∧ ∀ (k : Nat) b li, cs[k]? = some b → (Mon.leftTab rows m)[k]? = some li → Hd b = some (.tup (li.map nv))) ⟨But.upd, [], upd_same, rfl, fun k b li h => by simp at h⟩ (fun c Hd _ ⟨bd, _⟩ => SqL.of ((Same.but (L2.Same.refl _) nD bd) _ _ (u14 _ _ hf3))) (fun c y Hd hy ⟨bd, cs, hD, lc, ec⟩ => ?_) (fun Hd ⟨bd, cs, hD, lc, ec⟩ => ?_)
        · obtain ⟨ac', hac, rfl⟩ := map_get hy
          have sd := Same.but (L2.Same.refl _) nD bd
          have cl' := get_lt hac
          obtain ⟨fc, hfc⟩ := lt_get (show c < found.length by omega)
          obtain ⟨li, hli⟩ := lt_get (show c < (Mon.leftTab rows m).length by omega)
          refine ⟨rfl, yesT ?_⟩
          refine one_row (gens := gens) (found := found) (rows := rows) (m := m) (Mg13.same (u14.trans sd)) (sd _ _ hd14) Tb n4 g6 (sd _ _ (u14 _ _ (el3 c ac' fc hac hfc))) hfc (left_rows Tb g1 hm hli) fun t H15 nt s15 ht => ?_
          have hD15 := s15 _ _ hD
          have ntD : t ≠ D := fun z => by rw [z, hD] at nt; cases nt
          refine ⟨_, hD15, by rw [List.length_map, lc]; show c < 16777216; omega, bd.trans ((But.of s15).trans But.upd), cs ++ [t], by rw [upd_same]; simp, by simp [lc], fun k b lk h1 h2 => ?_⟩
          rcases Mon.snoc_cases h1 with h1 | ⟨ek, rfl⟩
          · have e0 := s15 _ _ (ec k b lk h1 h2)
            rw [upd_ne (fun z => by rw [z, hD15] at e0; cases e0)]
            exact e0
          · rw [ek, lc, hli] at h2
            cases h2
            rw [upd_ne ntD]
            exact ht
        · have sd := Same.but (L2.Same.refl _) nD bd
          have s1d := u14.trans sd
          have MM15 := MM13.same s1d
          obtain ⟨dx1, _, _, _, hx15, _⟩ := id MM15.mo.ex
          rw [List.length_map, la3] at lc
          refine ⟨_, rfl, x, dx1, _, rfl, hx15, rfl, x, rows, m, rfl, MM15.mo, fun vv RV => ?_⟩
          refine ⟨_, rfl, D, _, rfl, .inl ⟨SqL.of hD, fun tt ntt => ?_⟩⟩
          have u16 := same_upd (o := .tup (cs.map V.ref)) ntt
          obtain ⟨ar, sr, lr, er⟩ := RV.ex
          refine ne_dI (d := .tuple ((Mon.leftTab rows m).map dI)) (.tup (Lf.SqT.same u16 sr) (dpR lr fun k b li h1 h2 => Lf.SqT.same u16 (er k b li h1 h2))) (.tup (SqT.of upd_same) (dpR (by omega) fun k b li h1 h2 => SqT.of (u16 _ _ (ec k b li h1 h2)))) (trows_sh _) ⟨_, rfl, ?_⟩
          refine ifF rfl ?_
          exact ⟨_, _, _, _, _, _, _, _, _, rfl, e13.trans (s1d.trans u16), (src13.same (s1d.trans u16)).up (by omega)⟩
      · subst eσ
        exact ⟨_, _, _, _, _, _, _, _, _, _, _, rfl, e3⟩
    · exact fin _
end
end K14

set_option Elab.async false
set_option linter.all false
set_option maxRecDepth 100000
set_option maxHeartbeats 4000000
/-! A head by three kernel runs: the looks, the view, the facts; the facts over the objects at the addresses as. -/
namespace Lf
open PySem PySem.W PySem.Calls PyProof.Rows
/-- classes, dicts, functions and the rest, in this order -/
def isCl : Obj → Bool
  | ⟨_, _, .cls _, _⟩ => true
  | _ => false
def isDi : Obj → Bool
  | ⟨_, _, .dict _ _, _⟩ => true
  | _ => false
def isFu : Obj → Bool
  | ⟨_, _, .func _, _⟩ => true
  | _ => false
def isFi : Obj → Bool
  | ⟨_, _, .fields vs, _⟩ => !vs.isEmpty
  | _ => false
/-- tuples: the defaults of defs -/
def isTu : Obj → Bool
  | ⟨.type "tuple", _, .seq _ _, _⟩ => true
  | _ => false
def sorted4 (l : Frag) : Frag := l.filter (fun q => isCl q.2) ++ (l.filter (fun q => isDi q.2) ++ (l.filter (fun q => isFu q.2) ++ (l.filter (fun q => isFi q.2) ++ l.filter fun q => isTu q.2)))
theorem sorted4_sub {l : Frag} {q : Addr × Obj} (h : q ∈ sorted4 l) : q ∈ l := by
  unfold sorted4 at h
  simp only [List.mem_append, List.mem_filter] at h
  rcases h with h | h | h | h | h <;> exact h.1
def frR (g : Addr → Option Obj) (as : List Addr) : Frag := sorted4 (He.frG g as)
theorem frR_in {as : List Addr} {h : Heap} : (frR h.get? as).In h := fun _ _ e => He.frG_mem (sorted4_sub (He.lookup_mem e))
theorem frR_none {g : Addr → Option Obj} {as : List Addr} {a : Addr} {o : Obj} (h : g a = some o) (ht : He.emptyTab o = true) : (frR g as).lookup a = none := by
  cases e : (frR g as).lookup a with
  | none => rfl
  | some u =>
    have m := He.lookup_mem e
    have z := He.frG_mem (sorted4_sub m)
    rw [h] at z
    obtain rfl := Option.some.inj z
    rw [He.emptyTab_eq ht] at m
    unfold frR sorted4 at m
    simp only [List.mem_append, List.mem_filter] at m
    rcases m with m | m | m | m | m <;> exact absurd m.2 (by decide)
/-- what is told: the facts, the Bool, the defs' code tables: empty, not among the objects looked at -/
structure SaysR (fa : List He.Fa) (fn : List He.DefD) (tf : List He.Defn) (ex : Frag → Bool) (h : Heap) (K : Frag) : Prop where
  d : He.SaysD fa fn K
  m : ex K = true
  hd : ∀ p ∈ tf, codeHdIn K (He.cT K p).1 (He.cT K p).2 = true
  out : ∀ p ∈ tf, K.lookup (He.cT K p).2 = none
  empty : ∀ p ∈ tf, h.get? (He.cT K p).2 = some { cls := .none, data := .fields #[] }
def obsR (as : List Addr) (fa : List He.Fa) (fn : List He.DefD) (tf : List He.Defn) (ex : Frag → Bool) (g : Addr → Option Obj) : He.AlD × Bool :=
  (He.obsD fa fn (frR g as), ex (frR g as) && He.tabsB g tf (frR g as))
theorem saysR_of {as : List Addr} {fa : List He.Fa} {fn : List He.DefD} {tf : List He.Defn} {ex : Frag → Bool} {h : Heap} (e : obsR as fa fn tf ex h.get? = (He.valD fn, true)) : SaysR fa fn tf ex h (frR h.get? as) := by
  obtain ⟨h1, h2⟩ := He.ba (show (ex (frR h.get? as) && He.tabsB h.get? tf (frR h.get? as)) = true from congrArg Prod.snd e)
  have key : ∀ p ∈ tf, codeHdIn (frR h.get? as) (He.cT (frR h.get? as) p).1 (He.cT (frR h.get? as) p).2 = true ∧ ∃ o, h.get? (He.cT (frR h.get? as) p).2 = some o ∧ He.emptyTab o = true := fun p hp => by
    obtain ⟨k1, k2⟩ := He.ba (List.all_eq_true.mp h2 p hp)
    refine ⟨k1, ?_⟩
    cases q : h.get? (He.cT (frR h.get? as) p).2 with
    | none => rw [q] at k2; cases k2
    | some o => rw [q] at k2; exact ⟨o, rfl, k2⟩
  refine ⟨congrArg Prod.fst e, h1, fun p hp => (key p hp).1, fun p hp => ?_, fun p hp => ?_⟩
  · obtain ⟨_, o, q, z⟩ := key p hp
    exact frR_none q z
  · obtain ⟨_, o, q, z⟩ := key p hp
    rw [q, He.emptyTab_eq z]
def hookR (as : List Addr) (fa : List He.Fa) (fn : List He.DefD) (tf : List He.Defn) (ex : Frag → Bool) : Hook where
  α := He.AlD × Bool
  obs := fun s => obsR as fa fn tf ex s.heap.get?
  val := fun _ => (He.valD fn, true)
  says := fun _ h => ∃ K : Frag, K.In h ∧ SaysR fa fn tf ex h K
  of := fun _ _ e => ⟨_, frR_in, saysR_of e⟩
  keeps := fun _ _ _ ⟨K, hK, c⟩ k => ⟨K, Frag.In.keeps hK k, ⟨c.d, c.m, c.hd, c.out, fun p hp => k _ _ (c.empty p hp)⟩⟩
theorem obsR_eq {as : List Addr} {fa : List He.Fa} {fn : List He.DefD} {tf : List He.Defn} {ex : Frag → Bool} {g : Addr → Option Obj} {s : Shared} (h : ∀ a, g a = s.heap.get? a) : obsR as fa fn tf ex g = (hookR as fa fn tf ex).obs s := by
  have e : g = s.heap.get? := funext h
  rw [e] <;> rfl
theorem three {α A B C : Type} {o : Option α} {f : α → A} {g : α → B} {h : α → C} {a : A} {b : B} {c : C} (x : o.map f = some a) (y : o.map g = some b) (z : o.map h = some c) : o.map (fun s => (f s, g s, h s)) = some (a, b, c) := by
  cases o with
  | none => cases x
  | some s =>
    have x1 : f s = a := Option.some.inj x
    have y1 : g s = b := Option.some.inj y
    have z1 : h s = c := Option.some.inj z
    show some (f s, g s, h s) = _
    rw [x1, y1, z1]
/-- the state behind the top -/
noncomputable def endOf (r : OpenRow) (M : Nat) (w : World) (os : OsState) : Option SharedT := HandSHeadRun.endF (HandSHeadRun.stepQ (HandSHeadRun.denQ HandSHeadRun.tabQ) r.prog w) M r.prog w os
noncomputable def looksOf (r : OpenRow) (w : World) (s : SharedT) : Bool := HandSHeadRun.looksF r.prog (boot_heap w.params) s.abs
noncomputable def viewOf (r : OpenRow) (q : Program) (loose : List PySem.Str) (s : SharedT) := HandSHeadRun.seenQ q loose (importedModules r.prog.main.body) (fun s => xlAt q [] s && recOk r.toRowW.records s) s.abs
theorem run_three {r : OpenRow} {q : Program} {H : Hook} {ob : SharedT → H.α} {M : Nat} {loose : List PySem.Str} {w : World} (a : ∀ os, (endOf r M w os).map (looksOf r w) = some true)
    (b : ∀ os, (endOf r M w os).map (viewOf r q loose) = some (openGood q loose)) (c : ∀ os, (endOf r M w os).map ob = some (H.val w)) : HandSHeadRun.RunEq r q H ob M loose w := fun os => three (a os) (b os) (c os)
end Lf

set_option Elab.async false
set_option linter.all false
set_option maxRecDepth 100000
set_option maxHeartbeats 0
namespace K14
open PySem PySem.Spec PyProof.Rows L2
abbrev R : PySem.W.OpenRow := PySem.W.OpenLaw.row PySem.Challenge.rw_letterfolds_k14_words_and_products
abbrev vw : Program := PySem.W.view R.prog [36]
def as : List Addr := List.range 1600
abbrev hk : PySem.W.Hook := Lf.hookR as fa fn tf ex
def ob (s : PySem.W.SharedT) : He.AlD × Bool := Lf.obsR as fa fn tf ex (HandSHeadRun.getT s)
theorem ob_eq (s : PySem.W.SharedT) : ob s = hk.obs s.abs := Lf.obsR_eq (HandSHeadRun.getT_eq s)
theorem runA (w : World) (os : OsState) : (Lf.endOf R 20000 w os).map (Lf.looksOf R w) = some true := by kernel_rfl
theorem runB (w : World) (os : OsState) : (Lf.endOf R 20000 w os).map (Lf.viewOf R vw loose) = some (PySem.W.openGood vw loose) := by kernel_rfl
theorem runC (w : World) (os : OsState) : (Lf.endOf R 20000 w os).map ob = some (hk.val w) := by kernel_rfl
theorem run (w : World) : HandSHeadRun.RunEq R vw hk ob 20000 loose w := Lf.run_three (runA w) (runB w) (runC w)
end K14

set_option Elab.async false
set_option linter.all false
set_option maxRecDepth 100000
set_option maxHeartbeats 4000000
/-! The end for a law that is promised only where no repr is under way. -/
namespace Lf
open PySem PySem.Spec PyProof.Rows L2
section
variable {P : Program} {w : World} {K : PySem.W.Frag} {mg mb : Str → Option Value} {CX : CXT} {k : Nat} {fa a : Addr} {fd : FuncData} {x : Str} {sp : Sp} {s₁ : Shared} {vs : List Value} {ns : List Int}
/-- the caller's world, with at most the script tracked -/
theorem env_law {H : Hp} (KX : K.In s₁.heap) (hns : s₁.heap.Ns mainGlobals mg) (hb : s₁.heap.Ns builtinsNs mb) (hbb : ∀ x : Str, x ≠ "__name__" → mb x = bootBuiltins x) (hlim : s₁.heap.NoLimit) (hg : s₁.gens = #[])
    (ha : s₁.heap.get? a = some { cls := .type "list", data := .seq vs.toArray }) (hok : HOk P w H s₁.heap) (hA : ∀ b, H b ≠ none → b = a ∧ K.lookup a = none) :
    K.In (hidT s₁.heap H) ∧ (hidT s₁.heap H).Ns mainGlobals mg ∧ Env0 P w K mg (hidT s₁.heap H) callerA [] s₁ H := by
  have free : ∀ {b : Addr} {o : Obj}, s₁.heap.get? b = some o → o.data ≠ .seq vs.toArray → H b = none := fun {b o} e d => by
    cases q : H b with
    | none => rfl
    | some u =>
      obtain ⟨rfl, _⟩ := hA b (by rw [q]; simp)
      rw [ha] at e
      cases e
      exact absurd rfl d
  have names : ∀ {b : Addr} {m : Str → Option Value}, s₁.heap.Ns b m → (hidT s₁.heap H).Ns b m := fun {b m} h => by
    obtain ⟨o, es, ep, e, d, r⟩ := h
    exact ⟨o, es, ep, hidT_get e (free e (by rw [d]; simp)), d, r⟩
  have kin : K.In (hidT s₁.heap H) := fun b o e => hidT_get (KX b o e) (by
    cases q : H b with
    | none => rfl
    | some u =>
      obtain ⟨rfl, z⟩ := hA b (by rw [q]; simp)
      rw [z] at e
      cases e)
  obtain ⟨mc, l1, l2⟩ := hlim
  exact ⟨kin, names hns, rfl, ⟨kin, names hns, ⟨mb, names hb, hbb⟩, mc, names l1, l2⟩, fun b o e => of_hidT e, Nat.le_of_eq (hidT_size _ _), trivial, fun b hb => absurd (show b ∈ ([] : List Addr) from hb) (by simp), hok, .of_eq hg⟩
theorem law_callG (KX : K.In s₁.heap) (hns : s₁.heap.Ns mainGlobals mg) (hb : s₁.heap.Ns builtinsNs mb) (hbb : ∀ x : Str, x ≠ "__name__" → mb x = bootBuiltins x) (hlim : s₁.heap.NoLimit) (hg : s₁.gens = #[])
    (ha : s₁.heap.get? a = some { cls := .type "list", data := .seq vs.toArray }) (hi : IntsAre vs ns) (hl : ns.length ≤ sizeLine) (hr : Room k callerA)
    (F : ∀ base : Heap, K.In base → base.Ns mainGlobals mg → FnG P w K mg base CX k fa fd [x] sp) (hbind : ∀ (s : Shared) (u : Value), BindsTo s fd ⟨[u], []⟩ [(x, u)])
    (hsp : ∀ H : Hp, Only H → SqL K H a (ns.map V.int) → sp [.ref a] H (fun v _ => v = .bl true) fun _ _ _ => False)
    (hCX : ∀ H e s', CX [] H s₁ (fun _ _ _ => False) e s' → False) :
    codeAny (model P w) callerA (.call (.ref fa) ⟨[.ref a], []⟩) (fun r s' => r = .ok (.ret (.bool true)) ∧ OldK s₁.heap s'.heap ∧ s'.os = s₁.os ∧ AllBare s'.gens) s₁ := by
  obtain ⟨H, hO, hS, hok, hA⟩ : ∃ H : Hp, Only H ∧ SqL K H a (ns.map V.int) ∧ HOk P w H s₁.heap ∧ ∀ b, H b ≠ none → b = a ∧ K.lookup a = none := by
    have rv := vals_ints hi
    cases hk : K.lookup a with
    | some o =>
      have e := KX a o hk
      rw [ha] at e
      cases e
      exact ⟨fun _ => none, fun _ => .inl rfl, .inr ⟨_, vs.toArray, _, hk, rfl, rfl, rfl, by rw [List.size_toArray, hi.length]; exact hl, by simpa using rv⟩, (fun b u z => by cases (show (none : Option HO) = some u from z)), fun b z => absurd rfl z⟩
    | none =>
      refine ⟨L2.upd (fun _ => none) a (.frz { cls := .type "list", data := .seq vs.toArray } (.lst (ns.map V.int))), fun b => ?_, .inl (.inr ⟨_, upd_same⟩), fun b u z => ?_, fun b z => ?_⟩
      · by_cases e : b = a
        · subst e
          exact .inr ⟨_, _, upd_same⟩
        · exact .inl (upd_ne e)
      · by_cases e : b = a
        · subst e
          rw [upd_same] at z
          cases z
          exact ⟨ha, by rw [List.length_map]; exact hl, vs, _, rv, ha⟩
        · rw [upd_ne e] at z
          cases z
      · by_cases e : b = a
        · exact ⟨e, rfl⟩
        · exact absurd (upd_ne e) z
  obtain ⟨kin, nm, e0⟩ := env_law KX hns hb hbb hlim hg ha hok hA
  refine codeAny_mono ((F _ kin nm).run callerA [] s₁ H ⟨[.ref a], []⟩ [.ref a] [.ref a] _ _ rfl hr e0 (hbind s₁ (.ref a)) (.cons rfl .nil) (hsp H hO hS)) fun r s' h => ?_
  cases r with
  | error e => exact (hCX H e s' h).elim
  | ok fl =>
    cases fl with
    | next => exact False.elim h
    | brk => exact False.elim h
    | cont => exact False.elim h
    | ret u =>
      obtain ⟨v, H', os, bare, un, hok', r', q⟩ := h
      cases (show v = .bl true from q)
      cases (show u = Value.bool true from r')
      refine ⟨rfl, OldK.of_keep fun b o e => ?_, os, bare⟩
      cases q : H b with
      | none => exact un.keep b o e q (by intro z; exact absurd (show b ∈ ([] : List Addr) from z) (by simp)) (by simp)
      | some u =>
        rcases hO b with z | ⟨ob, xs, z⟩
        · rw [q] at z
          cases z
        · have e1 := (hok b _ z).1
          rw [e] at e1
          cases e1
          exact (hok' b _ (un.frzs b _ _ z)).1
end
theorem walk_ofG {l : PySem.W.OpenLaw} {n k : Nat} {q : Program} {loose : List Str} {XP : (Str → Option Value) → Heap → Prop} {YP : World → Heap → Prop} {d : DefRec} {CX : CXT} {x : Str}
    (hn : l.most = some n) (hn2 : n ≤ sizeLine) (hdf : d.params.defaults = []) (hr : Room k callerA)
    (F : ∀ (w : World) (mg : Str → Option Value) (fa : Addr) (h : Heap), YP w h → h.Ns mainGlobals mg → mg d.name = some (.ref fa) →
      ∃ (K : PySem.W.Frag) (fd : FuncData) (sp : Sp), K.In h ∧ (∀ (s : Shared) (u : Value), BindsTo s fd ⟨[u], []⟩ [(x, u)]) ∧
        (∀ (H : Hp) (a : Addr) (ns : List Int), ns.length ≤ n → Only H → SqL K H a (ns.map V.int) → sp [.ref a] H (fun v _ => v = .bl true) fun _ _ _ => False) ∧
        ∀ base : Heap, K.In base → base.Ns mainGlobals mg → FnG l.prog w K mg base CX k fa fd [x] sp)
    (hCX : ∀ (H : Hp) (s : Shared) (e : Value) (s' : Shared), CX [] H s (fun _ _ _ => False) e s' → False) :
    PySem.W.WalkO q loose XP YP l.row.toRowW d [] (fun f vs => PySem.call f vs) := by
  refine Att.attach_call hn hdf fun w s₀ s₁ mg mb fa o pm cd doc a vs ns G Y ho hd hcd hmg hobj hints hlen hg => ?_
  obtain ⟨K, fd, sp, KX, hb, hsp, hF⟩ := F w mg fa _ Y G.T.g hmg
  exact law_callG KX G.T.g G.T.b G.T.builtins G.T.nolimit hg hobj hints (Nat.le_trans hlen hn2) hr hF hb (fun H hO hS => hsp H a ns hlen hO hS) fun H e s' => hCX H s₁ e s'
end Lf

set_option Elab.async false
set_option linter.all false
set_option maxRecDepth 100000
set_option maxHeartbeats 8000000
namespace K14
open PySem PySem.Spec PyProof.Rows L2 Lf
theorem facts {P : Program} {w : World} {K : PySem.W.Frag} {h : Heap} {mg : Str → Option Value} {f : Addr} (X : K.In h) (G : h.Ns mainGlobals mg) (hfa : mg ("law" : Str) = some (.ref f)) (c : He.SaysD fa fn K) (m : ex K = true) :
    ∃ fd : FuncData, (∀ (s : Shared) (v : Value), BindsTo s fd ⟨[v], []⟩ [("_law_script", v)]) ∧ ∀ base : Heap, K.In base → base.Ns mainGlobals mg → FnG P w K mg base CX0 6 f fd ["_law_script"] (spLaw K) := by
  obtain ⟨fd_is_number, F_is_number⟩ := c.def_ 0 (d := d_is_number) rfl
  obtain ⟨fd_is_between, F_is_between⟩ := c.def_ 1 (d := d_is_between) rfl
  obtain ⟨fd_is_sequence, F_is_sequence⟩ := c.def_ 2 (d := d_is_sequence) rfl
  obtain ⟨fd_is_word, F_is_word⟩ := c.def_ 3 (d := d_is_word) rfl
  obtain ⟨fd_Monoid_init, F_Monoid_init⟩ := c.def_ 11 (d := d_Monoid_init) rfl
  obtain ⟨fd_Monoid_size, F_Monoid_size⟩ := c.def_ 13 (d := d_Monoid_size) rfl
  obtain ⟨fd_Monoid_words, F_Monoid_words⟩ := c.def_ 14 (d := d_Monoid_words) rfl
  obtain ⟨fd_Monoid_left, F_Monoid_left⟩ := c.def_ 15 (d := d_Monoid_left) rfl
  obtain ⟨fd_Monoid_of_word, F_Monoid_of_word⟩ := c.def_ 16 (d := d_Monoid_of_word) rfl
  obtain ⟨fd_Monoid_times, F_Monoid_times⟩ := c.def_ 17 (d := d_Monoid_times) rfl
  obtain ⟨fd_Monoid_power, F_Monoid_power⟩ := c.def_ 18 (d := d_Monoid_power) rfl
  obtain ⟨fd_Monoid_cycle, F_Monoid_cycle⟩ := c.def_ 19 (d := d_Monoid_cycle) rfl
  obtain ⟨fd_Monoid_check_number, F_Monoid_check_number⟩ := c.def_ 20 (d := d_Monoid_check_number) rfl
  obtain ⟨fd_Monoid_check_word, F_Monoid_check_word⟩ := c.def_ 21 (d := d_Monoid_check_word) rfl
  obtain ⟨fd_check_form, F_check_form⟩ := c.def_ 22 (d := d_check_form) rfl
  obtain ⟨fd_made_by, F_made_by⟩ := c.def_ 23 (d := d_made_by) rfl
  obtain ⟨fd_left_table, F_left_table⟩ := c.def_ 24 (d := d_left_table) rfl
  obtain ⟨fd_check_products, F_check_products⟩ := c.def_ 25 (d := d_check_products) rfl
  obtain ⟨fd_letters_of, F_letters_of⟩ := c.def_ 26 (d := d_letters_of) rfl
  obtain ⟨fd_end, F_end⟩ := c.def_ 27 (d := d_end) rfl
  obtain ⟨fd_products_from, F_products_from⟩ := c.def_ 28 (d := d_products_from) rfl
  obtain ⟨fd_powers, F_powers⟩ := c.def_ 29 (d := d_powers) rfl
  obtain ⟨fd_L_source, F_L_source⟩ := c.def_ 30 (d := d_L_source) rfl
  obtain ⟨fd_L_draw, F_L_draw⟩ := c.def_ 31 (d := d_L_draw) rfl
  obtain ⟨fd_L_pick, F_L_pick⟩ := c.def_ 32 (d := d_L_pick) rfl
  obtain ⟨fd_L_maps, F_L_maps⟩ := c.def_ 33 (d := d_L_maps) rfl
  obtain ⟨fd_L_table, F_L_table⟩ := c.def_ 34 (d := d_L_table) rfl
  obtain ⟨fd_L_product, F_L_product⟩ := c.def_ 35 (d := d_L_product) rfl
  obtain ⟨fd_L_powers, F_L_powers⟩ := c.def_ 36 (d := d_L_powers) rfl
  obtain ⟨fd_L_word, F_L_word⟩ := c.def_ 37 (d := d_L_word) rfl
  obtain ⟨fd_L_words_right, F_L_words_right⟩ := c.def_ 38 (d := d_L_words_right) rfl
  obtain ⟨fd_L_products_right, F_L_products_right⟩ := c.def_ 39 (d := d_L_products_right) rfl
  obtain ⟨fd, F⟩ := c.def_ 40 (d := d_law) rfl
  have gl : ∀ (i : Nat) (x : Str), fa[i]? = some (.glo x) → mg x = some (.ref (He.ga K x)) := fun i x e => He.glo_ok X G (c.fact i e)
  have fr : ∀ (i : Nat) (x : Str), fa[i]? = some (.free x) → mg x = none := fun i x e => He.free_ok X G (c.fact i e)
  have it : ∀ (i : Nat) (x : Str) (v : Int), fa[i]? = some (.int x v) → ∃ t, mg x = some (.int v t) := fun i x v e => He.int_ok X G (c.fact i e)
  have st : ∀ (i : Nat) (x v : Str), fa[i]? = some (.str x v) → ∃ t, mg x = some (.str v t) := fun i x v e => He.str_ok X G (c.fact i e)
  have e := hfa.symm.trans (gl 27 "law" rfl)
  cases e
  have b := FunD.bindsA (ps := ["_law_script"]) F fun _ _ _ _ _ _ us hl => match us, hl with | [_], _ => rfl
  refine ⟨fd, fun s v => b s [v] rfl, fun base _ _ => ?_⟩
  have T : Txt P w K mg base := ⟨c, m, gl, fr, it, st⟩
  have z_ValueError : mg "ValueError" = none := T.fr 31 "ValueError" rfl
  have z_abs : mg "abs" = none := T.fr 32 "abs" rfl
  have z_all : mg "all" = none := T.fr 33 "all" rfl
  have z_bool : mg "bool" = none := T.fr 34 "bool" rfl
  have z_dict : mg "dict" = none := T.fr 35 "dict" rfl
  have z_enumerate : mg "enumerate" = none := T.fr 36 "enumerate" rfl
  have z_int : mg "int" = none := T.fr 37 "int" rfl
  have z_isinstance : mg "isinstance" = none := T.fr 38 "isinstance" rfl
  have z_len : mg "len" = none := T.fr 39 "len" rfl
  have z_list : mg "list" = none := T.fr 40 "list" rfl
  have z_range : mg "range" = none := T.fr 41 "range" rfl
  have z_repr : mg "repr" = none := T.fr 42 "repr" rfl
  have z_str : mg "str" = none := T.fr 43 "str" rfl
  have z_tuple : mg "tuple" = none := T.fr 44 "tuple" rfl
  have z_zip : mg "zip" = none := T.fr 45 "zip" rfl
  obtain ⟨t_LETTERS, g_LETTERS⟩ := T.st 30 "LETTERS" "abcdef" rfl
  have D_is_number : Def P w K mg base CX0 1 "is_number" ["thing"] spNum := ⟨_, fd_is_number, T.gl 5 "is_number" rfl, F_is_number.kp, ok_num F_is_number z_isinstance z_int z_bool, F_is_number.bindsN fun _ _ _ _ _ _ us hl => match us, hl with | [_], _ => rfl⟩
  have D_is_between : Def P w K mg base CX0 2 "is_between" ["thing", "least", "most"] spBtw := ⟨_, fd_is_between, T.gl 6 "is_between" rfl, F_is_between.kp, ok_btw F_is_between D_is_number, F_is_between.bindsN fun _ _ _ _ _ _ us hl => match us, hl with | [_, _, _], _ => rfl⟩
  have D_is_sequence : Def P w K mg base CX0 1 "is_sequence" ["thing", "least", "most"] (spSeq K) := ⟨_, fd_is_sequence, T.gl 7 "is_sequence" rfl, F_is_sequence.kp, ok_seq F_is_sequence z_isinstance z_list z_tuple z_len, F_is_sequence.bindsN fun _ _ _ _ _ _ us hl => match us, hl with | [_, _, _], _ => rfl⟩
  obtain ⟨ds_w, vs_w, bs_w⟩ := F_is_word.binds1 (ps := ["thing", "letters", "most"]) 3 1 (by intro z; cases z) rfl fun T kV doc pm an cdv ct us its hl hi => match us, its, hl, hi with | [_, _, _], [_], _, _ => ⟨_, rfl, rfl⟩
  cases vs_w
  have D_is_word : Def P w K mg base CX0 1 "is_word" ["thing", "letters", "most"] spWord := ⟨_, fd_is_word, T.gl 8 "is_word" rfl, F_is_word.kp, ok_word F_is_word g_LETTERS z_isinstance z_str z_len z_all, bs_w⟩
  have D_check_form : Def P w K mg base CX0 3 "_check_form" ["right"] (spForm K) := ⟨_, fd_check_form, T.gl 9 "_check_form" rfl, F_check_form.kp, ok_form F_check_form T D_is_sequence D_is_between, F_check_form.bindsN fun _ _ _ _ _ _ us hl => match us, hl with | [_], _ => rfl⟩
  have D_made_by : Def P w K mg base CX0 1 "_made_by" ["right"] (spMade K) := ⟨_, fd_made_by, T.gl 10 "_made_by" rfl, F_made_by.kp, ok_made F_made_by T, F_made_by.bindsN fun _ _ _ _ _ _ us hl => match us, hl with | [_], _ => rfl⟩
  have D_left_table : Def P w K mg base CX0 1 "_left_table" ["right", "made"] (spLeft K) := ⟨_, fd_left_table, T.gl 11 "_left_table" rfl, F_left_table.kp, ok_left F_left_table T, F_left_table.bindsN fun _ _ _ _ _ _ us hl => match us, hl with | [_, _], _ => rfl⟩
  have D_check_products : Def P w K mg base CX0 1 "_check_products" ["right", "left"] (spProds K) := ⟨_, fd_check_products, T.gl 12 "_check_products" rfl, F_check_products.kp, ok_prods F_check_products T, F_check_products.bindsN fun _ _ _ _ _ _ us hl => match us, hl with | [_, _], _ => rfl⟩
  have D_letters_of : Def P w K mg base CX0 1 "_letters_of" ["made", "number"] (spLettersOf K) := ⟨_, fd_letters_of, T.gl 13 "_letters_of" rfl, F_letters_of.kp, ok_letters F_letters_of, F_letters_of.bindsN fun _ _ _ _ _ _ us hl => match us, hl with | [_, _], _ => rfl⟩
  have D_end : Def P w K mg base CX0 1 "_end" ["right", "start", "letters"] (spEnd K) := ⟨_, fd_end, T.gl 14 "_end" rfl, F_end.kp, ok_end F_end, F_end.bindsN fun _ _ _ _ _ _ us hl => match us, hl with | [_, _, _], _ => rfl⟩
  have D_products_from : Def P w K mg base CX0 1 "_products_from" ["right", "made", "number"] (spPF K) := ⟨_, fd_products_from, T.gl 15 "_products_from" rfl, F_products_from.kp, ok_pf F_products_from, F_products_from.bindsN fun _ _ _ _ _ _ us hl => match us, hl with | [_, _, _], _ => rfl⟩
  have D_powers : Def P w K mg base CX0 2 "_powers" ["right", "made", "number"] (spPowers K) := ⟨_, fd_powers, T.gl 16 "_powers" rfl, F_powers.kp, ok_powers F_powers z_len D_products_from, F_powers.bindsN fun _ _ _ _ _ _ us hl => match us, hl with | [_, _, _], _ => rfl⟩
  have mM : L2.Mk K (He.ga K "Monoid") (He.ma K (He.ga K "Monoid") "__init__") := He.mkr_ok (T.d.fact 47 (f := .mkr "Monoid") rfl)
  have FM := ok_mon F_Monoid_init T D_check_form D_made_by D_left_table D_check_products
  have bM : L2.Binds K fd_Monoid_init ["self", "right"] [] := F_Monoid_init.bindsN fun _ _ _ _ _ _ us hl => match us, hl with | [_, _], _ => rfl
  have M_size : DefM P w K mg base CX0 1 "size" ["self"] (spSize K) := ⟨_, fd_Monoid_size, He.meth_ok (T.d.fact 49 (f := .meth "Monoid" "size") rfl), ok_size F_Monoid_size T, F_Monoid_size.bindsN fun _ _ _ _ _ _ us hl => match us, hl with | [_], _ => rfl⟩
  have M_words : DefM P w K mg base CX0 1 "words" ["self"] (spWords K) := ⟨_, fd_Monoid_words, He.meth_ok (T.d.fact 50 (f := .meth "Monoid" "words") rfl), ok_words F_Monoid_words T, F_Monoid_words.bindsN fun _ _ _ _ _ _ us hl => match us, hl with | [_], _ => rfl⟩
  have M_left : DefM P w K mg base CX0 1 "left" ["self"] (spLeftM K) := ⟨_, fd_Monoid_left, He.meth_ok (T.d.fact 51 (f := .meth "Monoid" "left") rfl), ok_leftM F_Monoid_left T, F_Monoid_left.bindsN fun _ _ _ _ _ _ us hl => match us, hl with | [_], _ => rfl⟩
  have M_check_number : DefM P w K mg base CX0 3 "_check_number" ["self", "number"] (spCkN K) := ⟨_, fd_Monoid_check_number, He.meth_ok (T.d.fact 56 (f := .meth "Monoid" "_check_number") rfl), ok_ckn F_Monoid_check_number T D_is_between M_size, F_Monoid_check_number.bindsN fun _ _ _ _ _ _ us hl => match us, hl with | [_, _], _ => rfl⟩
  have M_check_word : DefM P w K mg base CX0 2 "_check_word" ["self", "word", "most"] (spCkW K) := ⟨_, fd_Monoid_check_word, He.meth_ok (T.d.fact 57 (f := .meth "Monoid" "_check_word") rfl), ok_ckw F_Monoid_check_word T D_is_word, F_Monoid_check_word.bindsN fun _ _ _ _ _ _ us hl => match us, hl with | [_, _, _], _ => rfl⟩
  have M_of_word : DefM P w K mg base CX0 3 "of_word" ["self", "word"] (spOfW K) := ⟨_, fd_Monoid_of_word, He.meth_ok (T.d.fact 52 (f := .meth "Monoid" "of_word") rfl), ok_ofw F_Monoid_of_word T M_check_word D_end, F_Monoid_of_word.bindsN fun _ _ _ _ _ _ us hl => match us, hl with | [_, _], _ => rfl⟩
  have M_times : DefM P w K mg base CX0 4 "times" ["self", "one", "other"] (spTimes K) := ⟨_, fd_Monoid_times, He.meth_ok (T.d.fact 53 (f := .meth "Monoid" "times") rfl), ok_times F_Monoid_times T M_check_number D_end D_letters_of, F_Monoid_times.bindsN fun _ _ _ _ _ _ us hl => match us, hl with | [_, _, _], _ => rfl⟩
  have M_power : DefM P w K mg base CX0 4 "power" ["self", "number", "count"] (spPower K) := ⟨_, fd_Monoid_power, He.meth_ok (T.d.fact 54 (f := .meth "Monoid" "power") rfl), ok_power F_Monoid_power T M_check_number D_is_between D_powers, F_Monoid_power.bindsN fun _ _ _ _ _ _ us hl => match us, hl with | [_, _, _], _ => rfl⟩
  have M_cycle : DefM P w K mg base CX0 4 "cycle" ["self", "number"] (spCycle K) := ⟨_, fd_Monoid_cycle, He.meth_ok (T.d.fact 55 (f := .meth "Monoid" "cycle") rfl), ok_cycle F_Monoid_cycle T M_check_number D_powers, F_Monoid_cycle.bindsN fun _ _ _ _ _ _ us hl => match us, hl with | [_, _], _ => rfl⟩
  have D_L_source : Def P w K mg base CX0 1 "_law_source" ["_law_cell"] spSource := ⟨_, fd_L_source, T.gl 17 "_law_source" rfl, F_L_source.kp, ok_source F_L_source z_abs z_int, F_L_source.bindsN fun _ _ _ _ _ _ us hl => match us, hl with | [_], _ => rfl⟩
  have D_L_draw : Def P w K mg base CX0 1 "_law_draw" ["_law_source_here", "_law_many"] spDraw := ⟨_, fd_L_draw, T.gl 18 "_law_draw" rfl, F_L_draw.kp, ok_draw F_L_draw z_int, F_L_draw.bindsN fun _ _ _ _ _ _ us hl => match us, hl with | [_, _], _ => rfl⟩
  have D_L_pick : Def P w K mg base CX0 2 "_law_pick" ["_law_source_here", "_law_some"] spPick := ⟨_, fd_L_pick, T.gl 19 "_law_pick" rfl, F_L_pick.kp, ok_pick F_L_pick z_len D_L_draw, F_L_pick.bindsN fun _ _ _ _ _ _ us hl => match us, hl with | [_, _], _ => rfl⟩
  have D_L_maps : Def P w K mg base CX0 2 "_law_maps" ["_law_source_here", "_law_most_points", "_law_most_letters"] spMaps := ⟨_, fd_L_maps, T.gl 20 "_law_maps" rfl, F_L_maps.kp, ok_maps F_L_maps z_range z_tuple D_L_draw, F_L_maps.bindsN fun _ _ _ _ _ _ us hl => match us, hl with | [_, _, _], _ => rfl⟩
  have D_L_table : Def P w K mg base CX0 1 "_law_table" ["_law_rows"] (spTable K) := ⟨_, fd_L_table, T.gl 21 "_law_table" rfl, F_L_table.kp, ok_table F_L_table z_range z_tuple z_len z_zip, F_L_table.bindsN fun _ _ _ _ _ _ us hl => match us, hl with | [_], _ => rfl⟩
  have D_L_product : Def P w K mg base CX0 1 "_law_product" ["_law_one", "_law_other"] (spProd K) := ⟨_, fd_L_product, T.gl 22 "_law_product" rfl, F_L_product.kp, ok_prod F_L_product z_tuple, F_L_product.bindsN fun _ _ _ _ _ _ us hl => match us, hl with | [_, _], _ => rfl⟩
  have D_L_powers : Def P w K mg base CX0 2 "_law_powers" ["_law_images"] (spPowersL K) := ⟨_, fd_L_powers, T.gl 23 "_law_powers" rfl, F_L_powers.kp, ok_powersL F_L_powers z_range z_tuple z_len D_L_product, F_L_powers.bindsN fun _ _ _ _ _ _ us hl => match us, hl with | [_], _ => rfl⟩
  have D_L_word : Def P w K mg base CX0 3 "_law_word" ["_law_source_here", "_law_letters"] spWordL := ⟨_, fd_L_word, T.gl 24 "_law_word" rfl, F_L_word.kp, ok_wordL F_L_word z_range D_L_draw D_L_pick, F_L_word.bindsN fun _ _ _ _ _ _ us hl => match us, hl with | [_, _], _ => rfl⟩
  have D_L_words_right : Def P w K mg base CX0 4 "_law_words_right" ["_law_source_here", "_law_monoid", "_law_rows", "_law_found"] (spWordsR K) := ⟨_, fd_L_words_right, T.gl 25 "_law_words_right" rfl, F_L_words_right.kp, ok_wordsR F_L_words_right T D_L_word D_L_product M_of_word M_words, F_L_words_right.bindsN fun _ _ _ _ _ _ us hl => match us, hl with | [_, _, _, _], _ => rfl⟩
  have D_L_products_right : DefG P w K mg base CX0 5 "_law_products_right" ["_law_source_here", "_law_monoid", "_law_found"] (spProdsR K) := ⟨_, fd_L_products_right, T.gl 26 "_law_products_right" rfl, F_L_products_right.kp, ok_prodsR F_L_products_right T D_L_draw D_L_product D_L_powers M_times M_cycle M_power, F_L_products_right.bindsN fun _ _ _ _ _ _ us hl => match us, hl with | [_, _, _], _ => rfl⟩
  exact ok_law F T D_L_source D_L_maps D_L_table D_L_product D_L_words_right D_L_products_right mM FM bM M_words M_size M_left
end K14
open PySem PySem.W PySem.Calls PyProof.Rows
theorem PySem.Challenge.cw_letterfolds_k14_words_and_products_holds : PySem.Challenge.rw_letterfolds_k14_words_and_products.Holds := by
  w_on; o_law
  refine HandSHeadRun.head_any (r := K14.R) (q := K14.vw) (H := K14.hk) (ob := K14.ob) (M := 20000) (loose := K14.loose) (d := HandSHeadRun.topDef K14.R.prog 36) (kwd := []) K14.ob_eq
    (by kernel_rfl) (fun s => by kernel_rfl) K14.run (by kernel_rfl) (by kernel_rfl) (by kernel_rfl) (by rfl) (by first | assumption | decide +kernel) (by decide +kernel) ⟨rfl, rfl, rfl, rfl, rfl, by decide +kernel⟩ ?hw ?hc
  case hw => w_witness2
  case hc =>
    refine Lf.walk_ofG (l := PySem.Challenge.rw_letterfolds_k14_words_and_products) (n := 63) (k := 6) (x := "_law_script") (CX := L2.CX0) rfl (by decide) (by kernel_rfl) ⟨rfl, by decide, by decide⟩ ?F (fun _ _ _ _ z => z)
    intro w mg fa h Y G hmg0
    obtain ⟨K, KX, S⟩ := Y
    have hmg : mg ("law" : PySem.Str) = some (.ref fa) := by
      have e : (HandSHeadRun.topDef K14.R.prog 36).name = ("law" : PySem.Str) := by kernel_rfl
      rw [← e]
      exact hmg0
    obtain ⟨fd, hb, hF⟩ := K14.facts (P := PySem.Challenge.rw_letterfolds_k14_words_and_products.prog) (w := w) KX G hmg S.d S.m
    exact ⟨K, fd, K14.spLaw K, KX, hb, fun H a ns hl _ hS => ⟨a, ns, rfl, hS, hl, fun _ => rfl⟩, hF⟩
