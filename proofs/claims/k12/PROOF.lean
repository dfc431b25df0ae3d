import PyProof.Rows.All
import Wide.All
import OpenK.AllK
import Wide.FinOn
import HandS.Dict
import KE.KExcIs
import KE.KExcMore
import HandS.ForMost
import HandS.ForExc
import HandS.ExcInit
import HandS.ExcField
import HandS.ExcIs
import HandS.ExcValue
import HandS.IsInst
import HandS.HeadHook4
import KE.GoesEnum
import HandS.Walk
import HandS.HotCalls
import HandS.TryMany
import PyProof.ReprRoads
import PyProof.CallFns
import PyProof.Rows.FactsT3
import HandS.Strs
import KE.KOpsOwn
import HandS.OwnEq
import HandS.Wide
import KE.KEqDeep
import HandS.Deep
import HandS.Lambda
import HandS.Style
import KE.GoesMore
import KE.GoesZip
import HandS.CallLocal
import HandS.Conv
import PyProof.ReprLen
import HandS.Defaults
import KE.KStateDown
import HandS.Head2
import HandS.HeadEnd
import PySem.Challenge.RW_letterfolds_k12_what_is_a_right_table
set_option Elab.async false
set_option linter.all false
set_option maxRecDepth 100000
set_option maxHeartbeats 2000000
/-! A dict that tells the place of a number. -/
namespace Lf
open PySem PySem.Spec PyProof.Rows L2
def ik (x : Nat) : Key := Sum.inl ((x : Nat) : Int)
theorem ik_inj {x y : Nat} (h : ik x = ik y) : x = y := by
  have : ((x : Nat) : Int) = (y : Nat) := Sum.inl.inj h
  omega
def idF : Nat → List Nat → List (Key × V)
  | _, [] => []
  | k, x :: r => (ik x, .int (k : Nat)) :: idF (k + 1) r
abbrev idT (f : List Nat) : List (Key × V) := idF 0 f
theorem idF_len : ∀ {f : List Nat} {k : Nat}, (idF k f).length = f.length
  | [], _ => rfl
  | x :: r, k => by rw [idF, List.length_cons, idF_len, List.length_cons]
theorem idF_snoc {x : Nat} : ∀ {f : List Nat} {k : Nat}, idF k (f ++ [x]) = idF k f ++ [(ik x, .int (k + f.length : Nat))]
  | [], k => rfl
  | y :: r, k => by
    rw [List.cons_append, idF, idF, idF_snoc, List.cons_append, List.length_cons, show k + 1 + r.length = k + (r.length + 1) by omega]
theorem idF_none {x : Nat} : ∀ {f : List Nat} {k : Nat}, x ∉ f → valV (idF k f) (ik x) = none
  | [], _, _ => rfl
  | y :: r, k, h => by
    have hy : ¬ ik y = ik x := fun z => h (by rw [ik_inj z]; exact List.mem_cons_self)
    rw [idF, valV_neg (p := (ik y, V.int (k : Nat))) hy]
    exact idF_none fun z => h (List.mem_cons_of_mem _ z)
theorem idF_some {x : Nat} : ∀ {f : List Nat} {k i : Nat}, f.Nodup → f[i]? = some x → valV (idF k f) (ik x) = some (.int (k + i : Nat))
  | [], _, _, _, h => by simp at h
  | y :: r, k, 0, _, h => by
    cases h
    rw [idF, valV_pos (p := (ik x, V.int (k : Nat))) rfl]
    rfl
  | y :: r, k, i + 1, nd, h => by
    have hm : r[i]? = some x := h
    obtain ⟨h1, h2⟩ := List.nodup_cons.mp nd
    have hy : ¬ ik y = ik x := fun z => h1 (by rw [ik_inj z]; exact List.mem_of_getElem? hm)
    rw [idF, valV_neg (p := (ik y, V.int (k : Nat))) hy, idF_some h2 hm, show k + 1 + i = k + (i + 1) by omega]
theorem idT_put {x : Nat} {f : List Nat} (h : x ∉ f) : putK (idT f) (ik x) (.int (f.length : Nat)) = idT (f ++ [x]) := by
  rw [putK_new _ (idF_none h), idT, idF_snoc, Nat.zero_add]
end Lf

set_option Elab.async false
set_option linter.all false
set_option maxRecDepth 100000
set_option maxHeartbeats 2000000
/-! Maps of points, tables of monoids: plain mathematics. -/
namespace Mon
/-- first x, then y -/
def comp (x y : List Nat) : List Nat := x.map fun i => y.getD i 0
def Valid (n : Nat) (x : List Nat) : Prop := x.length = n ∧ ∀ i ∈ x, i < n
theorem getD_at {α : Type} {l : List α} {i : Nat} {d : α} (h : i < l.length) : l.getD i d = l[i] := by simp [List.getD, h]
theorem getD_of {α : Type} {l : List α} {i : Nat} {d v : α} (h : l[i]? = some v) : l.getD i d = v := by simp [List.getD, h]
theorem comp_valid {n : Nat} {x y : List Nat} (hx : Valid n x) (hy : Valid n y) : Valid n (comp x y) := by
  refine ⟨by rw [comp, List.length_map, hx.1], fun i hi => ?_⟩
  obtain ⟨j, hj, rfl⟩ := List.mem_map.mp hi
  rw [getD_at (by rw [hy.1]; exact hx.2 j hj)]
  exact hy.2 _ (List.getElem_mem _)
theorem comp_assoc {n : Nat} {x y z : List Nat} (hx : Valid n x) (hy : Valid n y) : comp (comp x y) z = comp x (comp y z) := by
  unfold comp
  rw [List.map_map]
  refine List.map_congr_left fun i hi => ?_
  have h : i < y.length := by rw [hy.1]; exact hx.2 i hi
  show z.getD (y.getD i 0) 0 = (y.map fun j => z.getD j 0).getD i 0
  rw [getD_at h, getD_at (l := y.map fun j => z.getD j 0) (by rw [List.length_map]; exact h), List.getElem_map]
def idm (n : Nat) : List Nat := List.range n
theorem idm_valid {n : Nat} : Valid n (idm n) := ⟨List.length_range, fun i hi => List.mem_range.mp hi⟩
theorem id_comp {n : Nat} {y : List Nat} (hy : Valid n y) : comp (idm n) y = y := by
  apply List.ext_getElem
  · rw [comp, List.length_map, idm, List.length_range, hy.1]
  · intro i h1 h2
    simp only [comp, idm, List.getElem_map, List.getElem_range]
    exact getD_at h2
theorem comp_id {n : Nat} {x : List Nat} (hx : Valid n x) : comp x (idm n) = x := by
  conv => rhs; rw [← List.map_id x]
  refine List.map_congr_left fun i hi => ?_
  have h : i < (idm n).length := by rw [idm, List.length_range]; exact hx.2 i hi
  rw [getD_at h]
  simp [idm]
/-! ### how many -/
theorem nodup_lt : ∀ (N : Nat) (l : List Nat), l.Nodup → (∀ x ∈ l, x < N) → l.length ≤ N
  | 0, l, _, h => by
    cases l with
    | nil => exact Nat.le_refl _
    | cons x r => exact absurd (h x List.mem_cons_self) (Nat.not_lt_zero _)
  | N + 1, l, nd, h => by
    by_cases hm : N ∈ l
    · have q := nodup_lt N (l.erase N) (nd.erase N) fun x hx => by
        have h1 := h x (List.mem_of_mem_erase hx)
        have h2 : x ≠ N := fun e => by
          rw [e] at hx
          exact (List.Nodup.not_mem_erase nd) hx
        omega
      rw [List.length_erase_of_mem hm] at q
      omega
    · have q := nodup_lt N l nd fun x hx => by
        have h1 := h x hx
        have h2 : x ≠ N := fun e => hm (e ▸ hx)
        omega
      omega
/-- the number that a list of digits tells -/
def enc (n : Nat) : List Nat → Nat
  | [] => 0
  | i :: r => i + n * enc n r
theorem enc_lt {n : Nat} : ∀ {x : List Nat}, (∀ i ∈ x, i < n) → enc n x < n ^ x.length
  | [], _ => by simp [enc]
  | i :: r, h => by
    have a := h i List.mem_cons_self
    have b := enc_lt (x := r) fun j hj => h j (List.mem_cons_of_mem _ hj)
    have c : n * (enc n r + 1) ≤ n * n ^ r.length := Nat.mul_le_mul_left _ b
    rw [Nat.mul_add, Nat.mul_one] at c
    simp only [enc, List.length_cons, Nat.pow_succ]
    rw [Nat.mul_comm (n ^ r.length) n]
    omega
theorem enc_inj {n : Nat} : ∀ {x y : List Nat}, x.length = y.length → (∀ i ∈ x, i < n) → (∀ i ∈ y, i < n) → enc n x = enc n y → x = y
  | [], [], _, _, _, _ => rfl
  | [], _ :: _, e, _, _, _ => by cases e
  | _ :: _, [], e, _, _, _ => by cases e
  | i :: r, j :: q, e, hx, hy, h => by
    have a := hx i List.mem_cons_self
    have b := hy j List.mem_cons_self
    simp only [enc] at h
    have m1 : (i + n * enc n r) % n = i := by rw [Nat.add_mul_mod_self_left, Nat.mod_eq_of_lt a]
    have m2 : (j + n * enc n q) % n = j := by rw [Nat.add_mul_mod_self_left, Nat.mod_eq_of_lt b]
    have e1 : i = j := by rw [← m1, ← m2, h]
    subst e1
    have e2 : enc n r = enc n q := by
      have z : n * enc n r = n * enc n q := by omega
      exact Nat.eq_of_mul_eq_mul_left (by omega) z
    rw [enc_inj (by simpa using e) (fun k hk => hx k (List.mem_cons_of_mem _ hk)) (fun k hk => hy k (List.mem_cons_of_mem _ hk)) e2]
theorem maps_few {n : Nat} {f : List (List Nat)} (nd : f.Nodup) (v : ∀ x ∈ f, Valid n x) : f.length ≤ n ^ n := by
  have q := nodup_lt (n ^ n) (f.map (enc n)) ?_ ?_
  · rwa [List.length_map] at q
  · rw [List.Nodup, List.pairwise_map]
    refine nd.imp_of_mem fun {a b} ha hb ne e => ne ?_
    exact enc_inj (by rw [(v a ha).1, (v b hb).1]) (v a ha).2 (v b hb).2 e
  · intro x hx
    obtain ⟨y, hy, rfl⟩ := List.mem_map.mp hx
    have := enc_lt (v y hy).2
    rwa [(v y hy).1] at this
/-! ### the order in which numbers are met -/
def madeRow (i : Nat) : Nat → List Nat → List (Nat × Nat) → Option (List (Nat × Nat))
  | _, [], m => some m
  | c, t :: r, m => if m.length + 1 < t then none else if t = m.length + 1 then madeRow i (c + 1) r (m ++ [(i, c)]) else madeRow i (c + 1) r m
def madeTab : Nat → List (List Nat) → List (Nat × Nat) → Option (List (Nat × Nat))
  | _, [], m => some m
  | i, row :: rest, m => if m.length + 1 ≤ i then none else (madeRow i 0 row m).bind (madeTab (i + 1) rest)
theorem madeRow_snoc {i t : Nat} : ∀ {row : List Nat} {c : Nat} {m : List (Nat × Nat)}, madeRow i c (row ++ [t]) m = (madeRow i c row m).bind fun m' => if m'.length + 1 < t then none else if t = m'.length + 1 then some (m' ++ [(i, c + row.length)]) else some m'
  | [], c, m => by simp [madeRow]
  | u :: r, c, m => by
    simp only [List.cons_append, madeRow]
    split
    · rfl
    · split
      · rw [madeRow_snoc, List.length_cons, Nat.add_assoc, Nat.add_comm 1]
      · rw [madeRow_snoc, List.length_cons, Nat.add_assoc, Nat.add_comm 1]
theorem madeTab_snoc {row : List Nat} : ∀ {rows : List (List Nat)} {i : Nat} {m : List (Nat × Nat)}, madeTab i (rows ++ [row]) m = (madeTab i rows m).bind fun m' => if m'.length + 1 ≤ i + rows.length then none else madeRow (i + rows.length) 0 row m'
  | [], i, m => by
    simp only [List.nil_append, madeTab, List.length_nil, Nat.add_zero, Option.bind_some]
    split
    · rfl
    · cases madeRow i 0 row m <;> rfl
  | u :: r, i, m => by
    simp only [List.cons_append, madeTab]
    split
    · rfl
    · cases h : madeRow i 0 u m with
      | none => rfl
      | some m' =>
        simp only [Option.bind_some]
        rw [madeTab_snoc, List.length_cons]
        rw [show i + 1 + r.length = i + (r.length + 1) by omega]
/-- what was met: each number at a place of the table before it -/
theorem madeRow_ok {i : Nat} : ∀ {row : List Nat} {c : Nat} {m m' : List (Nat × Nat)}, madeRow i c row m = some m' → ∃ e, m' = m ++ e ∧ ∀ k p, e[k]? = some p → p.1 = i ∧ c ≤ p.2 ∧ row[p.2 - c]? = some (m.length + k + 1)
  | [], c, m, m', h => by
    simp only [madeRow, Option.some.injEq] at h
    exact ⟨[], by simp [h], fun k p hp => by simp at hp⟩
  | t :: r, c, m, m', h => by
    simp only [madeRow] at h
    split at h
    · cases h
    · split at h
      · rename_i ht
        obtain ⟨e, he, q⟩ := madeRow_ok h
        refine ⟨(i, c) :: e, by rw [he, List.append_assoc]; rfl, fun k p hp => ?_⟩
        cases k with
        | zero =>
          have := Option.some.inj hp
          subst this
          refine ⟨rfl, Nat.le_refl _, ?_⟩
          rw [Nat.sub_self]
          simp [ht]
        | succ k =>
          obtain ⟨q1, q2, q3⟩ := q k p (by simpa using hp)
          refine ⟨q1, by omega, ?_⟩
          rw [show p.2 - c = (p.2 - (c + 1)) + 1 by omega, List.getElem?_cons_succ, q3, List.length_append]
          congr 1
          show m.length + 1 + k + 1 = m.length + (k + 1) + 1
          omega
      · obtain ⟨e, he, q⟩ := madeRow_ok h
        refine ⟨e, he, fun k p hp => ?_⟩
        obtain ⟨q1, q2, q3⟩ := q k p hp
        refine ⟨q1, by omega, ?_⟩
        rw [show p.2 - c = (p.2 - (c + 1)) + 1 by omega, List.getElem?_cons_succ, q3]
theorem madeTab_ok : ∀ {rows : List (List Nat)} {i : Nat} {m m' : List (Nat × Nat)}, madeTab i rows m = some m' → ∃ e, m' = m ++ e ∧ ∀ k p, e[k]? = some p → i ≤ p.1 ∧ p.1 < m.length + k + 1 ∧ ∃ row, rows[p.1 - i]? = some row ∧ row[p.2]? = some (m.length + k + 1)
  | [], i, m, m', h => by
    simp only [madeTab, Option.some.injEq] at h
    exact ⟨[], by simp [h], fun k p hp => by simp at hp⟩
  | u :: r, i, m, m', h => by
    simp only [madeTab] at h
    split at h
    · cases h
    · rename_i hi
      cases h1 : madeRow i 0 u m with
      | none => rw [h1] at h; cases h
      | some m1 =>
        rw [h1, Option.bind_some] at h
        obtain ⟨e1, he1, q1⟩ := madeRow_ok h1
        obtain ⟨e2, he2, q2⟩ := madeTab_ok h
        refine ⟨e1 ++ e2, by rw [he2, he1, List.append_assoc], fun k p hp => ?_⟩
        by_cases hk : k < e1.length
        · rw [List.getElem?_append_left hk] at hp
          obtain ⟨a, b, c⟩ := q1 k p hp
          refine ⟨by omega, by omega, u, by rw [a, Nat.sub_self]; rfl, ?_⟩
          rwa [Nat.sub_zero] at c
        · rw [List.getElem?_append_right (by omega)] at hp
          obtain ⟨a, b, row, c, d⟩ := q2 _ p hp
          have le : m1.length = m.length + e1.length := by rw [he1, List.length_append]
          refine ⟨by omega, by omega, row, ?_, ?_⟩
          · rw [show p.1 - i = (p.1 - (i + 1)) + 1 by omega, List.getElem?_cons_succ, c]
          · rw [d, le]
            congr 1
            omega
theorem madeTab_app {b : List (List Nat)} : ∀ {a : List (List Nat)} {i : Nat} {m : List (Nat × Nat)}, madeTab i (a ++ b) m = (madeTab i a m).bind (madeTab (i + a.length) b)
  | [], i, m => by simp [madeTab]
  | u :: r, i, m => by
    simp only [List.cons_append, madeTab]
    split
    · rfl
    · cases madeRow i 0 u m with
      | none => rfl
      | some m' =>
        simp only [Option.bind_some]
        rw [madeTab_app, List.length_cons, show i + 1 + r.length = i + (r.length + 1) by omega]
theorem take_cons {α : Type} {l : List α} {i : Nat} {x : α} (h : l[i]? = some x) : l = l.take i ++ x :: l.drop (i + 1) ∧ l.take (i + 1) = l.take i ++ [x] ∧ (l.take i).length = i := by
  obtain ⟨hi, e⟩ := List.getElem?_eq_some_iff.mp h
  refine ⟨?_, ?_, by rw [List.length_take]; omega⟩
  · rw [← e, ← List.drop_eq_getElem_cons hi, List.take_append_drop]
  · rw [← e, List.take_succ_eq_append_getElem hi]
theorem madeTab_at {rows : List (List Nat)} {i : Nat} {row : List Nat} {m : List (Nat × Nat)} (h : madeTab 0 rows [] = some m) (hr : rows[i]? = some row) :
    ∃ m', madeTab 0 (rows.take i) [] = some m' ∧ i < m'.length + 1 ∧ ∃ m'', madeRow i 0 row m' = some m'' ∧ madeTab 0 (rows.take (i + 1)) [] = some m'' := by
  obtain ⟨e1, e2, e3⟩ := take_cons hr
  rw [e1, madeTab_app, e3, Nat.zero_add] at h
  cases h1 : madeTab 0 (rows.take i) [] with
  | none => rw [h1] at h; cases h
  | some m' =>
    rw [h1, Option.bind_some] at h
    simp only [madeTab] at h
    split at h
    · cases h
    · rename_i hi
      cases h2 : madeRow i 0 row m' with
      | none => rw [h2] at h; cases h
      | some m'' =>
        refine ⟨m', rfl, by omega, m'', h2, ?_⟩
        rw [e2, madeTab_app, h1, e3, Nat.zero_add, Option.bind_some]
        simp only [madeTab]
        rw [if_neg hi, h2]
        rfl
theorem madeRow_app {i : Nat} {b : List Nat} : ∀ {a : List Nat} {c : Nat} {m : List (Nat × Nat)}, madeRow i c (a ++ b) m = (madeRow i c a m).bind (madeRow i (c + a.length) b)
  | [], c, m => by simp [madeRow]
  | u :: r, c, m => by
    simp only [List.cons_append, madeRow, List.length_cons]
    split
    · rfl
    · split
      · rw [madeRow_app, show c + 1 + r.length = c + (r.length + 1) by omega]
      · rw [madeRow_app, show c + 1 + r.length = c + (r.length + 1) by omega]
theorem madeRow_at {row : List Nat} {i c t : Nat} {m m2 : List (Nat × Nat)} (h : madeRow i 0 row m = some m2) (hr : row[c]? = some t) :
    ∃ m', madeRow i 0 (row.take c) m = some m' ∧ t ≤ m'.length + 1 ∧ madeRow i 0 (row.take (c + 1)) m = some (if t = m'.length + 1 then m' ++ [(i, c)] else m') := by
  obtain ⟨e1, e2, e3⟩ := take_cons hr
  rw [e1, madeRow_app, e3, Nat.zero_add] at h
  cases h1 : madeRow i 0 (row.take c) m with
  | none => rw [h1] at h; cases h
  | some m' =>
    rw [h1, Option.bind_some] at h
    simp only [madeRow] at h
    split at h
    · cases h
    · rename_i hi
      refine ⟨m', rfl, by omega, ?_⟩
      rw [e2, madeRow_app, h1, e3, Nat.zero_add, Option.bind_some]
      simp only [madeRow]
      rw [if_neg hi]
      split <;> rfl
theorem madeTab_lt {rows : List (List Nat)} {m : List (Nat × Nat)} (h : madeTab 0 rows [] = some m) {k : Nat} {p : Nat × Nat} (hp : m[k]? = some p) : p.1 < k + 1 ∧ ∃ row, rows[p.1]? = some row ∧ row[p.2]? = some (k + 1) := by
  obtain ⟨e, he, q⟩ := madeTab_ok h
  rw [List.nil_append] at he
  subst he
  obtain ⟨_, a, row, b, c⟩ := q k p hp
  refine ⟨by simpa using a, row, by simpa using b, by simpa using c⟩
/-! ### a table that maps act by -/
structure Tab (n : Nat) (gens found rows : List (List Nat)) : Prop where
  nd : found.Nodup
  val : ∀ x ∈ found, Valid n x
  gval : ∀ g ∈ gens, Valid n g
  head : found[0]? = some (idm n)
  len : rows.length = found.length
  wid : ∀ (i : Nat) row, rows[i]? = some row → row.length = gens.length
  ent : ∀ (i : Nat) row, rows[i]? = some row → ∀ (c t : Nat), row[c]? = some t → ∃ x g, found[i]? = some x ∧ gens[c]? = some g ∧ found[t]? = some (comp x g)
def leftStep (rows : List (List Nat)) (L : List (List Nat)) (p : Nat × Nat) : List (List Nat) := L ++ [(L.getD p.1 []).map fun x => (rows.getD x []).getD p.2 0]
def leftTab (rows : List (List Nat)) (made : List (Nat × Nat)) : List (List Nat) := made.foldl (leftStep rows) [rows.getD 0 []]
/-- row k of the left table tells what letters in front of element k are -/
def LeftOk (gens found : List (List Nat)) (k : Nat) (l : List Nat) : Prop := l.length = gens.length ∧ ∀ (a e : Nat), l[a]? = some e → ∃ g x, gens[a]? = some g ∧ found[k]? = some x ∧ found[e]? = some (comp g x)
theorem nodup_at {α : Type} {l : List α} (nd : l.Nodup) {i j : Nat} {x : α} (h1 : l[i]? = some x) (h2 : l[j]? = some x) : i = j := by
  obtain ⟨a, ha⟩ := List.getElem?_eq_some_iff.mp h1
  obtain ⟨b, hb⟩ := List.getElem?_eq_some_iff.mp h2
  have pw := List.pairwise_iff_getElem.mp nd
  rcases Nat.lt_trichotomy i j with h | h | h
  · exact absurd (ha.trans hb.symm) (pw i j a b h)
  · exact h
  · exact absurd (hb.trans ha.symm) (pw j i b a h)
section
variable {n : Nat} {gens found rows : List (List Nat)}
theorem Tab.at (T : Tab n gens found rows) {i : Nat} {x : List Nat} (h : found[i]? = some x) : ∃ row, rows[i]? = some row := by
  have := (List.getElem?_eq_some_iff.mp h).1
  exact ⟨_, List.getElem?_eq_getElem (by rw [T.len]; exact this)⟩
/-- the entry of row i at letter c -/
theorem Tab.get (T : Tab n gens found rows) {i c : Nat} {x g : List Nat} (h : found[i]? = some x) (hg : gens[c]? = some g) : found[(rows.getD i []).getD c 0]? = some (comp x g) := by
  obtain ⟨row, hr⟩ := T.at h
  have hc : c < row.length := by rw [T.wid i row hr]; exact (List.getElem?_eq_some_iff.mp hg).1
  obtain ⟨x', g', h1, h2, h3⟩ := T.ent i row hr c row[c] (List.getElem?_eq_getElem hc)
  rw [h] at h1
  rw [hg] at h2
  cases h1
  cases h2
  rw [getD_of hr, getD_at hc]
  exact h3
theorem left_len {made : List (Nat × Nat)} : (leftTab rows made).length = made.length + 1 := by
  unfold leftTab
  suffices h : ∀ (m : List (Nat × Nat)) (L : List (List Nat)), (m.foldl (leftStep rows) L).length = L.length + m.length by
    rw [h, List.length_singleton, Nat.add_comm]
  intro m
  induction m with
  | nil => intro L; simp
  | cons p r ih => intro L; rw [List.foldl_cons, ih, leftStep, List.length_append, List.length_singleton, List.length_cons]; omega
theorem left_snoc {made : List (Nat × Nat)} {p : Nat × Nat} : leftTab rows (made ++ [p]) = leftStep rows (leftTab rows made) p := by
  unfold leftTab
  rw [List.foldl_append]
  rfl
theorem left_ok (T : Tab n gens found rows) (hz : gens ≠ []) : ∀ (made : List (Nat × Nat)), (∀ k p, made[k]? = some p → p.1 < k + 1 ∧ ∃ row, rows[p.1]? = some row ∧ row[p.2]? = some (k + 1)) → ∀ k l, (leftTab rows made)[k]? = some l → LeftOk gens found k l := by
  intro made
  have base : ∀ l, rows.getD 0 [] = l → LeftOk gens found 0 l := fun l hl => by
    obtain ⟨row, hr⟩ := T.at T.head
    rw [getD_of hr] at hl
    subst hl
    refine ⟨T.wid 0 row hr, fun a e he => ?_⟩
    obtain ⟨x, g, h1, h2, h3⟩ := T.ent 0 row hr a e he
    rw [T.head] at h1
    cases h1
    have gv := T.gval g (List.mem_of_getElem? h2)
    refine ⟨g, idm n, h2, T.head, ?_⟩
    rw [comp_id gv, h3, id_comp gv]
  suffices h : ∀ (r : List (Nat × Nat)) (m : List (Nat × Nat)), (∀ k p, (m ++ r)[k]? = some p → p.1 < k + 1 ∧ ∃ row, rows[p.1]? = some row ∧ row[p.2]? = some (k + 1)) → (∀ k l, (leftTab rows m)[k]? = some l → LeftOk gens found k l) →
      ∀ k l, (leftTab rows (m ++ r))[k]? = some l → LeftOk gens found k l by
    intro hm
    have := h made [] (by simpa using hm) (fun k l hl => by
      unfold leftTab at hl
      cases k with
      | zero => exact base l (Option.some.inj hl)
      | succ k => simp at hl)
    simpa using this
  intro r
  induction r with
  | nil => intro m _ h; simpa using h
  | cons p r ih =>
    intro m hm h
    rw [List.append_cons]
    refine ih (m ++ [p]) (by rw [← List.append_cons]; exact hm) fun k l hl => ?_
    rw [left_snoc, leftStep] at hl
    by_cases hk : k < (leftTab rows m).length
    · rw [List.getElem?_append_left hk] at hl
      exact h k l hl
    · have hk2 : k = (leftTab rows m).length := by
        have := (List.getElem?_eq_some_iff.mp hl).1
        rw [List.length_append, List.length_singleton] at this
        omega
      rw [List.getElem?_append_right (by omega), hk2, Nat.sub_self] at hl
      have el := Option.some.inj hl
      have kl : k = m.length + 1 := by rw [hk2, left_len]
      obtain ⟨b1, row, hrow, hent⟩ := hm m.length p (by rw [List.getElem?_append_right (Nat.le_refl _), Nat.sub_self]; rfl)
      obtain ⟨xb, gp, hxb, hgp, hfk⟩ := T.ent p.1 row hrow p.2 _ hent
      have hb : p.1 < (leftTab rows m).length := by rw [left_len]; exact b1
      have hL := h p.1 ((leftTab rows m)[p.1]) (List.getElem?_eq_getElem hb)
      rw [getD_at hb] at el
      refine ⟨by rw [← el, List.length_map]; exact hL.1, fun a e he => ?_⟩
      rw [← el, List.getElem?_map] at he
      cases q : ((leftTab rows m)[p.1])[a]? with
      | none => rw [q] at he; cases he
      | some e0 =>
        rw [q] at he
        have ee := Option.some.inj he
        obtain ⟨g, x, h1, h2, h3⟩ := hL.2 a e0 q
        rw [hxb] at h2
        cases h2
        have z := T.get h3 hgp
        have gv := T.gval g (List.mem_of_getElem? h1)
        have xv := T.val xb (List.mem_of_getElem? hxb)
        refine ⟨g, comp xb gp, h1, by rw [kl]; exact hfk, ?_⟩
        rw [← ee, z, comp_assoc gv xv]
theorem prod_ok (T : Tab n gens found rows) (hz : gens ≠ []) {L : List (List Nat)} (hL : ∀ k l, L[k]? = some l → LeftOk gens found k l) {i c t : Nat} {row li lt : List Nat} (h1 : rows[i]? = some row) (h2 : row[c]? = some t) (h3 : L[i]? = some li) (h4 : L[t]? = some lt) :
    lt = li.map fun x => (rows.getD x []).getD c 0 := by
  obtain ⟨x, g, hx, hg, ht⟩ := T.ent i row h1 c t h2
  have a := hL i li h3
  have b := hL t lt h4
  apply List.ext_getElem
  · rw [List.length_map, a.1, b.1]
  · intro k k1 k2
    rw [List.length_map] at k2
    rw [List.getElem_map]
    obtain ⟨ga, y, e1, e2, e3⟩ := b.2 k lt[k] (List.getElem?_eq_getElem k1)
    obtain ⟨gb, z, e4, e5, e6⟩ := a.2 k li[k] (List.getElem?_eq_getElem k2)
    rw [e1] at e4
    cases e4
    rw [ht] at e2
    cases e2
    rw [hx] at e5
    cases e5
    have q := T.get e6 hg
    have gv := T.gval ga (List.mem_of_getElem? e1)
    have xv := T.val x (List.mem_of_getElem? hx)
    rw [comp_assoc gv xv] at q
    exact nodup_at T.nd e3 q
end
end Mon

set_option Elab.async false
set_option linter.all false
set_option maxRecDepth 100000
set_option maxHeartbeats 4000000
/-! Products of maps, found one by one: pure. -/
namespace Lf
open PySem PySem.Spec PyProof.Rows L2
/-- numbers as the key of a dict -/
def kt (x : List Nat) : List Key := x.map fun i => (Sum.inl ((i : Nat) : Int) : Key)
theorem kt_map {x : List Nat} : (kt x).map kV = x.map fun i => V.int (i : Nat) := by
  unfold kt
  rw [List.map_map]
  rfl
theorem kt_inj : ∀ {x y : List Nat}, kt x = kt y → x = y
  | [], [], _ => rfl
  | [], _ :: _, h => by simp [kt] at h
  | _ :: _, [], h => by simp [kt] at h
  | a :: r, b :: s, h => by
    unfold kt at h
    rw [List.map_cons, List.map_cons] at h
    injection h with h1 h2
    have e : ((a : Int)) = (b : Int) := Sum.inl.inj h1
    rw [show a = b by omega, kt_inj (x := r) (y := s) h2]
/-- a dict of numbers by their place -/
def dtabF : Nat → List (List Nat) → List (List Key × V)
  | _, [] => []
  | k, x :: r => (kt x, .int (k : Nat)) :: dtabF (k + 1) r
abbrev dtab (f : List (List Nat)) : List (List Key × V) := dtabF 0 f
theorem dtabF_len : ∀ {f : List (List Nat)} {k : Nat}, (dtabF k f).length = f.length
  | [], _ => rfl
  | x :: r, k => by rw [dtabF, List.length_cons, dtabF_len, List.length_cons]
theorem dtabF_snoc {x : List Nat} : ∀ {f : List (List Nat)} {k : Nat}, dtabF k (f ++ [x]) = dtabF k f ++ [(kt x, .int (k + f.length : Nat))]
  | [], k => rfl
  | y :: r, k => by
    rw [List.cons_append, dtabF, dtabF, dtabF_snoc, List.cons_append, List.length_cons, show k + 1 + r.length = k + (r.length + 1) by omega]
theorem dtabF_none {x : List Nat} : ∀ {f : List (List Nat)} {k : Nat}, x ∉ f → valV (dtabF k f) (kt x) = none
  | [], _, _ => rfl
  | y :: r, k, h => by
    have hy : ¬ kt y = kt x := fun z => h (by rw [kt_inj z]; exact List.mem_cons_self)
    rw [dtabF, valV_neg (p := (kt y, V.int (k : Nat))) hy]
    exact dtabF_none fun z => h (List.mem_cons_of_mem _ z)
theorem dtabF_some {x : List Nat} : ∀ {f : List (List Nat)} {k i : Nat}, f.Nodup → f[i]? = some x → valV (dtabF k f) (kt x) = some (.int (k + i : Nat))
  | [], _, _, _, h => by simp at h
  | y :: r, k, 0, _, h => by
    cases h
    rw [dtabF, valV_pos (p := (kt x, V.int (k : Nat))) rfl]
    rfl
  | y :: r, k, i + 1, nd, h => by
    have hm : r[i]? = some x := h
    obtain ⟨h1, h2⟩ := List.nodup_cons.mp nd
    have hy : ¬ kt y = kt x := fun z => h1 (by rw [kt_inj z]; exact List.mem_of_getElem? hm)
    rw [dtabF, valV_neg (p := (kt y, V.int (k : Nat))) hy, dtabF_some h2 hm, show k + 1 + i = k + (i + 1) by omega]
theorem dtab_put {x : List Nat} {f : List (List Nat)} (h : x ∉ f) : putK (dtab f) (kt x) (.int (f.length : Nat)) = dtab (f ++ [x]) := by
  rw [putK_new _ (dtabF_none h), dtab, dtabF_snoc, Nat.zero_add]
end Lf
namespace Mon
/-- the words of what was met -/
def wordStep (L : List (List Nat)) (p : Nat × Nat) : List (List Nat) := L ++ [L.getD p.1 [] ++ [p.2]]
def wordTab (m : List (Nat × Nat)) : List (List Nat) := m.foldl wordStep [[]]
theorem word_snoc {m : List (Nat × Nat)} {p : Nat × Nat} : wordTab (m ++ [p]) = wordStep (wordTab m) p := by
  unfold wordTab
  rw [List.foldl_append]
  rfl
theorem word_len : ∀ {m : List (Nat × Nat)}, (wordTab m).length = m.length + 1 := by
  intro m
  unfold wordTab
  suffices h : ∀ (m : List (Nat × Nat)) (L : List (List Nat)), (m.foldl wordStep L).length = L.length + m.length by
    rw [h]
    show 1 + m.length = _
    omega
  intro m
  induction m with
  | nil => intro L; rfl
  | cons p r ih =>
    intro L
    rw [List.foldl_cons, ih, wordStep, List.length_append, List.length_cons, List.length_cons, List.length_nil]
    omega
/-- the search at letter c of row i -/
structure Bfs (n : Nat) (gens : List (List Nat)) (i c : Nat) (found rows : List (List Nat)) (row : List Nat) (m : List (Nat × Nat)) : Prop where
  nd : found.Nodup
  val : ∀ x ∈ found, Valid n x
  gval : ∀ g ∈ gens, Valid n g
  head : found[0]? = some (idm n)
  len : rows.length = i
  wid : ∀ (j : Nat) r, rows[j]? = some r → r.length = gens.length
  ent : ∀ (j : Nat) r, rows[j]? = some r → ∀ (k t : Nat), r[k]? = some t → ∃ x g, found[j]? = some x ∧ gens[k]? = some g ∧ found[t]? = some (comp x g)
  rlen : row.length = c
  rent : ∀ (k t : Nat), row[k]? = some t → ∃ x g, found[i]? = some x ∧ gens[k]? = some g ∧ found[t]? = some (comp x g)
  made : ∃ m0, madeTab 0 rows [] = some m0 ∧ (c ≠ 0 → i < m0.length + 1) ∧ madeRow i 0 row m0 = some m
  mlen : m.length + 1 = found.length
  le : i ≤ found.length
theorem Bfs.few {n : Nat} {gens found rows : List (List Nat)} {i c : Nat} {row : List Nat} {m : List (Nat × Nat)} (B : Bfs n gens i c found rows row m) : found.length ≤ n ^ n := maps_few B.nd B.val
theorem Bfs.start {n : Nat} {gens : List (List Nat)} (gv : ∀ g ∈ gens, Valid n g) : Bfs n gens 0 0 [idm n] [] [] [] where
  nd := by simp
  val := fun x hx => by rw [List.mem_singleton.mp hx]; exact idm_valid
  gval := gv
  head := rfl
  len := rfl
  wid := fun j r h => by simp at h
  ent := fun j r h => by simp at h
  rlen := rfl
  rent := fun k t h => by simp at h
  made := ⟨[], rfl, fun z => (z rfl).elim, rfl⟩
  mlen := rfl
  le := Nat.zero_le _
theorem get_app {α : Type} {l : List α} {i : Nat} {x : α} (y : α) (h : l[i]? = some x) : (l ++ [y])[i]? = some x := by
  rw [List.getElem?_append_left (List.getElem?_eq_some_iff.mp h).1]
  exact h
theorem snoc_cases {α : Type} {l : List α} {j : Nat} {x y : α} (h : (l ++ [y])[j]? = some x) : l[j]? = some x ∨ j = l.length ∧ x = y := by
  by_cases hj : j < l.length
  · rw [List.getElem?_append_left hj] at h
    exact .inl h
  · have := (List.getElem?_eq_some_iff.mp h).1
    rw [List.length_append, List.length_singleton] at this
    have e : j = l.length := by omega
    subst e
    rw [List.getElem?_append_right (Nat.le_refl _), Nat.sub_self] at h
    exact .inr ⟨rfl, (Option.some.inj h).symm⟩
section
variable {n : Nat} {gens found rows : List (List Nat)} {i c : Nat} {row : List Nat} {m : List (Nat × Nat)}
/-- a product that was met before -/
theorem Bfs.old (B : Bfs n gens i c found rows row m) {x g : List Nat} {t : Nat} (hx : found[i]? = some x) (hg : gens[c]? = some g) (ht : found[t]? = some (comp x g)) : Bfs n gens i (c + 1) found rows (row ++ [t]) m := by
  obtain ⟨m0, a1, a2, a3⟩ := B.made
  have tl := (List.getElem?_eq_some_iff.mp ht).1
  have il := (List.getElem?_eq_some_iff.mp hx).1
  have ml := B.mlen
  refine { B with rlen := by rw [List.length_append, B.rlen]; rfl, rent := fun k u h => ?_, made := ⟨m0, a1, fun _ => ?_, ?_⟩ }
  · rcases snoc_cases h with h | ⟨rfl, rfl⟩
    · exact B.rent k u h
    · exact ⟨x, g, hx, by rw [B.rlen]; exact hg, ht⟩
  · by_cases hc : c = 0
    · subst hc
      have : row = [] := List.length_eq_zero_iff.mp B.rlen
      subst this
      have e : m0 = m := Option.some.inj a3
      subst e
      omega
    · exact a2 hc
  · rw [madeRow_snoc, a3, Option.bind_some, if_neg (by omega), if_neg (by omega)]
/-- a new one -/
theorem Bfs.new (B : Bfs n gens i c found rows row m) {x g : List Nat} (hx : found[i]? = some x) (hg : gens[c]? = some g) (hn : comp x g ∉ found) : Bfs n gens i (c + 1) (found ++ [comp x g]) rows (row ++ [found.length]) (m ++ [(i, c)]) := by
  obtain ⟨m0, a1, a2, a3⟩ := B.made
  have il := (List.getElem?_eq_some_iff.mp hx).1
  have ml := B.mlen
  refine ⟨?_, fun z hz => ?_, B.gval, get_app _ B.head, B.len, B.wid, fun j r hr k t ht => ?_, by rw [List.length_append, B.rlen]; rfl, fun k t h => ?_, ⟨m0, a1, fun _ => ?_, ?_⟩, by simp [ml], by rw [List.length_append]; omega⟩
  · rw [List.nodup_append]
    refine ⟨B.nd, by simp, fun a ha b hb e => ?_⟩
    rw [e, List.mem_singleton.mp hb] at ha
    exact hn ha
  · rcases List.mem_append.mp hz with h | h
    · exact B.val z h
    · rw [List.mem_singleton.mp h]
      exact comp_valid (B.val x (List.mem_of_getElem? hx)) (B.gval g (List.mem_of_getElem? hg))
  · obtain ⟨u, v, h1, h2, h3⟩ := B.ent j r hr k t ht
    exact ⟨u, v, get_app _ h1, h2, get_app _ h3⟩
  · rcases snoc_cases h with h | ⟨rfl, rfl⟩
    · obtain ⟨u, v, h1, h2, h3⟩ := B.rent k t h
      exact ⟨u, v, get_app _ h1, h2, get_app _ h3⟩
    · refine ⟨x, g, get_app _ hx, by rw [B.rlen]; exact hg, ?_⟩
      rw [List.getElem?_append_right (Nat.le_refl _), Nat.sub_self]
      rfl
  · by_cases hc : c = 0
    · subst hc
      have : row = [] := List.length_eq_zero_iff.mp B.rlen
      subst this
      have e : m0 = m := Option.some.inj a3
      subst e
      omega
    · exact a2 hc
  · rw [madeRow_snoc, a3, Option.bind_some, if_neg (by omega), if_pos ml.symm, Nat.zero_add, B.rlen]
/-- the end of a row -/
theorem Bfs.next (B : Bfs n gens i c found rows row m) (hc : c = gens.length) (c0 : c ≠ 0) {x : List Nat} (hx : found[i]? = some x) : Bfs n gens (i + 1) 0 found (rows ++ [row]) [] m := by
  obtain ⟨m0, a1, a2, a3⟩ := B.made
  have il := (List.getElem?_eq_some_iff.mp hx).1
  refine ⟨B.nd, B.val, B.gval, B.head, by rw [List.length_append, B.len]; rfl, fun j r h => ?_, fun j r h k t ht => ?_, rfl, fun k t h => by simp at h, ⟨m, ?_, fun z => (z rfl).elim, rfl⟩, B.mlen, il⟩
  · rcases snoc_cases h with h | ⟨rfl, rfl⟩
    · exact B.wid j r h
    · rw [B.rlen, hc]
  · rcases snoc_cases h with h | ⟨rfl, rfl⟩
    · exact B.ent j r h k t ht
    · rw [B.len]
      exact B.rent k t ht
  · rw [madeTab_snoc, a1, Option.bind_some, Nat.zero_add, B.len, if_neg (by have := a2 c0; omega)]
    exact a3
/-- the end of the search -/
theorem Bfs.tab (B : Bfs n gens i 0 found rows [] m) (h : found.length ≤ i) : Tab n gens found rows ∧ madeTab 0 rows [] = some m ∧ m.length + 1 = rows.length := by
  obtain ⟨m0, a1, a2, a3⟩ := B.made
  have e : m0 = m := Option.some.inj a3
  subst e
  have le := B.le
  have l := B.len
  have ml := B.mlen
  exact ⟨⟨B.nd, B.val, B.gval, B.head, by omega, B.wid, B.ent⟩, a1, by omega⟩
end
end Mon

set_option Elab.async false
set_option linter.all false
set_option maxRecDepth 100000
set_option maxHeartbeats 4000000
/-! How many words lead to each element: pure. -/
namespace Mon
/-- how often each number below N stands in I -/
def cvec (N : Nat) (I : List Nat) : List Nat := (List.range N).map fun k => I.count k
theorem cvec_len {N : Nat} {I : List Nat} : (cvec N I).length = N := by simp [cvec]
theorem cvec_get {N k : Nat} {I : List Nat} (h : k < N) : (cvec N I)[k]? = some (I.count k) := by simp [cvec, h]
def bump (f : List Nat) (t many : Nat) : List Nat := f.set t (f.getD t 0 + many)
def rowBump (f row : List Nat) (many : Nat) : List Nat := row.foldl (fun f t => bump f t many) f
def stepF (f : List Nat) : List (List Nat) → List Nat → List Nat
  | row :: rows, c :: cs => stepF (rowBump f row c) rows cs
  | _, _ => f
def stepC (rows : List (List Nat)) (cs : List Nat) : List Nat := stepF (List.replicate rows.length 0) rows cs
def dp (rows : List (List Nat)) : Nat → List Nat
  | 0 => (List.replicate rows.length 0).set 0 1
  | t + 1 => stepC rows (dp rows t)
theorem bump_len {f : List Nat} {t many : Nat} : (bump f t many).length = f.length := by simp [bump]
theorem rowBump_len : ∀ {row f : List Nat} {many : Nat}, (rowBump f row many).length = f.length
  | [], f, many => rfl
  | t :: row, f, many => by
    show (rowBump (bump f t many) row many).length = _
    rw [rowBump_len, bump_len]
theorem bump_at {f : List Nat} {t many k : Nat} (h : t < f.length) : (bump f t many).getD k 0 = f.getD k 0 + (if t = k then many else 0) := by
  unfold bump
  by_cases e : t = k
  · subst e
    rw [if_pos rfl]
    simp [List.getD, h]
  · rw [if_neg e]
    simp [List.getD, List.getElem?_set_ne e]
theorem rowBump_at : ∀ {row f : List Nat} {many k : Nat}, (∀ t ∈ row, t < f.length) → (rowBump f row many).getD k 0 = f.getD k 0 + row.count k * many
  | [], f, many, k, _ => by
    show f.getD k 0 = f.getD k 0 + 0 * many
    omega
  | t :: row, f, many, k, h => by
    show (rowBump (bump f t many) row many).getD k 0 = _
    rw [rowBump_at (fun u hu => by rw [bump_len]; exact h u (List.mem_cons_of_mem _ hu)), bump_at (h t List.mem_cons_self), List.count_cons]
    by_cases e : t = k
    · subst e
      simp only [if_true, beq_self_eq_true]
      rw [Nat.add_mul]
      omega
    · have e' : (t == k) = false := beq_eq_false_iff_ne.mpr e
      rw [if_neg e, e', if_neg (by decide), Nat.add_zero, Nat.add_zero]
/-- what the rows add to number k -/
def wsum (k : Nat) : List (List Nat) → List Nat → Nat
  | row :: rows, c :: cs => row.count k * c + wsum k rows cs
  | _, _ => 0
theorem stepF_len : ∀ {rows : List (List Nat)} {cs f : List Nat}, (stepF f rows cs).length = f.length
  | [], cs, f => by cases cs <;> rfl
  | row :: rows, [], f => rfl
  | row :: rows, c :: cs, f => by
    show (stepF (rowBump f row c) rows cs).length = _
    rw [stepF_len, rowBump_len]
theorem stepF_at {k : Nat} : ∀ {rows : List (List Nat)} {cs f : List Nat}, (∀ row ∈ rows, ∀ t ∈ row, t < f.length) → (stepF f rows cs).getD k 0 = f.getD k 0 + wsum k rows cs
  | [], cs, f, _ => by
    cases cs <;> rfl
  | row :: rows, [], f, _ => rfl
  | row :: rows, c :: cs, f, h => by
    show (stepF (rowBump f row c) rows cs).getD k 0 = f.getD k 0 + (row.count k * c + wsum k rows cs)
    rw [stepF_at (fun r hr t ht => by rw [rowBump_len]; exact h r (List.mem_cons_of_mem _ hr) t ht), rowBump_at (h row List.mem_cons_self)]
    omega
theorem stepC_len {rows : List (List Nat)} {cs : List Nat} : (stepC rows cs).length = rows.length := by rw [stepC, stepF_len, List.length_replicate]
theorem dp_len {rows : List (List Nat)} : ∀ {t : Nat}, (dp rows t).length = rows.length
  | 0 => by simp [dp]
  | t + 1 => by rw [dp, stepC_len]
/-- summed over the places, or over what stands there -/
theorem sum_set {h : Nat → Nat} : ∀ (I : List Nat) (N s : Nat), (∀ x ∈ I, s ≤ x ∧ x < s + N) → (I.map h).sum = ((List.range' s N).map fun j => I.count j * h j).sum
  | [], N, s, _ => by
    rw [List.map_nil, List.sum_nil]
    induction N generalizing s with
    | zero => rfl
    | succ N ih => rw [List.range'_succ, List.map_cons, List.sum_cons, ← ih (s + 1) fun y hy => (by cases hy)]; simp
  | x :: I, N, s, hx => by
    have ih := sum_set (h := h) I N s fun y hy => hx y (List.mem_cons_of_mem _ hy)
    have hb := hx x List.mem_cons_self
    rw [List.map_cons, List.sum_cons, ih]
    suffices g : ∀ (N s : Nat), ((List.range' s N).map fun j => (x :: I).count j * h j).sum = (if s ≤ x ∧ x < s + N then h x else 0) + ((List.range' s N).map fun j => I.count j * h j).sum by
      rw [g, if_pos hb]
    intro N
    induction N with
    | zero =>
      intro s
      rw [if_neg (by omega)]
      rfl
    | succ N ih2 =>
      intro s
      rw [List.range'_succ, List.map_cons, List.sum_cons, List.map_cons, List.sum_cons, ih2, List.count_cons]
      by_cases e : x = s
      · subst e
        rw [beq_self_eq_true, if_pos rfl, if_neg (show ¬ (x + 1 ≤ x ∧ x < x + 1 + N) by omega), if_pos (show x ≤ x ∧ x < x + (N + 1) by omega), Nat.add_mul]
        omega
      · have e' : (x == s) = false := beq_eq_false_iff_ne.mpr e
        rw [e', if_neg (by decide), Nat.add_zero]
        by_cases b : s + 1 ≤ x ∧ x < s + 1 + N
        · rw [if_pos b, if_pos (show s ≤ x ∧ x < s + (N + 1) by omega)]
          omega
        · rw [if_neg b, if_neg (show ¬ (s ≤ x ∧ x < s + (N + 1)) by omega)]
          omega
theorem wsum_eq {k : Nat} : ∀ (rows : List (List Nat)) (g : Nat → Nat) (s : Nat), wsum k rows ((List.range' s rows.length).map g) = ((List.range' s rows.length).map fun j => g j * (rows.getD (j - s) []).count k).sum
  | [], g, s => rfl
  | row :: rows, g, s => by
    rw [List.length_cons, List.range'_succ, List.map_cons, List.map_cons, List.sum_cons]
    show row.count k * g s + wsum k rows _ = _
    rw [wsum_eq rows g (s + 1)]
    have e : (List.range' (s + 1) rows.length).map (fun j => g j * (rows.getD (j - (s + 1)) []).count k) = (List.range' (s + 1) rows.length).map fun j => g j * ((row :: rows).getD (j - s) []).count k := by
      refine List.map_congr_left fun j hj => ?_
      have := List.mem_range'_1.mp hj
      obtain ⟨d, rfl⟩ : ∃ d, j = s + 1 + d := ⟨j - (s + 1), by omega⟩
      rw [show s + 1 + d - (s + 1) = d by omega, show s + 1 + d - s = d + 1 by omega]
      rfl
    rw [e, Nat.sub_self, Nat.mul_comm]
    rfl
theorem ext_getD {f g : List Nat} (l : f.length = g.length) (h : ∀ k, k < f.length → f.getD k 0 = g.getD k 0) : f = g := by
  refine List.ext_getElem l fun k h1 h2 => ?_
  have := h k h1
  rwa [getD_at h1, getD_at h2] at this
/-- a letter more -/
theorem step_cvec {rows : List (List Nat)} {I : List Nat} (hr : ∀ row ∈ rows, ∀ t ∈ row, t < rows.length) (hI : ∀ x ∈ I, x < rows.length) : stepC rows (cvec rows.length I) = cvec rows.length (I.flatMap fun j => rows.getD j []) := by
  refine ext_getD (by rw [stepC_len, cvec_len]) fun k hk => ?_
  rw [stepC_len] at hk
  rw [stepC, stepF_at (fun r hr' t ht => by rw [List.length_replicate]; exact hr r hr' t ht), getD_of (cvec_get hk), cvec, List.range_eq_range', wsum_eq, List.count_flatMap]
  have z : (List.replicate rows.length 0).getD k 0 = 0 := by simp [List.getD, hk]
  rw [z, Nat.zero_add]
  have s := sum_set (h := fun j => (rows.getD j []).count k) I rows.length 0 fun x hx => ⟨Nat.zero_le _, by have := hI x hx; omega⟩
  simp only [Nat.sub_zero]
  exact s.symm
/-- the numbers of the products of all words of a length -/
def idx (rows : List (List Nat)) : Nat → List Nat
  | 0 => [0]
  | t + 1 => (idx rows t).flatMap fun j => rows.getD j []
theorem idx_lt {rows : List (List Nat)} (h0 : 0 < rows.length) (hr : ∀ row ∈ rows, ∀ t ∈ row, t < rows.length) : ∀ (t : Nat), ∀ x ∈ idx rows t, x < rows.length
  | 0, x, hx => by
    rw [idx, List.mem_singleton] at hx
    omega
  | t + 1, x, hx => by
    rw [idx] at hx
    obtain ⟨j, _, hj⟩ := List.mem_flatMap.mp hx
    cases e : rows[j]? with
    | none => rw [List.getD, e] at hj; cases hj
    | some row =>
      rw [getD_of e] at hj
      exact hr row (List.mem_of_getElem? e) x hj
theorem dp_idx {rows : List (List Nat)} (h0 : 0 < rows.length) (hr : ∀ row ∈ rows, ∀ t ∈ row, t < rows.length) : ∀ (t : Nat), dp rows t = cvec rows.length (idx rows t)
  | 0 => by
    refine ext_getD (by rw [dp_len, cvec_len]) fun k hk => ?_
    rw [dp_len] at hk
    rw [getD_of (cvec_get hk), dp, idx]
    cases k with
    | zero => simp [List.getD, h0]
    | succ k => simp [List.getD, hk, List.count_cons]
  | t + 1 => by rw [dp, dp_idx h0 hr t, step_cvec hr (idx_lt h0 hr t), idx]
theorem ones : ∀ (I : List Nat), (I.map fun _ => 1).sum = I.length
  | [] => rfl
  | x :: I => by rw [List.map_cons, List.sum_cons, ones I, List.length_cons, Nat.add_comm]
theorem cvec_sum {N : Nat} {I : List Nat} (h : ∀ x ∈ I, x < N) : (cvec N I).sum = I.length := by
  have s : (I.map fun _ => 1).sum = ((List.range' 0 N).map fun j => I.count j * 1).sum := sum_set I N 0 fun x hx => ⟨Nat.zero_le _, by have := h x hx; omega⟩
  rw [cvec, List.range_eq_range']
  rw [show ((List.range' 0 N).map fun j => I.count j * 1) = (List.range' 0 N).map fun k => I.count k from List.map_congr_left fun j _ => Nat.mul_one _] at s
  rw [← s]
  exact ones I
end Mon

set_option Elab.async false
set_option linter.all false
/-! How long the words are: pure. -/
namespace Mon
theorem pw_const {v : Nat} : ∀ {l : List Nat}, (∀ a ∈ l, a = v) → l.Pairwise (· ≤ ·)
  | [], _ => .nil
  | x :: l, h => .cons (fun a ha => by rw [h x List.mem_cons_self, h a (List.mem_cons_of_mem _ ha)]; exact Nat.le_refl _) (pw_const fun a ha => h a (List.mem_cons_of_mem _ ha))
theorem madeTab_sorted : ∀ {rows : List (List Nat)} {i : Nat} {m m' : List (Nat × Nat)}, madeTab i rows m = some m' → ∃ e, m' = m ++ e ∧ (e.map (·.1)).Pairwise (· ≤ ·) ∧ ∀ p ∈ e, i ≤ p.1
  | [], i, m, m', h => by
    simp only [madeTab, Option.some.injEq] at h
    exact ⟨[], by simp [h], by simp, fun p hp => by cases hp⟩
  | row :: rows, i, m, m', h => by
    simp only [madeTab] at h
    split at h
    · cases h
    · cases hr : madeRow i 0 row m with
      | none => rw [hr] at h; cases h
      | some m1 =>
        rw [hr, Option.bind_some] at h
        obtain ⟨e1, he1, q1⟩ := madeRow_ok hr
        obtain ⟨e2, he2, p2, g2⟩ := madeTab_sorted h
        have all1 : ∀ p ∈ e1, p.1 = i := fun p hp => by
          obtain ⟨k, hk⟩ := List.getElem?_of_mem hp
          exact (q1 k p hk).1
        refine ⟨e1 ++ e2, by rw [he2, he1, List.append_assoc], ?_, fun p hp => ?_⟩
        · rw [List.map_append, List.pairwise_append]
          refine ⟨?_, p2, fun a ha b hb => ?_⟩
          · exact pw_const (v := i) fun a ha => by
              obtain ⟨p, hp, rfl⟩ := List.mem_map.mp ha
              exact all1 p hp
          · obtain ⟨pa, hpa, rfl⟩ := List.mem_map.mp ha
            obtain ⟨pb, hpb, rfl⟩ := List.mem_map.mp hb
            have := g2 pb hpb
            rw [all1 pa hpa]
            omega
        · rcases List.mem_append.mp hp with z | z
          · rw [all1 p z]
            exact Nat.le_refl _
          · have := g2 p z
            omega
theorem made_le {rows : List (List Nat)} {m : List (Nat × Nat)} (h : madeTab 0 rows [] = some m) {i j : Nat} {p q : Nat × Nat} (hp : m[i]? = some p) (hq : m[j]? = some q) (ij : i ≤ j) : p.1 ≤ q.1 := by
  obtain ⟨e, he, pw, _⟩ := madeTab_sorted h
  rw [List.nil_append] at he
  subst he
  rcases Nat.eq_or_lt_of_le ij with z | z
  · subst z
    rw [hp] at hq
    cases hq
    exact Nat.le_refl _
  · obtain ⟨a1, a2⟩ := List.getElem?_eq_some_iff.mp hp
    obtain ⟨b1, b2⟩ := List.getElem?_eq_some_iff.mp hq
    rw [List.pairwise_map] at pw
    have := List.pairwise_iff_getElem.mp pw i j a1 b1 z
    rw [a2, b2] at this
    exact this
/-- the lengths of the words -/
def lens (m : List (Nat × Nat)) : List Nat := (wordTab m).map List.length
theorem lens_len {m : List (Nat × Nat)} : (lens m).length = m.length + 1 := by rw [lens, List.length_map, word_len]
theorem lens_snoc {m : List (Nat × Nat)} {p : Nat × Nat} (h : p.1 < m.length + 1) : lens (m ++ [p]) = lens m ++ [(lens m).getD p.1 0 + 1] := by
  unfold lens
  rw [word_snoc, wordStep, List.map_append, List.map_cons, List.map_nil, List.length_append]
  have e : (wordTab m)[p.1]? = some ((wordTab m)[p.1]'(by rw [word_len]; exact h)) := List.getElem?_eq_getElem (by rw [word_len]; exact h)
  rw [getD_of e]
  have e2 : ((wordTab m).map List.length)[p.1]? = some ((wordTab m)[p.1]'(by rw [word_len]; exact h)).length := by rw [List.getElem?_map, e]; rfl
  rw [getD_of e2]
  rfl
section
variable {m : List (Nat × Nat)}
theorem take_app_len {α : Type} {l : List α} {k : Nat} {x : α} (h : l[k]? = some x) : l.take (k + 1) = l.take k ++ [x] := (take_cons h).2.1
theorem lens_take (hm : ∀ (k : Nat) p, m[k]? = some p → p.1 < k + 1) : ∀ (k : Nat), k ≤ m.length → lens (m.take k) = (lens m).take (k + 1) := by
  suffices g : ∀ (d k : Nat), k + d = m.length → lens (m.take k) = (lens m).take (k + 1) from fun k hk => g (m.length - k) k (by omega)
  intro d
  induction d with
  | zero =>
    intro k e
    rw [List.take_of_length_le (by omega), List.take_of_length_le (by rw [lens_len]; omega)]
  | succ d ih =>
    intro k e
    have hk : k < m.length := by omega
    have hp : m[k]? = some m[k] := List.getElem?_eq_getElem hk
    have q := ih (k + 1) (by omega)
    have lk : (m.take k).length = k := by rw [List.length_take]; omega
    rw [take_app_len hp, lens_snoc (by rw [lk]; exact hm k _ hp)] at q
    have l1 : (lens (m.take k)).length = k + 1 := by rw [lens_len, lk]
    have q2 := congrArg (List.take (k + 1)) q
    rw [List.take_left' l1, List.take_take, Nat.min_eq_left (by omega)] at q2
    exact q2
theorem lens_at (hm : ∀ (k : Nat) p, m[k]? = some p → p.1 < k + 1) {k : Nat} {p : Nat × Nat} (hp : m[k]? = some p) : (lens m).getD (k + 1) 0 = (lens m).getD p.1 0 + 1 := by
  have hk := (List.getElem?_eq_some_iff.mp hp).1
  have lk : (m.take k).length = k := by rw [List.length_take]; omega
  have pk := hm k p hp
  have q := lens_take hm (k + 1) hk
  rw [take_app_len hp, lens_snoc (by rw [lk]; exact pk)] at q
  have l1 : (lens (m.take k)).length = k + 1 := by rw [lens_len, lk]
  have a : ((lens m).take (k + 2))[k + 1]? = some ((lens (m.take k)).getD p.1 0 + 1) := by
    rw [← q, List.getElem?_append_right (by omega), l1, Nat.sub_self]
    rfl
  rw [List.getElem?_take_of_lt (by omega)] at a
  rw [getD_of a, lens_take hm k (by omega)]
  have b : ((lens m).take (k + 1))[p.1]? = (lens m)[p.1]? := List.getElem?_take_of_lt pk
  rw [List.getD, List.getD, b]
theorem lens_0 : (lens m).getD 0 0 = 0 := by
  have e : (lens m)[0]? = some 0 := by
    have h : (lens m).take 1 = lens (m.take 0) ∨ True := .inr trivial
    unfold lens wordTab
    suffices g : ∀ (m : List (Nat × Nat)) (L : List (List Nat)), L[0]? = some [] → ((m.foldl wordStep L))[0]? = some [] by
      rw [List.getElem?_map, g m [[]] rfl]
      rfl
    intro m
    induction m with
    | nil => intro L h; exact h
    | cons p r ih =>
      intro L h
      rw [List.foldl_cons]
      refine ih _ ?_
      unfold wordStep
      exact get_app _ h
  rw [getD_of e]
theorem lens_mono {rows : List (List Nat)} (h : madeTab 0 rows [] = some m) : ∀ (N i j : Nat), i ≤ j → j ≤ N → N < m.length + 1 → (lens m).getD i 0 ≤ (lens m).getD j 0 := by
  have hm : ∀ (k : Nat) p, m[k]? = some p → p.1 < k + 1 := fun k p hp => (madeTab_lt h hp).1
  intro N
  induction N with
  | zero =>
    intro i j ij jN _
    rw [show i = j by omega]
    exact Nat.le_refl _
  | succ N ih =>
    intro i j ij jN hN
    by_cases z : j ≤ N
    · exact ih i j ij z (by omega)
    · by_cases z2 : i = j
      · rw [z2]
        exact Nat.le_refl _
      · have ej : j = N + 1 := by omega
        subst ej
        have hq : m[N]? = some m[N] := List.getElem?_eq_getElem (by omega)
        have s1 := ih i N (by omega) (Nat.le_refl _) (by omega)
        refine Nat.le_trans s1 ?_
        rw [lens_at hm hq]
        cases N with
        | zero => rw [lens_0]; exact Nat.zero_le _
        | succ N =>
          have hp : m[N]? = some m[N] := List.getElem?_eq_getElem (by omega)
          rw [lens_at hm hp]
          have := made_le h hp hq (by omega)
          have b := hm _ _ hq
          exact Nat.succ_le_succ (ih _ _ this (by omega) (by omega))
theorem lens_all {rows : List (List Nat)} (h : madeTab 0 rows [] = some m) : ∀ (N k l : Nat), k ≤ N → k < m.length + 1 → l ≤ (lens m).getD k 0 → ∃ j, j < m.length + 1 ∧ (lens m).getD j 0 = l := by
  have hm : ∀ (k : Nat) p, m[k]? = some p → p.1 < k + 1 := fun k p hp => (madeTab_lt h hp).1
  intro N
  induction N with
  | zero =>
    intro k l hk hk2 hl
    have : k = 0 := by omega
    subst this
    rw [lens_0] at hl
    exact ⟨0, hk2, by rw [lens_0]; omega⟩
  | succ N ih =>
    intro k l hk hk2 hl
    by_cases e : l = (lens m).getD k 0
    · exact ⟨k, hk2, e.symm⟩
    · cases k with
      | zero => exact ih 0 l (Nat.zero_le _) hk2 hl
      | succ k =>
        have hp : m[k]? = some m[k] := List.getElem?_eq_getElem (by omega)
        have b := hm _ _ hp
        rw [lens_at hm hp] at hl e
        exact ih m[k].1 l (by omega) (by omega) (by omega)
/-- the greatest length -/
def top (m : List (Nat × Nat)) : Nat := (lens m).getD m.length 0
theorem lens_le {rows : List (List Nat)} (h : madeTab 0 rows [] = some m) : ∀ x ∈ lens m, x < top m + 1 := fun x hx => by
  obtain ⟨i, hi⟩ := List.getElem?_of_mem hx
  have il := (List.getElem?_eq_some_iff.mp hi).1
  rw [lens_len] at il
  have := lens_mono h m.length i m.length (by omega) (Nat.le_refl _) (by omega)
  rw [getD_of hi] at this
  exact Nat.lt_succ_of_le this
theorem top_short {m : List (Nat × Nat)} (hs : ∀ w ∈ wordTab m, w.length ≤ m.length) : top m ≤ m.length := by
  have e : (lens m)[m.length]? = some ((lens m)[m.length]'(by rw [lens_len]; omega)) := List.getElem?_eq_getElem _
  rw [top, getD_of e]
  have hm := List.mem_of_getElem? e
  generalize (lens m)[m.length]'(by rw [lens_len]; omega) = z at hm
  unfold lens at hm
  obtain ⟨w, hw, rfl⟩ := List.mem_map.mp hm
  exact hs w hw
/-- how many words have each length -/
def grow (m : List (Nat × Nat)) : List Nat := cvec (top m + 1) (lens m)
theorem grow_bump {rows : List (List Nat)} (h : madeTab 0 rows [] = some m) : rowBump (List.replicate (top m + 1) 0) (lens m) 1 = grow m := by
  refine ext_getD (by rw [rowBump_len, List.length_replicate, grow, cvec_len]) fun k hk => ?_
  rw [rowBump_len, List.length_replicate] at hk
  rw [rowBump_at (fun t ht => by rw [List.length_replicate]; exact lens_le h t ht), grow, getD_of (cvec_get hk)]
  simp [List.getD, hk]
theorem grow_pos {rows : List (List Nat)} (h : madeTab 0 rows [] = some m) : 0 ∉ grow m := fun hz => by
  unfold grow cvec at hz
  obtain ⟨l, hl, e⟩ := List.mem_map.mp hz
  obtain ⟨j, hj, e2⟩ := lens_all h m.length m.length l (Nat.le_refl _) (by omega) (by have := List.mem_range.mp hl; unfold top at this; omega)
  have hj' : (lens m)[j]? = some l := by
    have : j < (lens m).length := by rw [lens_len]; exact hj
    rw [List.getElem?_eq_getElem this, ← e2, getD_at this]
  have := List.count_pos_iff.mpr (List.mem_of_getElem? hj')
  omega
theorem grow_le : ∀ x ∈ grow m, x ≤ m.length + 1 := fun x hx => by
  unfold grow cvec at hx
  obtain ⟨l, _, rfl⟩ := List.mem_map.mp hx
  rw [← lens_len]
  exact List.count_le_length
theorem grow_len : (grow m).length = top m + 1 := cvec_len
end
end Mon

set_option Elab.async false
set_option linter.all false
/-! Words letter by letter, the table walked: pure. -/
namespace Mon
section
variable {m : List (Nat × Nat)}
theorem word_take (hm : ∀ (k : Nat) p, m[k]? = some p → p.1 < k + 1) : ∀ (k : Nat), k ≤ m.length → wordTab (m.take k) = (wordTab m).take (k + 1) := by
  suffices g : ∀ (d k : Nat), k + d = m.length → wordTab (m.take k) = (wordTab m).take (k + 1) from fun k hk => g (m.length - k) k (by omega)
  intro d
  induction d with
  | zero =>
    intro k e
    rw [List.take_of_length_le (by omega), List.take_of_length_le (by rw [word_len]; omega)]
  | succ d ih =>
    intro k e
    have hk : k < m.length := by omega
    have hp : m[k]? = some m[k] := List.getElem?_eq_getElem hk
    have q := ih (k + 1) (by omega)
    have lk : (m.take k).length = k := by rw [List.length_take]; omega
    rw [take_app_len hp, word_snoc, wordStep] at q
    have l1 : (wordTab (m.take k)).length = k + 1 := by rw [word_len, lk]
    have q2 := congrArg (List.take (k + 1)) q
    rw [List.take_left' l1, List.take_take, Nat.min_eq_left (by omega)] at q2
    exact q2
/-- the word of a number, by that of the number before it -/
theorem word_at (hm : ∀ (k : Nat) p, m[k]? = some p → p.1 < k + 1) {k : Nat} {p : Nat × Nat} (hp : m[k]? = some p) : (wordTab m).getD (k + 1) [] = (wordTab m).getD p.1 [] ++ [p.2] := by
  have hk := (List.getElem?_eq_some_iff.mp hp).1
  have lk : (m.take k).length = k := by rw [List.length_take]; omega
  have pk := hm k p hp
  have q := word_take hm (k + 1) hk
  rw [take_app_len hp, word_snoc, wordStep] at q
  have l1 : (wordTab (m.take k)).length = k + 1 := by rw [word_len, lk]
  have a : ((wordTab m).take (k + 2))[k + 1]? = some ((wordTab (m.take k)).getD p.1 [] ++ [p.2]) := by
    rw [← q, List.getElem?_append_right (by omega), l1, Nat.sub_self]
    rfl
  rw [List.getElem?_take_of_lt (by omega)] at a
  rw [getD_of a, word_take hm k (by omega)]
  have b : ((wordTab m).take (k + 1))[p.1]? = (wordTab m)[p.1]? := List.getElem?_take_of_lt pk
  rw [List.getD, List.getD, b]
theorem word_0 : (wordTab m).getD 0 [] = [] := by
  have e : (wordTab m)[0]? = some [] := by
    unfold wordTab
    suffices g : ∀ (m : List (Nat × Nat)) (L : List (List Nat)), L[0]? = some [] → ((m.foldl wordStep L))[0]? = some [] from g m [[]] rfl
    intro m
    induction m with
    | nil => intro L h; exact h
    | cons p r ih =>
      intro L h
      rw [List.foldl_cons]
      refine ih _ ?_
      unfold wordStep
      exact get_app _ h
  rw [getD_of e]
end
/-- where letters lead -/
def walk (rows : List (List Nat)) (s : Nat) (w : List Nat) : Nat := w.foldl (fun i c => (rows.getD i []).getD c 0) s
def compW (gens : List (List Nat)) (x : List Nat) (w : List Nat) : List Nat := w.foldl (fun x c => comp x (gens.getD c [])) x
theorem walk_app {rows : List (List Nat)} {s : Nat} {u v : List Nat} : walk rows s (u ++ v) = walk rows (walk rows s u) v := by
  unfold walk
  rw [List.foldl_append]
/-- the table acts as the maps do -/
theorem Tab.walk {n : Nat} {gens found rows : List (List Nat)} (T : Tab n gens found rows) : ∀ {w : List Nat} {s : Nat} {x : List Nat}, found[s]? = some x → (∀ c ∈ w, c < gens.length) → found[Mon.walk rows s w]? = some (compW gens x w)
  | [], s, x, h, _ => h
  | c :: w, s, x, h, hw => by
    have hg : gens[c]? = some (gens[c]'(hw c List.mem_cons_self)) := List.getElem?_eq_getElem _
    have e := T.get h hg
    have r := T.walk (w := w) e fun d hd => hw d (List.mem_cons_of_mem _ hd)
    show found[Mon.walk rows ((rows.getD s []).getD c 0) w]? = some (compW gens (comp x (gens.getD c [])) w)
    rw [getD_of hg]
    exact r
end Mon

set_option Elab.async false
set_option linter.all false
set_option maxRecDepth 100000
set_option maxHeartbeats 4000000
/-! Facts of error classes. -/
namespace Lf
open PySem PySem.Spec PyProof.Rows L2
/-- what isinstance of an error of the class at C wants -/
structure IsC (K : PySem.W.Frag) (C : Addr) : Prop where
  cl : (PySem.W.clsIn K C).isSome = true
  ga : PySem.W.findIn K (.ref C) "__getattribute__" = some (some (.builtin "BaseException.__getattribute__"))
  gg : PySem.W.findIn K (.ref C) "__getattr__" = some none
  sb : PySem.W.subIn K (.ref C) (.type "BaseException") = some true
  ca : PySem.W.findIn K (.ref C) "__class__" = some (some (.builtin "object.__class__"))
  sg : PySem.W.specialIn K (.builtin "object.__class__") "__get__" = some (some (.builtin "getset_descriptor.__get__"))
  tk : PySem.W.takesIn K (.builtin "object.__class__") = some true
  ob : PySem.W.mroIn K C (.type "object") = some true
/-! ### the classes by one look at the written part -/
/-- an exception class over ValueError -/
def oexB (K : PySem.W.Frag) (C : Addr) : Bool := match K.lookup C with
  | some ⟨.type t, _, .cls cd, sl⟩ => (match cd.mro, sl.toList with
    | .ref D :: bm, [_, _, _, _, some (.builtin n), _] => decide (t = "type") && (decide (D = C) && (decide (n = "ValueError.__new__") && (!cd.hasDel && (cd.hasDict && PySem.HandSPX.refsVE bm))))
    | _, _ => false)
  | _ => false
theorem oexB_ok {K : PySem.W.Frag} {C : Addr} (h : oexB K C = true) : ∃ nm q N bs bm sn sub ab col dd k0 k1 k2 k3 k5,
    K.lookup C = some (excClassObj nm q C N bs bm true sn sub ab col dd k0 k1 k2 k3 k5 "ValueError.__new__") ∧ PySem.HandSPX.refsVE bm = true := by
  unfold oexB at h
  split at h
  · rename_i t dd cd sl lk
    split at h
    · rename_i D bm k0 k1 k2 k3 n k5 hm hs
      simp only [Bool.and_eq_true, decide_eq_true_eq, Bool.not_eq_true'] at h
      obtain ⟨rfl, rfl, rfl, h4, h5, h6⟩ := h
      obtain ⟨nm, bs, mro, ns, qn, hd, sn, sub, ab, col, del⟩ := cd
      dsimp only at hm h4 h5
      subst hm h4 h5
      obtain ⟨l⟩ := sl
      dsimp only at hs
      subst hs
      exact ⟨nm, qn, ns, bs, bm, sn, sub, ab, col, dd, k0, k1, k2, k3, k5, lk, h6⟩
    · cases h
  · cases h
def errB (K : PySem.W.Frag) (C : Addr) : Bool :=
  oexB K C && (decide (PySem.W.findIn K (.ref C) "__setattr__" = some (some (.builtin "object.__setattr__"))) && (decide (PySem.W.subIn K (.ref C) (.type "BaseException") = some true) &&
  (decide (PySem.W.typeIn K (.ref C) = some (.type "type")) && (PySem.W.keepIn K (.ref C) && (PySem.W.hasDictIn K C &&
  (decide (PySem.W.findIn K (.ref C) "__getattribute__" = some (some (.builtin "BaseException.__getattribute__"))) && (decide (PySem.W.findIn K (.ref C) "__getattr__" = some none) &&
  (decide (PySem.W.findIn K (.ref C) "__class__" = some (some (.builtin "object.__class__"))) && (decide (PySem.W.specialIn K (.builtin "object.__class__") "__get__" = some (some (.builtin "getset_descriptor.__get__"))) &&
  (decide (PySem.W.takesIn K (.builtin "object.__class__") = some true) && decide (PySem.W.mroIn K C (.type "object") = some true)))))))))))
structure ErrC (K : PySem.W.Frag) (C : Addr) : Prop where
  o : OexC K C
  x : XfC K C
  i : IsC K C
theorem errB_ok {K : PySem.W.Frag} {C : Addr} (h : errB K C = true) : ErrC K C := by
  unfold errB at h
  simp only [Bool.and_eq_true, decide_eq_true_eq] at h
  obtain ⟨h1, h2, h3, h4, h5, h6, h7, h8, h9, h10, h11, h12⟩ := h
  have hc : (PySem.W.clsIn K C).isSome = true := by
    obtain ⟨nm, q, N, bs, bm, sn, sub, ab, col, dd, k0, k1, k2, k3, k5, lk, _⟩ := oexB_ok h1
    unfold PySem.W.clsIn
    rw [lk] <;> rfl
  exact ⟨⟨oexB_ok h1, h2, h3, h4, h5⟩, ⟨h7, h8, h3, h6⟩, ⟨hc, h7, h8, h3, h9, h10, h11, h12⟩⟩
end Lf

set_option Elab.async false
set_option linter.all false
set_option maxRecDepth 100000
set_option maxHeartbeats 4000000
/-! Errors of the program's own as values: made, read, asked, told. -/
namespace Lf
open PySem PySem.Spec PyProof.Rows L2

/-! ### made -/
/-- C(e, ..) as a value, C's own __init__ keeping sp -/
def tNew (C : Addr) (sp : Sp) (ta : TA) : TE := fun σ H Q => ta σ H fun vs H1 =>
  vs.length ≤ 1000 ∧ ∀ a, H1 a = none → sp (.ref a :: vs) (upd H1 a (exo a C none)) (fun v H2 => v = .non ∧ Q (.ref a) H2) E0
section
variable {X : Cx} {CX : CXT} {x : Str} {C fI : Addr} {k : Nat} {fd : FuncData} {ps : List Str} {sp : Sp} {e : Expr} {es : List Expr} {ta : TA} {p pos : Pos}
theorem pe_new (T : OexC X.K C) (iC : PySem.W.findIn X.K (.ref C) "__init__" = some (some (.ref fI)))
    (tI : PySem.W.typeIn X.K (.ref fI) = some (.type "function"))
    (F1 : FnOk X.prog X.w X.K X.mg X.base CX k fI fd ps sp) (hr : Room (k + 1) X.A) (hb : Binds X.K fd ps [])
    (hx : Passes CX X E0) (hg : Gl X x) (hm : X.mg x = some (.ref C)) (ha : PA X (e :: es) ta)
    (hdb : (x == ("__debug__" : Str)) = false := by decide +kernel)
    (he : starEach (e :: es) X.env = (false, eval e X.env) :: starEach es X.env := by rfl)
    (hpl : (backTo pos (starEach es X.env)).any (·.1) = false := by rfl) :
    PE X (.Call (.Name x p) (e :: es) [] pos) (tNew C sp ta) := by
  refine ⟨fun pins s σ H Q I h => ?_⟩
  obtain ⟨nm, q, N, bs, bm, sn, sub, ab, col, dd, k0, k1, k2, k3, k5, hC, hbm⟩ := T.cls
  refine wpAny_Call_Name_kw (ld_glob I hg hm ?_ hdb)
  refine PySem.W.callWith_K (h₀ := X.base) I.ok.mod.kin T.kC
    (thn (ha.run pos pins s σ H _ I h) fun us s1 hh => ?_) he hpl
  obtain ⟨vs, H1, I1, r1, hz, q1⟩ := hh
  refine ⟨I1.kIn, ?_⟩
  show wpAny _ _ (call (.ref C) us) _ _ _
  obtain ⟨hp, g, dr, tk, os⟩ := s1
  let a := hp.objs.size + 1
  have hsz : hp.objs.size ≤ a := Nat.le_succ _
  have hq := q1 a (I1.hok.fresh hsz)
  let hp' := (hp.push (PySem.W.kdv_tup us)).push (PySem.HandSPX.excO C hp.objs.size)
  have kk : ∀ b o, hp.get? b = some o → hp'.get? b = some o := fun b o z =>
    Heap.get?_push_of_some _ (Heap.get?_push_of_some _ z)
  have hget : ((hp.push (PySem.W.kdv_tup us)).push (PySem.HandSPX.excO C hp.objs.size)).get? (hp.objs.size + 1) =
    some (PySem.HandSPX.excO C hp.objs.size) := by heap_get
  have I2 : Inv X pins σ (upd H1 a (exo a C none)) ⟨hp', g, dr, tk, os⟩ :=
    I1.laid (t' := tk) (a := a) (o := exo a C none) (h' := hp') kk hsz (exo_ok (show hp'.get? a = _ from hget))
  have r2 : Vals (V.ref a :: vs) (Value.ref a :: us) := .cons rfl r1
  have hl : (Value.ref a :: us).length = ps.length := by
    have z := r2.length
    rw [F1.len _ _ _ _ hq] at z
    exact z.symm
  have hus : us.length ≤ sizeLine := by
    rw [← Paired.length r1, sizeLine_eq]
    omega
  have hb2 := hb ⟨hp', g, dr, tk, os⟩ (Value.ref a :: us) I2.kIn (by simpa using hl)
  rw [List.append_nil] at hb2
  refine wpAny_call (PySem.HandSPX.call_own F.excBase_ValueError (fun Y => PySem.HandSPX.refsVE_contains Y bm hbm) (I1.kIn _ _ hC)
    (PySem.W.looks_findIn I1.kIn iC) (fun self => PySem.W.bind_fn I1.kIn self tI) hus
    (codeAny_mono (F1.run _ X.stack _ _ ⟨Value.ref a :: us, []⟩ (Value.ref a :: us) _ _ E0 (hr.make C us []) (I2.env0.make C us []) hb2 r2 hq) fun r s' hq' => ?_))
  cases r with
  | error er => exact hx pins σ _ _ er s' I2 hq'
  | ok fl =>
    cases fl with
    | ret u =>
      obtain ⟨v, H2, os2, bare2, un2, hok2, rv, ev, q2⟩ := hq'
      subst ev
      exact ⟨rv, .ref a, H2, I2.call' (ch := []) os2 un2 hok2 bare2 (fun b z => nomatch z), rfl, q2⟩
    | next => exact False.elim hq'
    | brk => exact False.elim hq'
    | cont => exact False.elim hq'
end

/-! ### an error that stands -/
/-- at a an error of the class at C: its dict d, if it has one -/
def XAt (H : Hp) (a C : Addr) (d : Option Addr) : Prop := H a = some (exo a C d) ∨ (d = none ∧ H a = some (ExO (.ref C) a))
theorem XAt.obj {X : Cx} {pins : List (Addr × Obj)} {σ : L2.St} {H : Hp} {s : Shared} {a C : Addr} {d : Option Addr} (I : Inv X pins σ H s) (h : XAt H a C d) :
    ∃ oe vs, s.heap.get? a = some oe ∧ Zc (.ref C) d oe ∧ oe.data = .fields vs := by
  rcases h with h | ⟨rfl, h⟩
  · obtain ⟨t1, ho⟩ := exo_at I.hok h
    exact ⟨_, _, ho, ⟨rfl, rfl⟩, rfl⟩
  · obtain ⟨⟨oe, vs, ho, hz, hd, _⟩, _, _⟩ := I.hok a _ h
    exact ⟨oe, vs, ho, hz, hd⟩
theorem XAt.mono {H H' : Hp} {a C : Addr} {d : Option Addr} (h : XAt H a C d) (e : Same H H') : XAt H' a C d := by
  rcases h with h | ⟨z, h⟩
  · exact .inl (e _ _ h)
  · exact .inr ⟨z, e _ _ h⟩

/-! ### a field -/
def tXo (K : PySem.W.Frag) (f : Str) (te : TE) : TE := fun σ H Q => te σ H fun x H1 => ∃ (a C d : Addr) (fs : List (Str × V)) (v : V),
  x = .ref a ∧ XfC K C ∧ PySem.W.findIn K (.ref C) f = some none ∧ XAt H1 a C (some d) ∧ H1 d = some (exd d fs) ∧ fs.lookup f = some v ∧ Q v H1
theorem pe_xo {X : Cx} {e : Expr} {te : TE} {pos : Pos} {n : Str} (he : PE X e te)
    (hb : attributeBase e n X.env (eval e X.env) = eval e X.env := by rfl) : PE X (.Attribute e n pos) (tXo X.K n te) := by
  refine ⟨fun pins s σ H Q I h => ?_⟩
  refine attr_of hb (thn (he.run pins s σ H _ I h) fun u s1 hh => ?_)
  obtain ⟨x, H1, I1, rx, a, C, d, fs, v, ex, T, hno, ea, ed, l, q⟩ := hh
  subst ex
  obtain rfl : u = Value.ref a := rx
  obtain ⟨oe, vs, ho, hz, hd⟩ := ea.obj I1
  obtain ⟨mA, hns, hr⟩ := exd_at I1.hok ed
  obtain ⟨od, ho2, hl⟩ := lookIn_ns hns
  obtain ⟨u, hu, ru⟩ := RelO.some_of (v := v) (o := mA n) (by rw [← l]; exact hr n)
  have J : PySem.W.InstAt s1.heap a oe C (some od) := ⟨ho, hz.1, by unfold PySem.W.notCls; rw [hd] <;> rfl, by rw [hz.2]; exact ho2⟩
  exact HandSPX.exc_get I1.kIn J T.ga T.gg T.exC (PySem.W.findObj_own T.hdC hno rfl (by rw [hl, hu])) (handed_of ru)
    ⟨v, H1, I1.tok _, ru, q⟩

/-! ### isinstance -/
/-- its dict, if it has one, is an error's -/
def XDict (H : Hp) (d : Option Addr) : Prop := ∀ dx, d = some dx → ∃ fs, H dx = some (exd dx fs)
theorem XAt.inst {X : Cx} {pins : List (Addr × Obj)} {σ : L2.St} {H : Hp} {s : Shared} {a C : Addr} {d : Option Addr} (I : Inv X pins σ H s) (h : XAt H a C d) (hd : XDict H d) :
    ∃ ox od, PySem.W.InstAt s.heap a ox C od := by
  obtain ⟨oe, vs, ho, hz, hv⟩ := h.obj I
  have nc : PySem.W.notCls oe = true := by unfold PySem.W.notCls; rw [hv] <;> rfl
  cases d with
  | none => exact ⟨oe, none, ho, hz.1, nc, by rw [hz.2]; trivial⟩
  | some dx =>
    obtain ⟨fs, e⟩ := hd dx rfl
    obtain ⟨mA, hns, _⟩ := exd_at I.hok e
    obtain ⟨od, ho2, _⟩ := lookIn_ns hns
    exact ⟨oe, some od, ho, hz.1, nc, by rw [hz.2]; exact ho2⟩
def rIsX (K : PySem.W.Frag) : List V → Hp → VK → Prop := fun xs H Q => ∃ (a C : Addr) (d : Option Addr) (c : V) (cv : Value) (b : Bool),
  xs = [.ref a, c] ∧ ClsV c cv ∧ IsC K C ∧ XAt H a C d ∧ XDict H d ∧ PySem.W.kitOne K (.ref C) cv = some b ∧ Q (.bl b) H
theorem call_isX {X : Cx} : CallR X (.builtin "isinstance") (rIsX X.K) := by
  intro pins s σ H xs us Q I r h
  obtain ⟨a, C, d, c, cv, b, rfl, k, T, ha, hd, e, q⟩ := h
  obtain ⟨u1, u2, rfl, r1, r2⟩ := vals2 r
  obtain rfl := k.eq r2
  obtain rfl : u1 = Value.ref a := r1
  obtain ⟨ox, od, J⟩ := ha.inst I hd
  exact PySem.W.kia_one (PySem.W.kitx_exc (od := od) T.cl T.ga T.gg T.sb T.ca T.sg T.tk T.ob) I.kIn J e (fun z => nomatch z)
    fun tk => ⟨.bl b, H, I.tok tk, rfl, q⟩
def rIsXT (K : PySem.W.Frag) : List V → Hp → VK → Prop := fun xs H Q => ∃ (a C : Addr) (d : Option Addr) (tp : Addr) (cs : List V) (us : List Value) (b : Bool),
  xs = [.ref a, .ref tp] ∧ H tp = some (.tup cs) ∧ Paired ClsV cs us ∧ IsC K C ∧ XAt H a C d ∧ XDict H d ∧ PySem.W.kitAny K (.ref C) us = some b ∧ Q (.bl b) H
theorem call_isXT {X : Cx} : CallR X (.builtin "isinstance") (rIsXT X.K) := by
  intro pins s σ H xs us Q I r h
  obtain ⟨a, C, d, tp, cs, ws, b, rfl, htp, k, T, ha, hd, e, q⟩ := h
  obtain ⟨u1, u2, rfl, r1, r2⟩ := vals2 r
  obtain rfl : u1 = Value.ref a := r1
  obtain rfl : u2 = Value.ref tp := r2
  obtain ⟨ox, od, J⟩ := ha.inst I hd
  obtain ⟨_, its, rv, ⟨oc, dd, dt, sl⟩, h1, h2, n, h3⟩ := (show ObjOk X.prog X.w H s.heap tp (.tup cs) from I.hok tp _ htp)
  obtain rfl := ClsV.all k rv
  dsimp only at h2 h3
  subst h2 h3
  exact PySem.W.kia_tup (PySem.W.kitx_exc (od := od) T.cl T.ga T.gg T.sb T.ca T.sg T.tk T.ob) I.kIn J h1 e (fun z => nomatch z)
    fun tk => ⟨.bl b, H, I.tok tk, rfl, q⟩

/-! ### told() -/
/-- e.m() of an error e, by what stands of its class -/
def tTold (X : Cx) (m : Str) (te : TE) : TE := fun σ H Q => te σ H fun x H1 => ∃ (a C f : Addr) (d : Option Addr) (fd : FuncData) (sp : Sp),
  x = .ref a ∧ IsC X.K C ∧ Meth X.K C m f ∧ XAt H1 a C d ∧ (∀ dx, d = some dx → ∃ fs, H1 dx = some (exd dx fs) ∧ fs.lookup m = none) ∧
    FnOk X.prog X.w X.K X.mg X.base CX0 1 f fd ["self"] sp ∧ Binds X.K fd ["self"] [] ∧ sp [.ref a] H1 Q E0
theorem pe_told {X : Cx} {o : Expr} {m : Str} {te : TE} {pos apos : Pos} {pl : Sem Bool} (he : PE X o te) (hr : Room 1 X.A)
    (ht : eval (.Call (.Attribute o m apos) [] [] pos) X.env = (do
      let ov ← eval o X.env
      standAt apos.atName
      let (f, first) ← holding [ov] (getMethod ov m pl)
      callWith pos f first (backTo pos (starEach [] X.env)) (backToKw pos (keywordEach [] X.env))) := by rfl) :
    PE X (.Call (.Attribute o m apos) [] [] pos) (tTold X m te) := by
  refine ⟨fun pins s σ H Q I h => ?_⟩
  refine PySem.W.methodCall_KW (pl := pl) (thn (he.run pins s σ H _ I h) fun u s1 hh => ?_) ht
  obtain ⟨x, H1, I1, rx, a, C, f, d, fd, sp, rfl, T, M, ha, hd, FO, hb, q⟩ := hh
  obtain rfl : u = Value.ref a := rx
  obtain ⟨mm, fr⟩ := I1.fr
  obtain ⟨oe, vs, ho, hz, hv⟩ := ha.obj I1
  have nc : PySem.W.notCls oe = true := by unfold PySem.W.notCls; rw [hv] <;> rfl
  have go : wpAny (model X.prog X.w) X.A (callWith pos (Value.ref f) [Value.ref a] (backTo pos (starEach [] X.env)) []) (EP X pins σ Q) X.xe s1 :=
    PySem.W.callWith_K0 (first := [.ref a]) I1.kIn M.kp (run_fn (us := [.ref a]) (vs := [.ref a]) FO hr hb .nil pass0 I1 (.cons rfl .nil) q)
  cases d with
  | none =>
    have J : PySem.W.InstAt s1.heap a oe C none := ⟨ho, hz.1, nc, by rw [hz.2]; trivial⟩
    exact PySem.W.method_exc fr I1.ok.mod.kin J T.ga T.gg M.at_ M.fn rfl go
  | some dx =>
    obtain ⟨fs, e, hl⟩ := hd dx rfl
    obtain ⟨mA, hns, rel⟩ := exd_at I1.hok e
    obtain ⟨od, ho2, hk⟩ := lookIn_ns hns
    have J : PySem.W.InstAt s1.heap a oe C (some od) := ⟨ho, hz.1, nc, by rw [hz.2]; exact ho2⟩
    have hm : mA m = none := by
      have z := rel m
      rw [hl] at z
      cases y : mA m with
      | none => rfl
      | some v => rw [y] at z; exact z.elim
    exact PySem.W.method_exc fr I1.ok.mod.kin J T.ga T.gg M.at_ M.fn (by show (PySem.W.lookIn m od).map _ = _; rw [hk, hm]; rfl) go

/-! ### made without own __init__, of nothing -/
theorem pe_bare {X : Cx} {C : Addr} {bmB : List Value} {B newId initId : String} {x : Str} {p pos : Pos} (F : ExcBaseFacts B newId initId bmB)
    (q : PySem.W.excIn X.K C bmB newId = true) (gC : X.mg x = some (.ref C)) (kC : PySem.W.keepIn X.K (.ref C) = true) (hg : Gl X x)
    (hdb : (x == ("__debug__" : Str)) = false := by decide +kernel) :
    PE X (.Call (.Name x p) [] [] pos) (fun _ H Q => ∀ a, H a = none → Q (.ref a) (upd H a (ExO (.ref C) a))) := by
  refine ⟨fun pins s σ H Q I h => ?_⟩
  refine wpAny_Call_Name_kw (ld_glob I hg gC ?_ hdb)
  refine PySem.W.callWith_K0 I.kIn kC ?_
  show wpAny _ _ (call (.ref C) []) _ _ _
  obtain ⟨bm, N, nm, qn, bs, hdct, sn, sub, ab, col, dd, k0, k1, k2, k3, k5, mN, hC, hN, hni, T⟩ := exc_obj I.kIn q
  refine wpAny_call_exc_subT F T hC hN hni (fun h' a hm => ?_) (Nat.zero_le _)
  have hn : H a = none := I.hok.gone hm.new
  obtain ⟨t, ht, _, _⟩ := hm.there
  exact ⟨.ref a, _, I.laidN hm.keeps hm.new hn (exO_ok ht ⟨rfl, rfl⟩ rfl rfl rfl (show 4 < 6 by decide)), rfl, h a hn⟩

/-! ### by a weaker reading -/
theorem PE.imp {X : Cx} {e : Expr} {t t' : TE} (h : PE X e t) (f : ∀ σ H Q, t' σ H Q → t σ H Q) : PE X e t' := ⟨fun pins s σ H Q I q => h.run pins s σ H Q I (f σ H Q q)⟩
theorem PSs.imp {X : Cx} {e : List Stmt} {t t' : TS} (h : PSs X e t) (f : ∀ D σ H, t' D σ H → t D σ H) : PSs X e t' := ⟨fun pins s σ H D I q => h.run pins s σ H D I (f D σ H q)⟩
/-- a reading that may be weakened -/
def up (t : TE) : TE := fun σ H Q => ∃ Q0, t σ H Q0 ∧ ∀ v H', Q0 v H' → Q v H'
theorem PE.up {X : Cx} {e : Expr} {t : TE} (h : PE X e t) : PE X e (Lf.up t) := ⟨fun pins s σ H Q I q => by
  obtain ⟨Q0, q, k⟩ := q
  exact thn (h.run pins s σ H Q0 I q) fun u s1 r => by
    obtain ⟨v, H', I', rv, z⟩ := r
    exact ⟨v, H', I', rv, k v H' z⟩⟩
/-- a class (or another thing) of the module by its name -/
theorem pe_cl {X : Cx} {x : Str} {a : Addr} {pos : Pos} (hg : Gl X x) (hm : X.mg x = some (.ref a)) (hd : (x == ("__debug__" : Str)) = false := by decide +kernel) : PE X (.Name x pos) (tC (.ref a)) := pe_glob hg hm rfl hd
/-- an int of the module by its name -/
theorem pe_gint {X : Cx} {x : Str} {i : Int} {t : Tok} {pos : Pos} (hg : Gl X x) (hm : X.mg x = some (.int i t)) (hd : (x == ("__debug__" : Str)) = false := by decide +kernel) : PE X (.Name x pos) (tC (.int i)) := pe_glob hg hm ⟨t, rfl⟩ hd
theorem same_upd {H : Hp} {p : Addr} {o : HO} (n : H p = none) : Same H (upd H p o) := fun b u e => by rw [upd_ne (ne_of_none e n)]; exact e

/-! ### a def of the module, called by its name -/
structure Def (P : Program) (w : World) (K : PySem.W.Frag) (mg : Str → Option Value) (base : Heap) (CX : CXT) (k : Nat) (x : Str) (ps : List Str) (sp : Sp) : Prop where
  ex : ∃ f fd, mg x = some (.ref f) ∧ PySem.W.keepIn K (.ref f) = true ∧ FnOk P w K mg base CX k f fd ps sp ∧ Binds K fd ps []
section
variable {X : Cx} {CX : CXT} {k : Nat} {x : Str} {ps : List Str} {sp : Sp} {E : XK} {e : Expr} {es : List Expr} {t : TA} {p pos : Pos}
theorem pe_def (D : Def X.prog X.w X.K X.mg X.base CX k x ps sp) (hr : Room k X.A) (hx : Passes CX X E) (hg : Gl X x) (ha : PA X (e :: es) t)
    (hdb : (x == ("__debug__" : Str)) = false := by decide +kernel) (he : starEach (e :: es) X.env = (false, eval e X.env) :: starEach es X.env := by rfl)
    (hpl : (backTo pos (starEach es X.env)).any (·.1) = false := by rfl) : PE X (.Call (.Name x p) (e :: es) [] pos) (fun σ H Q => t σ H fun vs H1 => sp vs H1 Q E) := by
  obtain ⟨f, fd, g, kp, F, b⟩ := D.ex
  exact PE.imp (pe_call F hr hg g kp b .nil hx ha hdb he hpl) fun σ H Q h => by
    show t σ H fun vs H1 => sp (vs ++ []) H1 Q E
    simpa only [List.append_nil] using h
theorem pe_def0 (D : Def X.prog X.w X.K X.mg X.base CX k x ps sp) (hr : Room k X.A) (hx : Passes CX X E) (hg : Gl X x)
    (hdb : (x == ("__debug__" : Str)) = false := by decide +kernel) : PE X (.Call (.Name x p) [] [] pos) (fun _ H Q => sp [] H Q E) := by
  obtain ⟨f, fd, g, kp, F, b⟩ := D.ex
  exact pe_call0 F hr hg g kp b .nil hx hdb
end

/-! ### told, __init__ -/
def spTold (t : Str) : Sp := fun vs H Q _ => ∃ v, vs = [v] ∧ Q (.str t) H
def spIni1 (C : Addr) (f : Str) : Sp := fun vs H Q _ => ∃ a v, vs = [.ref a, v] ∧ H a = some (exo a C none) ∧
  ∀ d, H d = none → d ≠ a → Q .non (upd (upd H d (exd d [(f, v)])) a (exo a C (some d)))
def spIni2 (C : Addr) (f g : Str) : Sp := fun vs H Q _ => ∃ a v u, vs = [.ref a, v, u] ∧ H a = some (exo a C none) ∧
  ∀ d, H d = none → d ≠ a → Q .non (upd (upd (upd H d (exd d [(f, v)])) a (exo a C (some d))) d (exd d [(g, u), (f, v)]))
section
variable {P : Program} {w : World} {K : PySem.W.Frag} {mg : Str → Option Value} {base : Heap} {C f : Addr} {fd : FuncData} {q : Str} {a : Arguments} {sc : Scope}
theorem vis_of {N ps : List Str} (S : FnScope N ps sc) {x : Str} (h : x ∈ ps) : Vis sc x := by
  rcases S.par x h with e | e
  · exact .inl e
  · exact .inr (.inl e)
theorem told_ok {t : Str} {j : Nat} {p p2 : Pos} (F : FunD K "told" q a [.Return (some (.Constant (.str t) j p)) p2] sc [] [] f fd) (S : FnScope ["self"] ["self"] sc) :
    FnOk P w K mg base CX0 1 f fd ["self"] (spTold t) := by
  refine F.ok S (fun vs H Q E h => ?_) (fun cdv A outer s H vs Q E hr h => ⟨_, PSs.nox (pss_one (ps_ret pe_str)), ?_⟩)
  · obtain ⟨v, rfl, _⟩ := h
    rfl
  · obtain ⟨v, rfl, k⟩ := h
    exact k
theorem ini1_ok {fl : Str} {p1 p2 p3 p4 : Pos} (T : OexC K C) (no : PySem.W.findIn K (.ref C) fl = some none)
    (F : FunD K "__init__" q a [.Assign [.Attribute (.Name "self" p1) fl p2] (.Name fl p3) p4] sc [] [] f fd) (S : FnScope ["self", fl] ["self", fl] sc)
    (d1 : (fl == ("__debug__" : Str)) = false := by decide +kernel) (d2 : (fl == ("__classdict__" : Str)) = false := by decide +kernel) :
    FnOk P w K mg base CX0 1 f fd ["self", fl] (spIni1 C fl) := by
  refine F.ok S (fun vs H Q E h => ?_) (fun cdv A outer s H vs Q E hr h => ⟨_, PSs.nox (pss_one (ps_ost (pe_var (i := 0) rfl (vis_of S (by simp))) (pe_var (i := 1) rfl (vis_of S (by simp)) d1 d2))), ?_⟩)
  · obtain ⟨a, v, rfl, _⟩ := h
    rfl
  · obtain ⟨a, v, rfl, e, k⟩ := h
    exact ⟨_, rfl, _, rfl, a, C, rfl, T, no, .inl ⟨e, fun dx n ne => k dx n ne⟩⟩
theorem ini2_ok {fl gl : Str} {p1 p2 p3 p4 q1 q2 q3 q4 : Pos} (T : OexC K C) (no : PySem.W.findIn K (.ref C) fl = some none) (no2 : PySem.W.findIn K (.ref C) gl = some none)
    (F : FunD K "__init__" q a [.Assign [.Attribute (.Name "self" p1) fl p2] (.Name fl p3) p4, .Assign [.Attribute (.Name "self" q1) gl q2] (.Name gl q3) q4] sc [] [] f fd) (S : FnScope ["self", fl, gl] ["self", fl, gl] sc)
    (d1 : (fl == ("__debug__" : Str)) = false := by decide +kernel) (d2 : (fl == ("__classdict__" : Str)) = false := by decide +kernel)
    (d3 : (gl == ("__debug__" : Str)) = false := by decide +kernel) (d4 : (gl == ("__classdict__" : Str)) = false := by decide +kernel) :
    FnOk P w K mg base CX0 1 f fd ["self", fl, gl] (spIni2 C fl gl) := by
  refine F.ok S (fun vs H Q E h => ?_) (fun cdv A outer s H vs Q E hr h => ⟨_, PSs.nox (pss_cons (ps_ost (pe_var (i := 0) rfl (vis_of S (by simp))) (pe_var (i := 1) rfl (vis_of S (by simp)) d1 d2))
    (pss_one (ps_ost (pe_var (i := 0) rfl (vis_of S (by simp))) (pe_var (i := 2) rfl (vis_of S (by simp)) d3 d4)))), ?_⟩)
  · obtain ⟨a, v, u, rfl, _⟩ := h
    rfl
  · obtain ⟨a, v, u, rfl, e, k⟩ := h
    exact ⟨_, rfl, _, rfl, a, C, rfl, T, no, .inl ⟨e, fun dx n ne => ⟨_, rfl, _, rfl, a, C, rfl, T, no2, .inr ⟨dx, _, upd_same, by rw [upd_ne ne]; exact upd_same, (by show 1 ≤ 900; decide), k dx n ne⟩⟩⟩⟩
end

/-! ### an error class with all that is told of it -/
section
variable (P : Program) (w : World) (K : PySem.W.Frag) (mg : Str → Option Value) (base : Heap)
structure Tells (C : Addr) (t : Str) : Prop where
  ex : ∃ f fd, Meth K C "told" f ∧ FnOk P w K mg base CX0 1 f fd ["self"] (spTold t) ∧ Binds K fd ["self"] []
/-- the class x, made of one thing, its field -/
structure Err1 (x fl t : Str) : Prop where
  g : mg x = some (.ref (He.ga K x))
  c : ErrC K (He.ga K x)
  no : PySem.W.findIn K (.ref (He.ga K x)) fl = some none
  tl : Tells P w K mg base (He.ga K x) t
  ini : ∃ fI fd, PySem.W.findIn K (.ref (He.ga K x)) "__init__" = some (some (.ref fI)) ∧ PySem.W.typeIn K (.ref fI) = some (.type "function") ∧
    FnOk P w K mg base CX0 1 fI fd ["self", fl] (spIni1 (He.ga K x) fl) ∧ Binds K fd ["self", fl] []
structure Err2 (x fl gl t : Str) : Prop where
  g : mg x = some (.ref (He.ga K x))
  c : ErrC K (He.ga K x)
  no : PySem.W.findIn K (.ref (He.ga K x)) fl = some none
  no2 : PySem.W.findIn K (.ref (He.ga K x)) gl = some none
  tl : Tells P w K mg base (He.ga K x) t
  ini : ∃ fI fd, PySem.W.findIn K (.ref (He.ga K x)) "__init__" = some (some (.ref fI)) ∧ PySem.W.typeIn K (.ref fI) = some (.type "function") ∧
    FnOk P w K mg base CX0 1 fI fd ["self", fl, gl] (spIni2 (He.ga K x) fl gl) ∧ Binds K fd ["self", fl, gl] []
/-- made of nothing -/
structure Err0 (x t : Str) : Prop where
  g : mg x = some (.ref (He.ga K x))
  c : ErrC K (He.ga K x)
  ec : PySem.W.excIn K (He.ga K x) He.veBase "ValueError.__new__" = true
  tl : Tells P w K mg base (He.ga K x) t
end
section
variable {X : Cx} {x fl gl t : Str} {e e2 : Expr} {ta tb : TE} {p pos : Pos}
theorem pe_err1 (E : Err1 X.prog X.w X.K X.mg X.base x fl t) (hr : Room 2 X.A) (hg : Gl X x) (ha : PE X e ta) (hdb : (x == ("__debug__" : Str)) = false := by decide +kernel)
    (hs : starEach [e] X.env = (false, eval e X.env) :: starEach [] X.env := by rfl) :
    PE X (.Call (.Name x p) [e] [] pos) (fun σ H Q => ta σ H fun v H1 => ∀ a d H', H1 a = none → H1 d = none → Same H1 H' → XAt H' a (He.ga X.K x) (some d) → H' d = some (exd d [(fl, v)]) → Q (.ref a) H') := by
  obtain ⟨fI, fd, i1, i2, F, b⟩ := E.ini
  refine PE.imp (pe_new E.c.o i1 i2 F hr b pass0 hg E.g (pa_cons (PE.up ha) pa_nil hs) hdb hs rfl) fun σ H Q h => ?_
  refine ⟨_, h, fun v H1 k => ⟨(by show 1 ≤ 1000; decide), fun a na => ⟨a, v, rfl, upd_same, fun d nd ne => ?_⟩⟩⟩
  have nd1 : H1 d = none := by rw [upd_ne ne] at nd; exact nd
  refine ⟨rfl, k a d _ na nd1 (fun b o q => ?_) (.inl upd_same) (by rw [upd_ne ne]; exact upd_same)⟩
  rw [upd_ne (ne_of_none q na), upd_ne (ne_of_none q nd1), upd_ne (ne_of_none q na)]
  exact q
theorem pe_err2 (E : Err2 X.prog X.w X.K X.mg X.base x fl gl t) (hr : Room 2 X.A) (hg : Gl X x) (ha : PE X e ta) (hb : PE X e2 tb) (hdb : (x == ("__debug__" : Str)) = false := by decide +kernel)
    (hs : starEach [e, e2] X.env = (false, eval e X.env) :: starEach [e2] X.env := by rfl) (hs2 : starEach [e2] X.env = (false, eval e2 X.env) :: starEach [] X.env := by rfl)
    (hp : (backTo pos (starEach [e2] X.env)).any (·.1) = false := by rfl) :
    PE X (.Call (.Name x p) [e, e2] [] pos) (fun σ H Q => ta σ H fun v H0 => Lf.up tb σ H0 fun u H1 => ∀ a d H', H1 a = none → H1 d = none → Same H1 H' → XAt H' a (He.ga X.K x) (some d) → H' d = some (exd d [(gl, u), (fl, v)]) → Q (.ref a) H') := by
  obtain ⟨fI, fd, i1, i2, F, b⟩ := E.ini
  refine PE.imp (pe_new E.c.o i1 i2 F hr b pass0 hg E.g (pa_cons (PE.up ha) (pa_cons (PE.up hb) pa_nil hs2) hs) hdb hs hp) fun σ H Q h => ?_
  refine ⟨_, h, fun v H0 h2 => ?_⟩
  obtain ⟨Q0, h3, h4⟩ := h2
  refine ⟨Q0, h3, fun u H1 z => ?_⟩
  have k := h4 u H1 z
  refine ⟨(by show 2 ≤ 1000; decide), fun a na => ⟨a, v, u, rfl, upd_same, fun d nd ne => ?_⟩⟩
  have nd1 : H1 d = none := by rw [upd_ne ne] at nd; exact nd
  refine ⟨rfl, k a d _ na nd1 (fun b o q => ?_) (.inl (by rw [upd_ne ne.symm]; exact upd_same)) upd_same⟩
  rw [upd_ne (ne_of_none q nd1), upd_ne (ne_of_none q na), upd_ne (ne_of_none q nd1), upd_ne (ne_of_none q na)]
  exact q
theorem pe_err0 (E : Err0 X.prog X.w X.K X.mg X.base x t) (hg : Gl X x) (hdb : (x == ("__debug__" : Str)) = false := by decide +kernel) :
    PE X (.Call (.Name x p) [] [] pos) (fun _ H Q => ∀ a H', H a = none → Same H H' → XAt H' a (He.ga X.K x) none → Q (.ref a) H') :=
  PE.imp (pe_bare F.excBase_ValueError E.ec E.g E.c.o.kC hg hdb) fun σ H Q h a na => h a _ na (same_upd na) (.inr ⟨rfl, upd_same⟩)
end
end Lf

set_option Elab.async false
set_option linter.all false
set_option maxRecDepth 100000
set_option maxHeartbeats 4000000
/-! for i, x in enumerate(t), t a tuple. -/
namespace Lf
open PySem PySem.Spec PyProof.Rows L2
set_option maxHeartbeats 8000000 in
theorem new_enum {v : Value} {o : Obj} {G : Heap → Prop} (B : Begins v o G) :
    Meets (Builtin.«enumerate.__new__» ⟨[.type "enumerate", v], []⟩) (fun _ R s => G s.heap ∧
      R (.ok (.ret (.ref (s.heap.push o).objs.size)))
        { s with heap := (s.heap.push o).push { cls := .type "enumerate", data := .fields #[.none, .bool false, .ref s.heap.objs.size, rawInt 0, .none, .none] } }) :=
  .of_wp fun prog w A R s hh => by
    obtain ⟨hp, g, d, tk, os⟩ := s
    obtain ⟨hg, fin⟩ := hh
    have sub := sub_enumerate
    have go : ∀ {A' : Around} {E' : Value → Shared → Prop} {Q' : Value → Shared → Prop}, Q' (.ref hp.objs.size) ⟨hp.push o, g, d, tk, os⟩ → wpAny (model prog w) A' (pyIter v) Q' E' ⟨hp, g, d, tk, os⟩ := fun q =>
      B.iter prog w _ _ ⟨hp, g, d, tk, os⟩ _ hg q
    wp_walk using go
    refine wpAny_stack_any fun st => wpAny_pure ?_
    split
    · rename_i c _ _ _ _ _
      cases (c == Value.type "enumerate") <;> (wp_walk using go; exact ⟨_, rfl, fin⟩)
    · wp_walk using go
      exact ⟨_, rfl, fin⟩
theorem call_enum {prog : Program} {w : World} {A : Around} {E : Value → Shared → Prop} {s : Shared} {v : Value} {o : Obj} {G : Heap → Prop} {Q : Value → Shared → Prop} (B : Begins v o G) (hg : G s.heap)
    (h : ∀ h', IsEnum h' (s.heap.objs.size + 1) s.heap.objs.size 0 .none → h'.get? s.heap.objs.size = some o → (∀ b u, s.heap.get? b = some u → h'.get? b = some u) → Q (.ref (s.heap.objs.size + 1)) { s with heap := h' }) :
    wpAny (model prog w) A (call (.type "enumerate") [v]) Q E s := by
  refine callType_new F.called_enumerate (by decide) (F.typeCall_enumerate_1 _) (F.newCall_enumerate_1 _) (fun x => F.args_object_init_2 x _) F.entry_enumerate_new (new_enum B) ⟨hg, ?_⟩
  have sz : (s.heap.push o).objs.size = s.heap.objs.size + 1 := Heap.size_push ..
  show _ ∧ _
  rw [sz]
  let e : Obj := { cls := .type "enumerate", data := .fields #[.none, .bool false, .ref s.heap.objs.size, rawInt 0, .none, .none] }
  have he : IsEnum ((s.heap.push o).push e) (s.heap.objs.size + 1) s.heap.objs.size 0 .none := by
    have z := Heap.get?_push_size (s.heap.push o) (o := e) rfl
    rw [sz] at z
    exact z
  exact ⟨⟨_, he, rfl⟩, h _ he (Heap.get?_push_of_some _ (Heap.get?_push_size _ B.free)) fun b u z => Heap.get?_push_of_some _ (Heap.get?_push_of_some _ z)⟩
/-- the tuple at a as it stands, its items in new pairs with their places -/
def Itet (K : PySem.W.Frag) (a : Addr) : It :=
  ⟨fun i H => ∃ (xs : List V) (x : V), SqT K H a xs ∧ xs[i]? = some x,
    fun i H v H' => ∃ T x, v = .ref T ∧ H T = none ∧ H' = upd H T (.tup [.int (i : Nat), x]) ∧ ∀ xs, SqT K H a xs → xs[i]? = some x,
    fun i H => ∃ xs : List V, SqT K H a xs ∧ xs.length = i⟩
theorem turn_enumT {P : Program} {w : World} {K : PySem.W.Frag} {elts : List Expr} {kk : Nat} {tpos : Pos} (a e it : Addr) :
    Turn P w K (.Tuple elts kk tpos) (Itet K a) [e, it] e (fun i h => (∃ old, IsEnum h e it ((i : Nat) : Int) old) ∧ h.IsTupleIter it a i ∧ e ≠ it ∧ a ≠ it ∧ a ≠ e) where
  mem := List.mem_cons_self
  obj := fun i h st b hb => by
    obtain ⟨⟨old, he⟩, ⟨o, ho, hc, hd⟩, _⟩ := st
    simp only [List.mem_cons, List.not_mem_nil, or_false] at hb
    rcases hb with rfl | rfl
    · exact ⟨_, he, fun v q => nomatch q⟩
    · exact ⟨o, ho, fun v q => by rw [hd] at q; cases q⟩
  keep := fun i h h' st k => by
    obtain ⟨⟨old, he⟩, hi, ne⟩ := st
    exact ⟨⟨old, k e (by simp) _ he⟩, hi.at fun o q => k it (by simp) o q, ne⟩
  item := by
    intro X hP hw hK hc i pins s σ H E I hf st hg
    subst hP hw hK
    obtain ⟨⟨old, he⟩, hit, ne, na, nae⟩ := st
    obtain ⟨xs, x, hq, hx⟩ := hg
    obtain ⟨its, rv, p, hz⟩ := I.tuple hq
    obtain ⟨u, hu, ru⟩ := rv.get hx
    have el : e < s.heap.objs.size := Heap.lt_size he
    have il : it < s.heap.objs.size := by obtain ⟨_, q, _⟩ := hit; exact Heap.lt_size q
    have calm : X.A.in1.handled = none := by have := I.ok.hd hc; simp [this]
    have hlt : i < its.toArray.size := by rw [List.size_toArray, ← rv.length]; exact (List.getElem?_eq_some_iff.mp hx).1
    refine wpAny_pyNext_enum_itemD (Draws.tuple (prog := X.prog) (w := X.w) calm it a na its.toArray) he ⟨hit, p⟩ hlt ne (by simp only [List.mem_cons, List.not_mem_nil, or_false, not_or]; exact ⟨ne, Ne.symm nae⟩) fun y h' tk hy ho st' hT hsz hk => ?_
    have ey : y = u := by
      have h1 : its[i]? = some y := by simpa using hy
      rw [hu] at h1
      exact (Option.some.inj h1).symm
    subst ey
    refine ⟨_, rfl, wpAny_letOwnedTupleGo_enum (s := { s with heap := h', toks := tk + 1 }) ho fun h'' he' sb => ?_⟩
    have hT2 := (sb.2 _ (Nat.ne_of_gt el)).trans hT
    have new : ObjOk X.prog X.w (upd H s.heap.objs.size (.tup [.int (i : Nat), x])) h'' s.heap.objs.size (.tup [.int (i : Nat), x]) :=
      ⟨by show 2 ≤ sizeLine; decide, [.int i tk, y], .cons ⟨_, rfl⟩ (.cons ru .nil), ⟨_, hT2, rfl, _, rfl⟩⟩
    have off : ∀ b, b ∉ [e, it] → b ≠ e ∧ b ≠ it := fun b hb => by
      simp only [List.mem_cons, List.not_mem_nil, or_false, not_or] at hb
      exact hb
    have I1 : Inv X pins σ (upd H s.heap.objs.size (.tup [.int (i : Nat), x])) { s with heap := h'', toks := tk + 1 } :=
      I.turnedNew (ch := [e, it]) (fun b ob hb q => (sb.2 b (off b hb).1).trans (hk b ob (off b hb).1 (off b hb).2 q)) hf (Nat.le_refl _) new
    refine ⟨.ref s.heap.objs.size, _, I1, rfl, ⟨_, x, rfl, I.hok.fresh (Nat.le_refl _), rfl, fun ys hy => by rw [I.tuple_inj hy hq]; exact hx⟩, ⟨⟨y, ?_⟩, st'.1.at fun o q => (sb.2 it (Ne.symm ne)).trans q, ne, na, nae⟩, fun b hb => ?_⟩
    · have z : ((i + 1 : Nat) : Int) = (i : Int) + 1 := by omega
      rw [z]
      exact he'
    · have lt : b < s.heap.objs.size := by
        simp only [List.mem_cons, List.not_mem_nil, or_false] at hb
        rcases hb with rfl | rfl
        · exact el
        · exact il
      rw [upd_ne (Nat.ne_of_lt lt)]
      exact (hf b hb).1
  done := by
    intro X hP hw hK hc i pins s σ H E I hf st hg
    subst hP hw hK
    obtain ⟨⟨old, he⟩, hit, ne, na, nae⟩ := st
    obtain ⟨xs, hq, hx⟩ := hg
    obtain ⟨its, rv, p, hz⟩ := I.tuple hq
    obtain ⟨f0, f1, f2, f3, f4, f5⟩ := hf it (by simp)
    have calm : X.A.in1.handled = none := by have := I.ok.hd hc; simp [this]
    have en : its.toArray.size = i := by rw [List.size_toArray, ← rv.length, hx]
    exact wpAny_pyNext_enum_endD (Draws.tuple (prog := X.prog) (w := X.w) calm it a na its.toArray) he (by rw [en]; exact ⟨hit, p⟩) fun h' eb => ⟨rfl, I.turned (t' := s.toks) (fun b o hb q => eb b o hb q) f0 f1 f3 f4 f5⟩
  self := fun A i s Q E st h => by
    obtain ⟨⟨_, he⟩, _⟩ := st
    exact wpAny_pyIter_enum he h
/-- enumerate(x), x a list or a tuple -/
def iEnumA (K : PySem.W.Frag) (ta : TE) : TI := fun σ H R => ta σ H fun x H1 => ∃ a xs, x = .ref a ∧ ((SqL K H1 a xs ∧ R (Ite K a) H1) ∨ (SqT K H1 a xs ∧ R (Itet K a) H1))
theorem pi_enumA {X : Cx} {e : Expr} {ta : TE} {p pos tpos : Pos} {elts : List Expr} {kk : Nat} (hg : Gl X "enumerate") (hm : X.mg "enumerate" = none) (ha : PE X e ta)
    (hs : starEach [e] X.env = [(false, eval e X.env)] := by rfl) : PI X (.Tuple elts kk tpos) (.Call (.Name "enumerate" p) [e] [] pos) (iEnumA X.K ta) := by
  refine ⟨fun pins s σ H R I h => ?_⟩
  refine Call_ (ld_blt I hg hm boot_enumerate (PyProof.Rows.callWith_type1 (thn ((pa_cons (PE.up ha) pa_nil hs).run pos pins s σ H (fun vs H1 => ∃ x, vs = [x] ∧ ∃ a xs, x = .ref a ∧ ((SqL X.K H1 a xs ∧ R (Ite X.K a) H1) ∨ (SqT X.K H1 a xs ∧ R (Itet X.K a) H1))) I ?_) fun us s1 hh => ?_) hs rfl))
  · exact ⟨_, h, fun v H' z => ⟨v, rfl, z⟩⟩
  obtain ⟨vs, H1, I1, r1, x, rfl, a, xs, rfl, q1⟩ := hh
  cases r1 with
  | cons r rr =>
    cases rr
    cases r
    have fp : ∀ b ∈ [s1.heap.objs.size + 1, s1.heap.objs.size], s1.heap.objs.size ≤ b := fun b hb => by
      simp only [List.mem_cons, List.not_mem_nil, or_false] at hb
      rcases hb with rfl | rfl
      · exact Nat.le_add_right _ _
      · exact Nat.le_refl _
    rcases q1 with ⟨hq, q⟩ | ⟨hq, q⟩
    · obtain ⟨its, rv, p', hz⟩ := I1.list hq
      refine call_enum (begins_list a its.toArray) p'.isList fun h' he hit hk => wpAny_pyIter_enum he ?_
      exact ⟨s1.heap.objs.size + 1, [s1.heap.objs.size + 1, s1.heap.objs.size], _, _, H1, rfl, I1.kept (t' := s1.toks) hk, turn_enum a (s1.heap.objs.size + 1) s1.heap.objs.size,
        ⟨⟨.none, he⟩, ⟨_, hit, rfl, rfl⟩, Nat.succ_ne_self _⟩, fun b hb => I1.fpOk (fp b hb) (I1.hok.fresh (fp b hb)), q⟩
    · obtain ⟨its, rv, p', hz⟩ := I1.tuple hq
      have al : a < s1.heap.objs.size := p'.lt
      refine call_enum (begins_tuple a its.toArray) p' fun h' he hit hk => wpAny_pyIter_enum he ?_
      exact ⟨s1.heap.objs.size + 1, [s1.heap.objs.size + 1, s1.heap.objs.size], _, _, H1, rfl, I1.kept (t' := s1.toks) hk, turn_enumT a (s1.heap.objs.size + 1) s1.heap.objs.size,
        ⟨⟨.none, he⟩, ⟨_, hit, rfl, rfl⟩, Nat.succ_ne_self _, Nat.ne_of_lt al, Nat.ne_of_lt (Nat.lt_succ_of_lt al)⟩, fun b hb => I1.fpOk (fp b hb) (I1.hok.fresh (fp b hb)), q⟩
/-- it gives each item of xs in a new pair with its place -/
theorem walk_enumT {K : PySem.W.Frag} {a : Addr} {xs : List V} : Walk (Itet K a) xs.length (fun H => SqT K H a xs)
    (fun i H v H' => ∃ T x, v = .ref T ∧ H T = none ∧ H' = upd H T (.tup [.int (i : Nat), x]) ∧ xs[i]? = some x) where
  goes := fun i H hi g => ⟨xs, _, g, List.getElem?_eq_getElem hi⟩
  stops := fun H g => ⟨xs, g, rfl⟩
  yields := fun i H x H' _ g y => by
    obtain ⟨T, z, e, n, eh, f⟩ := y
    exact ⟨T, z, e, n, eh, f xs g⟩
theorem walk_enumL {K : PySem.W.Frag} {a : Addr} {xs : List V} : Walk (Ite K a) xs.length (fun H => SqL K H a xs)
    (fun i H v H' => ∃ T x, v = .ref T ∧ H T = none ∧ H' = upd H T (.tup [.int (i : Nat), x]) ∧ xs[i]? = some x) where
  goes := fun i H hi g => ⟨xs, _, g, List.getElem?_eq_getElem hi⟩
  stops := fun H g => ⟨xs, g, Nat.le_refl _⟩
  yields := fun i H x H' _ g y => by
    obtain ⟨T, z, e, n, eh, f⟩ := y
    exact ⟨T, z, e, n, eh, f xs g⟩
end Lf

set_option Elab.async false
set_option linter.all false
set_option maxRecDepth 100000
set_option maxHeartbeats 4000000
/-! try: .. except X as e: .. except Y: ..; what a suite asks of e: isinstance, told(). -/
namespace Lf
open PySem PySem.Spec PyProof.Rows L2
/-- clauses: the first one by a name, the others without -/
def wAsM (K : PySem.W.Frag) (c : Value) (i : Nat) (ts : Addr → Value → Option Addr → TS) (rest : Ends → WX) (D : Ends) : WX := fun cls d σ H =>
  ∃ b, PySem.W.exmOne K cls c = some b ∧ (b = true → ∀ a, H a = none → ts a cls d ⟨fun σ' H' => D.nx (σ'.set i none) H', D.rt, fun σ' H' => D.bk (σ'.set i none) H', fun σ' H' => D.ct (σ'.set i none) H'⟩ (σ.set i (some (.ref a))) H) ∧ (b = false → rest D cls d σ H)
/-- with as many slots as there are names -/
def wLen (n : Nat) (W : WX) : WX := fun cls d σ H => σ.length = n → W cls d σ H
section
variable {X : Cx} {x n : Str} {c : Value} {i : Nat} {body suite : List Stmt} {b1 : Stmt} {np pos p3 : Pos} {tb : WX → TS} {ts : Addr → Value → Option Addr → TS} {Wout : WX} {more : List ExceptHandler} {l : List (Value × (Addr → Value → Option Addr → TS))}
theorem ps_try_asM (st : X.stack = X.env :: X.outer) (fr : X.env.frame = some X.env.locals) (nd : X.N.Nodup) (ni : X.N[i]? = some n) (kd : X.env.kindOf n = some .local) (nm : Names X x c) (tk : Takes X Wout)
    (inner : ∀ (W : WX) (pn : List (Addr × Obj)) (xe : Value → Shared → Prop), Takes (X.tr pn xe) W → PassesOwn (model X.prog X.w) X.A X.env xe → PSs (X.tr pn xe) body (tb W))
    (first : ∀ (a : Addr) (o : Obj) (cls : Value) (d : Option Addr) (pn : List (Addr × Obj)), Zc cls d o → (∃ vs, o.data = .fields vs) → PSs (X.suite a ((a, o) :: pn)) (b1 :: suite) (ts a cls d)) (others : HdsOk X more l) :
    PS X (.Try body (.ExceptHandler (some (.Name x np)) (some n) (b1 :: suite) p3 :: more) [] [] pos) (fun D σ H => tb (wLen X.N.length (wAsM X.K c i ts (fun D => wMany X.K Wout D l) D)) D σ H) := by
  refine ⟨fun pins s σ H D I0 h => ?_⟩
  have ok := I0.ok
  have fa : X.A.frames = some (X.env :: X.outer) := by rw [ok.frames, st]
  have lc : Loc X.env.scope n := .inl kd
  refine wpAny_Try_except ?_
  refine wpAny_mono ((inner (wLen X.N.length (wAsM X.K c i ts (fun D => wMany X.K Wout D l) D)) (X.pn ++ pins) (fun e s1 => wpAny (model X.prog X.w) X.A (noteFrame e X.env) (fun _ s2 => wpAny (model X.prog X.w) X.A (setFlight e none) (fun _ s3 =>
    wpAny (model X.prog X.w) X.A (handleBy e X.env (.ExceptHandler (some (.Name x np)) (some n) (b1 :: suite) p3 :: more)) (SP X pins D) X.xe s3) X.xe s2) X.xe s1) (fun u s' q => ?_) PassesOwn.looking).run [] s σ H D (I0.toTry _) h) (fun f s1 q => ?_) (fun e s1 q => q)
  · obtain ⟨a, B, sI, pins', σ', H', cls, d, rfl, J', nb, up, sky, na, os, ag, w⟩ := q
    have J0 : Inv X pins σ' H' sI := J'.ofTry ok
    have sk : Sky B (X.env :: X.outer) a (Zc cls d) X.env.locals s'.heap := by rw [← st]; exact sky
    show wpAny (model X.prog X.w) X.A (noteFrame (.ref a) X.env) _ _ _
    refine Sky.land Zc.steady fa fr sk fun h1 g1 u1 => ?_
    have J1 : Inv X pins σ' H' { s' with heap := h1 } := J0.landed nb g1.1 (up.trans u1) os ag
    obtain ⟨o1, v1, e1, z1, d1⟩ := g1.there
    have off : a ∉ frs (X.env :: X.outer) := fun hm => by
      obtain ⟨_, o', e', nf⟩ := g1.2.2.1.mem hm
      rw [e1] at e'
      cases e'
      exact nf _ d1
    have nL : a ≠ X.env.locals := fun z => off (List.mem_filterMap.mpr ⟨X.env, List.mem_cons_self, by rw [fr, z]⟩)
    have nF : a ∉ X.fs := fun hm => by
      obtain ⟨e, he, q⟩ := List.mem_filterMap.mp hm
      exact off (List.mem_filterMap.mpr ⟨e, List.mem_cons_of_mem _ he, q⟩)
    have S1 := J1.suite e1 d1 na nL nF
    have L1 : PySem.W.Looks (model X.prog X.w) h1 (typeOf (.ref a)) cls := fun A Q E s k q => wpAny_typeOf_ref (k _ _ e1) (by rw [z1.1]; exact q)
    have asks : ∀ {y : Str} {cv : Value} {yp : Pos} {Q : Value → Shared → Prop} {E : Value → Shared → Prop}, Names X y cv → Q cv { s' with heap := h1 } → wpAny (model X.prog X.w) (X.A.mark (some (.ref a))) (eval (.Name y yp) X.env) Q E { s' with heap := h1 } := fun {y cv yp Q E} nm q => by
      obtain ⟨hg, hb, hm | ⟨hm, hv, hn⟩⟩ := nm
      · exact ld_glob (X := X.suite a ((a, o1) :: (X.pn ++ pins))) S1 hg hm q hb
      · exact ld_blt (X := X.suite a ((a, o1) :: (X.pn ++ pins))) S1 hg hm hv q hn hb
    have rest : ∀ {hs : List ExceptHandler} {l' : List (Value × (Addr → Value → Option Addr → TS))}, HdsOk X hs l' → wMany X.K Wout D l' cls d σ' H' →
        wpAny (model X.prog X.w) X.A (handleBy (.ref a) X.env hs) (SP X pins D) X.xe { s' with heap := h1 } := by
      intro hs l' hk
      induction hk with
      | nil =>
        intro w
        refine wpAny_handleBy_nil ?_
        obtain ⟨k1, k2, k3, oe, vs, T, oT, ts', he, hz, hd, f1, hr⟩ := id g1
        unfold PySem.passOn
        refine wpAny_bind (wpAny_field he hd f1 ?_)
        rw [if_neg (show ¬ ((Value.ref T == Value.none) = true) from by simp)]
        have out : wpAny (model X.prog X.w) X.A (setFlight (.ref a) X.env.frame) (fun _ s4 => wpAny (model X.prog X.w) X.A (throw (.ref a) : Sem Flow) (SP X pins D) X.xe s4) X.xe { s' with heap := h1 } := by
          rw [fr]
          exact HandSPX.setFlight_upZ g1 fun h2 b2 u2 => wpAny_throw (tk _ _ ⟨a, B, sI, pins, σ', H', cls, d, rfl, J0, nb, (up.trans u1).trans u2, .inr (.inr (by rw [st]; exact b2)), na, os, ag, w⟩)
        first
          | exact wpAny_bind (wpAny_pure (wpAny_bind out))
          | exact wpAny_bind out
      | @cons y cv ts2 c1 suite2 yp p4 more2 l2 nm2 hsu r ih =>
        intro w
        obtain ⟨b, hb1, yes, no⟩ := w
        refine wpAny_handleBy_cons (codeAny_handlers_test ?_) (by intro q; cases q)
        refine asks nm2 ((PySem.W.exm_one (M := model X.prog X.w) J1.kIn L1 hb1).here ?_)
        cases b with
        | true =>
          refine codeAny_handlers_suite ?_
          refine HandSPX.lands_againZ g1 fun h2 g2 u2 => ?_
          have J2 : Inv X pins σ' H' { s' with heap := h2 } := J0.landed nb g2.1 ((up.trans u1).trans u2) os ag
          obtain ⟨o2, v2, e2, z2, d2⟩ := g2.there
          refine wpAny_mono ((hsu a o2 cls d (X.pn ++ pins) z2 ⟨_, d2⟩).run [] _ _ H' _ (J2.suite e2 d2 na nL nF) (yes rfl a na)) (fun f s6 q => ?_) (fun _ _ z => False.elim z)
          cases f with
          | ret u =>
            obtain ⟨v6, σ6, H6, S6, r6, q6⟩ := q
            exact ⟨_, _, _, S6.unsuite ok, r6, q6⟩
          | next => obtain ⟨σ6, H6, S6, q6⟩ := q; exact ⟨_, _, S6.unsuite ok, q6⟩
          | brk => obtain ⟨σ6, H6, S6, q6⟩ := q; exact ⟨_, _, S6.unsuite ok, q6⟩
          | cont => obtain ⟨σ6, H6, S6, q6⟩ := q; exact ⟨_, _, S6.unsuite ok, q6⟩
        | false =>
          show wpAny _ X.A (handleBy (.ref a) X.env more2) _ _ _
          exact ih (no rfl)
    obtain ⟨b, hb1, yes, no⟩ := w J0.len
    refine wpAny_handleBy_cons (codeAny_handlers_test ?_) (by intro q; cases q)
    refine asks nm ((PySem.W.exm_one (M := model X.prog X.w) J1.kIn L1 hb1).here ?_)
    cases b with
    | false =>
      show wpAny _ X.A (handleBy (.ref a) X.env more) _ _ _
      exact rest others (no rfl)
    | true =>
      refine codeAny_handlers_suite_as ?_
      refine HandSPX.lands_againZ g1 fun h2 g2 u2 => ?_
      have J2 : Inv X pins σ' H' { s' with heap := h2 } := J0.landed nb g2.1 ((up.trans u1).trans u2) os ag
      obtain ⟨o2, v2, e2, z2, d2⟩ := g2.there
      refine store_ok (X := X.suite a ((a, o2) :: (X.pn ++ pins))) (v := .ref a) (J2.suite e2 d2 na nL nF) nd ni lc rfl (fun s5 S5 => ?_) (.inr kd)
      refine wpAny_mono ((first a o2 cls d (X.pn ++ pins) z2 ⟨_, d2⟩).run [] s5 _ H' _ S5 (yes rfl a na)) (fun f s6 q => ?_) (fun _ _ z => False.elim z)
      have gone : ∀ {σ6 : L2.St} {H6 : Hp} {Q : Shared → Prop}, Inv (X.suite a ((a, o2) :: (X.pn ++ pins))) [] σ6 H6 s6 → (∀ s7, Inv X pins (σ6.set i none) H6 s7 → Q s7) →
          wpAny (model X.prog X.w) X.A (do bindName X.env n .none; unbindBehindTheSuite X.env n p3) (fun _ s7 => Q s7) X.xe s6 := fun {σ6 H6 Q} S6 hq => gone_ok (S6.unsuite ok) nd ni kd hq
      cases f with
      | ret u =>
        obtain ⟨v6, σ6, H6, S6, r6, q6⟩ := q
        exact gone S6 fun s7 J7 => ⟨_, _, _, J7, r6, q6⟩
      | next => obtain ⟨σ6, H6, S6, q6⟩ := q; exact gone S6 fun s7 J7 => ⟨_, _, J7, q6⟩
      | brk => obtain ⟨σ6, H6, S6, q6⟩ := q; exact gone S6 fun s7 J7 => ⟨_, _, J7, q6⟩
      | cont => obtain ⟨σ6, H6, S6, q6⟩ := q; exact gone S6 fun s7 J7 => ⟨_, _, J7, q6⟩
  · cases f with
    | ret u =>
      obtain ⟨v, σ', H', J', r, q⟩ := q
      exact ⟨v, σ', H', J'.ofTry ok, r, q⟩
    | next => obtain ⟨σ', H', J', q⟩ := q; exact wpAny_execs_nil ⟨σ', H', J'.ofTry ok, q⟩
    | brk => obtain ⟨σ', H', J', q⟩ := q; exact ⟨σ', H', J'.ofTry ok, q⟩
    | cont => obtain ⟨σ', H', J', q⟩ := q; exact ⟨σ', H', J'.ofTry ok, q⟩
end

/-- a block by a reading that is chosen when its slots and heap are known -/
theorem pss_some {X : Cx} {b : List Stmt} {ts : TS} (h : ∀ D σ H, ts D σ H → ∃ t, PSs X b t ∧ t D σ H) : PSs X b ts := ⟨fun pins s σ H D I q => by
  obtain ⟨t, p, z⟩ := h D σ H q
  exact p.run pins s σ H D I z⟩
theorem pe_some {X : Cx} {e : Expr} {te : TE} (h : ∀ σ H Q, te σ H Q → ∃ t, PE X e t ∧ t σ H Q) : PE X e te := ⟨fun pins s σ H Q I q => by
  obtain ⟨t, p, z⟩ := h σ H Q q
  exact p.run pins s σ H Q I z⟩

/-! ### a def called while an exception is handled: it raises nothing -/
structure FnW (P : Program) (w : World) (K : PySem.W.Frag) (mg : Str → Option Value) (base : Heap) (k : Nat) (f : Addr) (fd : FuncData) (ps : List Str) (sp : Sp) : Prop where
  len : ∀ vs H Q E, sp vs H Q E → vs.length = ps.length
  run : ∀ (A : Around) (outer : List Env) (s : Shared) (H : Hp) (args : Args) (us : List Value) (vs : List V) (Q : VK) (p : Addr × Obj), L2H.RoomH k A → L2H.PinOk outer H s p → Env0 P w K mg base A outer s H → BindsTo s fd args (ps.zip us) → Vals vs us → sp vs H Q E0 →
    codeAny (model P w) A (.call (.ref f) args) (CR CX0 outer P w H s Q E0) s
section
variable {P : Program} {w : World} {K : PySem.W.Frag} {mg : Str → Option Value} {base : Heap} {x qual : Str} {params : Arguments} {body : List Stmt} {scope : Scope} {dvs : List V} {kws : List (Str × V)} {f : Addr} {fd : FuncData}
theorem fnW_of {N ps : List Str} {k : Nat} {sp : Sp} (F : FunD K x qual params body scope dvs kws f fd) (S : FnScope N ps scope) (len : ∀ vs H Q E, sp vs H Q E → vs.length = ps.length)
    (hbody : ∀ (cdv : Value) (A : Around) (outer : List Env) (s : Shared) (H : Hp) (vs : List V) (Q : VK) (p : Addr × Obj), L2H.RoomH k (A.deeper (envOfC qual scope s.heap.objs.size f cdv)) → sp vs H Q E0 →
      ∃ t, PSs (L2H.cxH CX0 P w K mg base N qual scope f cdv A outer s H E0 p) body t ∧ t { nx := fun _ H' => Q .non H', rt := Q } (L2.start N vs) H) : FnW P w K mg base (k + 1) f fd ps sp := by
  obtain ⟨oc, od, dV, kV, doc, pm, an, cdv, ct, osl, rfl, lk, cd, _, _⟩ := F.ex
  refine ⟨len, fun A outer s H args us vs Q p room pin env bd rel told => ?_⟩
  have ln := len _ _ _ _ told
  have KX : K.In s.heap := env.mod.kin.keeps fun b o e => (env.bs b o e).1
  have kinds : ∀ y ∈ ps.zip us, scope.names.lookup y.1 = some .local ∨ (scope.names.lookup y.1 = some .cell ∧ ((cellsFrom (s.heap.objs.size + 1) scope.names []).lookup y.1).isSome = true) := fun ⟨m, v⟩ hy =>
    (S.par m (List.of_mem_zip hy).1).imp id fun q => ⟨q, PySem.W.cellsFrom_some _ _ _ (.inl q)⟩
  refine codeAny_call_function room.depth (KX _ _ lk) rfl S.co S.gen rfl (PySem.W.codeRec_of KX cd) (bd _ _ _ _ ?_)
  refine wpAny_newFunctionEnv_cells S.kind kinds fun en he s1 inC => ?_
  subst he
  refine ⟨(env.mod.nolimit.keeps fun b o e => (env.bs b o e).1).keeps inC.toInCall.keep, codeAny_func ?_⟩
  obtain ⟨t, ht, hq⟩ := hbody cdv A outer s H vs Q p (room.deeper _) told
  have I0 := L2H.inv_startH (CX := CX0) (E := E0) S pin env ln rel inC
  refine wpAny_mono (ht.run [] s1 (L2.start N vs) H _ I0 hq) (fun fl s' hs => ?_) fun e s' hs => hs
  cases fl with
  | ret u =>
    obtain ⟨v, σ', H', J, rv, q⟩ := hs
    exact ⟨v, H', J.os, J.bare, J.base, J.hok, rv, q⟩
  | next =>
    obtain ⟨σ', H', J, q⟩ := hs
    exact ⟨V.non, H', J.os, J.bare, J.base, J.hok, rfl, q⟩
  | brk => obtain ⟨_, _, _, q⟩ := hs; exact q.elim
  | cont => obtain ⟨_, _, _, q⟩ := hs; exact q.elim
/-- told() of one text, there -/
theorem told_okW {t : Str} {j : Nat} {p p2 : Pos} (F : FunD K "told" qual params [.Return (some (.Constant (.str t) j p)) p2] scope [] [] f fd) (S : FnScope ["self"] ["self"] scope) : FnW P w K mg base 1 f fd ["self"] (spTold t) := by
  refine fnW_of F S (fun vs H Q E h => ?_) (fun cdv A outer s H vs Q pp hr h => ?_)
  · obtain ⟨v, rfl, _⟩ := h
    rfl
  · obtain ⟨v, rfl, q⟩ := h
    exact ⟨_, pss_one (ps_ret pe_str), q⟩
end
section
variable {X : Cx} {a C f : Addr} {o1 : Obj} {pn : List (Addr × Obj)} {d : Option Addr} {m : Str} {fd : FuncData} {sp : Sp} {k : Nat}
/-- the caught error as an instance -/
theorem caught_inst {pins : List (Addr × Obj)} {σ : L2.St} {H : Hp} {s : Shared} (I : Inv (X.suite a ((a, o1) :: pn)) pins σ H s) (z : Zc (.ref C) d o1) (fl : ∃ vs, o1.data = .fields vs) (hd : ∀ dx, d = some dx → ∃ fs, H dx = some (exd dx fs) ∧ fs.lookup m = none) :
    ∃ od, PySem.W.InstAt s.heap a o1 C od ∧ PySem.W.shadowIn od m = some false := by
  obtain ⟨g, _⟩ := I.pin (a, o1) (List.mem_append_left _ List.mem_cons_self)
  obtain ⟨vs, hv⟩ := fl
  have nc : PySem.W.notCls o1 = true := by unfold PySem.W.notCls; rw [hv] <;> rfl
  cases d with
  | none => exact ⟨none, ⟨g, z.1, nc, by rw [z.2]; trivial⟩, rfl⟩
  | some dx =>
    obtain ⟨fs, e, lk⟩ := hd dx rfl
    obtain ⟨mA, ns, rel⟩ := exd_at I.hok e
    obtain ⟨od, h2, hk⟩ := lookIn_ns ns
    refine ⟨some od, ⟨g, z.1, nc, by rw [z.2]; exact h2⟩, ?_⟩
    have hm : mA m = none := by
      have r := rel m
      rw [lk] at r
      cases y : mA m with
      | none => rfl
      | some v => rw [y] at r; exact r.elim
    show (PySem.W.lookIn m od).map _ = _
    rw [hk, hm]
    rfl
def tToldC (a : Addr) (d : Option Addr) (m : Str) (sp : Sp) (te : TE) : TE := fun σ H Q => te σ H fun x H1 => x = .ref a ∧ (∀ dx, d = some dx → ∃ fs, H1 dx = some (exd dx fs) ∧ fs.lookup m = none) ∧ sp [.ref a] H1 Q E0
/-- e.m() of the caught error e -/
theorem pe_toldC {o : Expr} {te : TE} {pos apos : Pos} {pl : Sem Bool} (T : IsC X.K C) (M : Meth X.K C m f) (F : FnW X.prog X.w X.K X.mg X.base k f fd ["self"] sp) (hb : L2.Binds X.K fd ["self"] []) (hr : L2H.RoomH k X.A) (z : Zc (.ref C) d o1) (fl : ∃ vs, o1.data = .fields vs)
    (he : PE (X.suite a ((a, o1) :: pn)) o te)
    (ht : eval (.Call (.Attribute o m apos) [] [] pos) X.env = (do
      let ov ← eval o X.env
      standAt apos.atName
      let (f, first) ← holding [ov] (getMethod ov m pl)
      callWith pos f first (backTo pos (starEach [] X.env)) (backToKw pos (keywordEach [] X.env))) := by rfl) :
    PE (X.suite a ((a, o1) :: pn)) (.Call (.Attribute o m apos) [] [] pos) (tToldC a d m sp te) := by
  refine ⟨fun pins s σ H Q I h => ?_⟩
  refine PySem.W.methodCall_KW (pl := pl) (thn (he.run pins s σ H _ I h) fun u s1 hh => ?_) ht
  obtain ⟨x, H1, I1, rx, rfl, hd, q⟩ := hh
  obtain rfl : u = Value.ref a := rx
  obtain ⟨mm, fr⟩ := I1.fr
  obtain ⟨od, J, sh⟩ := caught_inst I1 z fl hd
  refine PySem.W.method_exc fr I1.ok.mod.kin J T.ga T.gg M.at_ M.fn sh (PySem.W.callWith_K0 (first := [.ref a]) I1.kIn M.kp ?_)
  have pin := I1.pin (a, o1) (List.mem_append_left _ List.mem_cons_self)
  have pk : L2H.PinOk (X.suite a ((a, o1) :: pn)).stack H1 s1 (a, o1) := ⟨pin.1, pin.2.1, fun hm => (List.mem_cons.mp (I1.stkSub _ hm)).elim pin.2.2.1 pin.2.2.2.1, pin.2.2.2.2⟩
  have room : L2H.RoomH k (X.suite a ((a, o1) :: pn)).A := ⟨hr.dp, hr.un⟩
  have bd := hb s1 [.ref a] I1.kIn rfl
  refine wpAny_call (codeAny_mono (F.run _ _ s1 H1 ⟨[.ref a], []⟩ [.ref a] [.ref a] Q (a, o1) room pk I1.env0 (by simpa using bd) (.cons rfl .nil) q) fun r s' hq => ?_)
  cases r with
  | error e => exact (show False from hq).elim
  | ok fl' =>
    cases fl' with
    | ret u => exact I1.after hq
    | next => exact hq.elim
    | brk => exact hq.elim
    | cont => exact hq.elim
/-- isinstance(e, c), e the caught error -/
def rIsC (K : PySem.W.Frag) (a C : Addr) (d : Option Addr) : List V → Hp → VK → Prop := fun xs H Q => ∃ (c : V) (cv : Value) (b : Bool),
  xs = [.ref a, c] ∧ ClsV c cv ∧ (∀ dx, d = some dx → ∃ fs, H dx = some (exd dx fs) ∧ fs.lookup ("__class__" : Str) = none) ∧ PySem.W.kitOne K (.ref C) cv = some b ∧ Q (.bl b) H
theorem call_isC (T : IsC X.K C) (z : Zc (.ref C) d o1) (fl : ∃ vs, o1.data = .fields vs) : CallR (X.suite a ((a, o1) :: pn)) (.builtin "isinstance") (rIsC X.K a C d) := by
  intro pins s σ H xs us Q I r h
  obtain ⟨c, cv, b, rfl, k, hd, e, q⟩ := h
  obtain ⟨u1, u2, rfl, r1, r2⟩ := vals2 r
  obtain rfl := k.eq r2
  obtain rfl : u1 = Value.ref a := r1
  obtain ⟨od, J, _⟩ := caught_inst I z fl hd
  exact PySem.W.kia_one (PySem.W.kitx_exc (od := od) T.cl T.ga T.gg T.sb T.ca T.sg T.tk T.ob) I.kIn J e (fun z => nomatch z)
    fun tk => ⟨.bl b, H, I.kept (t' := tk) fun _ _ z => z, rfl, q⟩
end
end Lf

set_option Elab.async false
set_option linter.all false
set_option maxRecDepth 100000
set_option maxHeartbeats 4000000
/-! raise X(e) of an own class with its __init__; try with clauses of which any may have `as`; repr of data. -/
namespace Lf
open PySem PySem.Spec PyProof.Rows L2
/-- raise X(e) -/
def tMk1 (C : Addr) (fl : Str) (ta : TE) : L2.St → Hp → XK → Prop := fun σ H Q => ta σ H fun v H1 => ∀ d H', H1 d = none → Same H1 H' → H' d = some (.xd [(fl, v)]) → Q (.ref C) (some d) H'
theorem pmk_err1 {X : Cx} {x fl t : Str} {e : Expr} {ta : TE} {p pos : Pos} (E : Err1 X.prog X.w X.K X.mg X.base x fl t) (hr : Room 2 X.A) (hg : Gl X x) (ha : PE X e ta)
    (hdb : (x == ("__debug__" : Str)) = false := by decide) (hs : starEach [e] X.env = (false, eval e X.env) :: starEach [] X.env := by rfl) :
    PMk X (.Call (.Name x p) [e] [] pos) (tMk1 (He.ga X.K x) fl ta) := by
  obtain ⟨fI, fd, i1, i2, F, b⟩ := E.ini
  have M := pmk_oex (X := X) (pos := pos) (p := p) (dvs := []) E.c.o i1 i2 F hr b .nil pass0 hg E.g (pa_cons (PE.up ha) pa_nil hs) hdb hs rfl
  intro pins s σ H Q I h
  refine M pins s σ H Q I ?_
  refine ⟨_, h, fun v H1 k => ⟨(by show 1 ≤ 1000; decide), fun a na => ⟨a, v, rfl, upd_same, fun d nd ne => ?_⟩⟩⟩
  have nd1 : H1 d = none := by rw [upd_ne ne] at nd; exact nd
  refine ⟨rfl, d, [(fl, v)], upd_same, by rw [upd_ne ne]; exact upd_same, nd1, ?_⟩
  refine k d _ nd1 (fun b o q => ?_) upd_same
  have n1 := ne_of_none q na
  have n2 := ne_of_none q nd1
  rw [upd_ne n2, del_ne n1, upd_ne n1, upd_ne n2, upd_ne n1]
  exact q
/-! ### clauses, with a name or without -/
abbrev Cl := Value × Option Nat × (Addr → Value → Option Addr → TS)
def asEnds (i : Nat) (D : Ends) : Ends := ⟨fun σ' H' => D.nx (σ'.set i none) H', D.rt, fun σ' H' => D.bk (σ'.set i none) H', fun σ' H' => D.ct (σ'.set i none) H'⟩
def wA (K : PySem.W.Frag) (Wout : WX) (D : Ends) : List Cl → WX
  | [] => Wout
  | (c, none, ts) :: r => fun cls d σ H => ∃ b, PySem.W.exmOne K cls c = some b ∧ (b = true → ∀ a, H a = none → ts a cls d D σ H) ∧ (b = false → wA K Wout D r cls d σ H)
  | (c, some i, ts) :: r => fun cls d σ H => ∃ b, PySem.W.exmOne K cls c = some b ∧ (b = true → ∀ a, H a = none → ts a cls d (asEnds i D) (σ.set i (some (.ref a))) H) ∧ (b = false → wA K Wout D r cls d σ H)
inductive HdA (X : Cx) : List ExceptHandler → List Cl → Prop
  | nil : HdA X [] []
  | plain {x : Str} {c : Value} {ts : Addr → Value → Option Addr → TS} {b1 : Stmt} {suite : List Stmt} {np p3 : Pos} {hds : List ExceptHandler} {l : List Cl} (nm : Names X x c)
      (hsu : ∀ (a : Addr) (o : Obj) (cls : Value) (d : Option Addr) (pn : List (Addr × Obj)), Zc cls d o → (∃ vs, o.data = .fields vs) → PSs (X.suite a ((a, o) :: pn)) (b1 :: suite) (ts a cls d)) (r : HdA X hds l) :
      HdA X (.ExceptHandler (some (.Name x np)) none (b1 :: suite) p3 :: hds) ((c, none, ts) :: l)
  | as {x n : Str} {c : Value} {i : Nat} {ts : Addr → Value → Option Addr → TS} {b1 : Stmt} {suite : List Stmt} {np p3 : Pos} {hds : List ExceptHandler} {l : List Cl} (nm : Names X x c) (ni : X.N[i]? = some n) (kd : X.env.kindOf n = some .local)
      (hsu : ∀ (a : Addr) (o : Obj) (cls : Value) (d : Option Addr) (pn : List (Addr × Obj)), Zc cls d o → (∃ vs, o.data = .fields vs) → PSs (X.suite a ((a, o) :: pn)) (b1 :: suite) (ts a cls d)) (r : HdA X hds l) :
      HdA X (.ExceptHandler (some (.Name x np)) (some n) (b1 :: suite) p3 :: hds) ((c, some i, ts) :: l)
section
variable {X : Cx} {body : List Stmt} {h0 : ExceptHandler} {hds : List ExceptHandler} {l : List Cl} {pos : Pos} {tb : WX → TS} {Wout : WX}
theorem ps_tryA (st : X.stack = X.env :: X.outer) (fr : X.env.frame = some X.env.locals) (nd : X.N.Nodup) (tk : Takes X Wout)
    (inner : ∀ (W : WX) (pn : List (Addr × Obj)) (xe : Value → Shared → Prop), Takes (X.tr pn xe) W → PassesOwn (model X.prog X.w) X.A X.env xe → PSs (X.tr pn xe) body (tb W))
    (hh : HdA X (h0 :: hds) l) : PS X (.Try body (h0 :: hds) [] [] pos) (fun D σ H => tb (wLen X.N.length (wA X.K Wout D l)) D σ H) := by
  refine ⟨fun pins s σ H D I0 h => ?_⟩
  have ok := I0.ok
  have fa : X.A.frames = some (X.env :: X.outer) := by rw [ok.frames, st]
  refine wpAny_Try_except ?_
  refine wpAny_mono ((inner (wLen X.N.length (wA X.K Wout D l)) (X.pn ++ pins) (fun e s1 => wpAny (model X.prog X.w) X.A (noteFrame e X.env) (fun _ s2 => wpAny (model X.prog X.w) X.A (setFlight e none) (fun _ s3 =>
    wpAny (model X.prog X.w) X.A (handleBy e X.env (h0 :: hds)) (SP X pins D) X.xe s3) X.xe s2) X.xe s1) (fun u s' q => ?_) PassesOwn.looking).run [] s σ H D (I0.toTry _) h) (fun f s1 q => ?_) (fun e s1 q => q)
  · obtain ⟨a, B, sI, pins', σ', H', cls, d, rfl, J', nb, up, sky, na, os, ag, w⟩ := q
    have J0 : Inv X pins σ' H' sI := J'.ofTry ok
    have sk : Sky B (X.env :: X.outer) a (Zc cls d) X.env.locals s'.heap := by rw [← st]; exact sky
    show wpAny (model X.prog X.w) X.A (noteFrame (.ref a) X.env) _ _ _
    refine Sky.land Zc.steady fa fr sk fun h1 g1 u1 => ?_
    have J1 : Inv X pins σ' H' { s' with heap := h1 } := J0.landed nb g1.1 (up.trans u1) os ag
    obtain ⟨o1, v1, e1, z1, d1⟩ := g1.there
    have off : a ∉ frs (X.env :: X.outer) := fun hm => by
      obtain ⟨_, o', e', nf⟩ := g1.2.2.1.mem hm
      rw [e1] at e'
      cases e'
      exact nf _ d1
    have nL : a ≠ X.env.locals := fun z => off (List.mem_filterMap.mpr ⟨X.env, List.mem_cons_self, by rw [fr, z]⟩)
    have nF : a ∉ X.fs := fun hm => by
      obtain ⟨e, he, q⟩ := List.mem_filterMap.mp hm
      exact off (List.mem_filterMap.mpr ⟨e, List.mem_cons_of_mem _ he, q⟩)
    have S1 := J1.suite e1 d1 na nL nF
    have L1 : PySem.W.Looks (model X.prog X.w) h1 (typeOf (.ref a)) cls := fun A Q E s k q => wpAny_typeOf_ref (k _ _ e1) (by rw [z1.1]; exact q)
    have asks : ∀ {y : Str} {cv : Value} {yp : Pos} {Q : Value → Shared → Prop} {E : Value → Shared → Prop}, Names X y cv → Q cv { s' with heap := h1 } → wpAny (model X.prog X.w) (X.A.mark (some (.ref a))) (eval (.Name y yp) X.env) Q E { s' with heap := h1 } := fun {y cv yp Q E} nm q => by
      obtain ⟨hg, hb, hm | ⟨hm, hv, hn⟩⟩ := nm
      · exact ld_glob (X := X.suite a ((a, o1) :: (X.pn ++ pins))) S1 hg hm q hb
      · exact ld_blt (X := X.suite a ((a, o1) :: (X.pn ++ pins))) S1 hg hm hv q hn hb
    have rest : ∀ {hs : List ExceptHandler} {l' : List Cl}, HdA X hs l' → wA X.K Wout D l' cls d σ' H' →
        wpAny (model X.prog X.w) X.A (handleBy (.ref a) X.env hs) (SP X pins D) X.xe { s' with heap := h1 } := by
      intro hs l' hk
      induction hk with
      | nil =>
        intro w
        refine wpAny_handleBy_nil ?_
        obtain ⟨k1, k2, k3, oe, vs, T, oT, ts', he, hz, hd, f1, hr⟩ := id g1
        unfold PySem.passOn
        refine wpAny_bind (wpAny_field he hd f1 ?_)
        rw [if_neg (show ¬ ((Value.ref T == Value.none) = true) from by simp)]
        have out : wpAny (model X.prog X.w) X.A (setFlight (.ref a) X.env.frame) (fun _ s4 => wpAny (model X.prog X.w) X.A (throw (.ref a) : Sem Flow) (SP X pins D) X.xe s4) X.xe { s' with heap := h1 } := by
          rw [fr]
          exact HandSPX.setFlight_upZ g1 fun h2 b2 u2 => wpAny_throw (tk _ _ ⟨a, B, sI, pins, σ', H', cls, d, rfl, J0, nb, (up.trans u1).trans u2, .inr (.inr (by rw [st]; exact b2)), na, os, ag, w⟩)
        first
          | exact wpAny_bind (wpAny_pure (wpAny_bind out))
          | exact wpAny_bind out
      | @plain y cv ts2 c1 suite2 yp p4 more2 l2 nm2 hsu r ih =>
        intro w
        obtain ⟨b, hb1, yes, no⟩ := w
        refine wpAny_handleBy_cons (codeAny_handlers_test ?_) (by intro q; cases q)
        refine asks nm2 ((PySem.W.exm_one (M := model X.prog X.w) J1.kIn L1 hb1).here ?_)
        cases b with
        | true =>
          refine codeAny_handlers_suite ?_
          refine HandSPX.lands_againZ g1 fun h2 g2 u2 => ?_
          have J2 : Inv X pins σ' H' { s' with heap := h2 } := J0.landed nb g2.1 ((up.trans u1).trans u2) os ag
          obtain ⟨o2, v2, e2, z2, d2⟩ := g2.there
          refine wpAny_mono ((hsu a o2 cls d (X.pn ++ pins) z2 ⟨_, d2⟩).run [] _ _ H' _ (J2.suite e2 d2 na nL nF) (yes rfl a na)) (fun f s6 q => ?_) (fun _ _ z => False.elim z)
          cases f with
          | ret u =>
            obtain ⟨v6, σ6, H6, S6, r6, q6⟩ := q
            exact ⟨_, _, _, S6.unsuite ok, r6, q6⟩
          | next => obtain ⟨σ6, H6, S6, q6⟩ := q; exact ⟨_, _, S6.unsuite ok, q6⟩
          | brk => obtain ⟨σ6, H6, S6, q6⟩ := q; exact ⟨_, _, S6.unsuite ok, q6⟩
          | cont => obtain ⟨σ6, H6, S6, q6⟩ := q; exact ⟨_, _, S6.unsuite ok, q6⟩
        | false =>
          show wpAny _ X.A (handleBy (.ref a) X.env more2) _ _ _
          exact ih (no rfl)
      | @as y n cv i ts2 c1 suite2 yp p4 more2 l2 nm2 ni kd hsu r ih =>
        intro w
        obtain ⟨b, hb1, yes, no⟩ := w
        refine wpAny_handleBy_cons (codeAny_handlers_test ?_) (by intro q; cases q)
        refine asks nm2 ((PySem.W.exm_one (M := model X.prog X.w) J1.kIn L1 hb1).here ?_)
        cases b with
        | false =>
          show wpAny _ X.A (handleBy (.ref a) X.env more2) _ _ _
          exact ih (no rfl)
        | true =>
          refine codeAny_handlers_suite_as ?_
          refine HandSPX.lands_againZ g1 fun h2 g2 u2 => ?_
          have J2 : Inv X pins σ' H' { s' with heap := h2 } := J0.landed nb g2.1 ((up.trans u1).trans u2) os ag
          obtain ⟨o2, v2, e2, z2, d2⟩ := g2.there
          have lc : Loc X.env.scope n := .inl kd
          refine store_ok (X := X.suite a ((a, o2) :: (X.pn ++ pins))) (v := .ref a) (J2.suite e2 d2 na nL nF) nd ni lc rfl (fun s5 S5 => ?_) (.inr kd)
          refine wpAny_mono ((hsu a o2 cls d (X.pn ++ pins) z2 ⟨_, d2⟩).run [] s5 _ H' _ S5 (yes rfl a na)) (fun f s6 q => ?_) (fun _ _ z => False.elim z)
          have gone : ∀ {σ6 : L2.St} {H6 : Hp} {Q : Shared → Prop}, Inv (X.suite a ((a, o2) :: (X.pn ++ pins))) [] σ6 H6 s6 → (∀ s7, Inv X pins (σ6.set i none) H6 s7 → Q s7) →
              wpAny (model X.prog X.w) X.A (do bindName X.env n .none; unbindBehindTheSuite X.env n p4) (fun _ s7 => Q s7) X.xe s6 := fun {σ6 H6 Q} S6 hq => gone_ok (S6.unsuite ok) nd ni kd hq
          cases f with
          | ret u =>
            obtain ⟨v6, σ6, H6, S6, r6, q6⟩ := q
            exact gone S6 fun s7 J7 => ⟨_, _, _, J7, r6, q6⟩
          | next => obtain ⟨σ6, H6, S6, q6⟩ := q; exact gone S6 fun s7 J7 => ⟨_, _, J7, q6⟩
          | brk => obtain ⟨σ6, H6, S6, q6⟩ := q; exact gone S6 fun s7 J7 => ⟨_, _, J7, q6⟩
          | cont => obtain ⟨σ6, H6, S6, q6⟩ := q; exact gone S6 fun s7 J7 => ⟨_, _, J7, q6⟩
    exact rest hh (w J0.len)
  · cases f with
    | ret u =>
      obtain ⟨v, σ', H', J', r, q⟩ := q
      exact ⟨v, σ', H', J'.ofTry ok, r, q⟩
    | next => obtain ⟨σ', H', J', q⟩ := q; exact wpAny_execs_nil ⟨σ', H', J'.ofTry ok, q⟩
    | brk => obtain ⟨σ', H', J', q⟩ := q; exact ⟨σ', H', J'.ofTry ok, q⟩
    | cont => obtain ⟨σ', H', J', q⟩ := q; exact ⟨σ', H', J'.ofTry ok, q⟩
end
/-! ### repr of data -/
theorem call_reprD {X : Cx} (hg : X.A.guards = some []) (hu : X.A.units + 9 < cLine) : CallR X (.builtin "repr") (fun xs H Q => ∃ v d, xs = [v] ∧ Dp X.K H v d ∧ d.showable = true ∧ d.hasDict = false ∧ d.depth ≤ 7 ∧ d.shown.length ≤ sizeLine ∧ Q (.str d.shown) H) := by
  intro pins s σ H xs us Q I r h
  obtain ⟨v, d, rfl, hd, sh, nd, dp, hz, q⟩ := h
  obtain ⟨u, rfl, rv⟩ := vals1 r
  obtain ⟨as, rd⟩ := Dp.reads I d v u hd rv
  cases rd with
  | none => exact P.repr_of_none ⟨.str "None", H, I.tok _, ⟨_, rfl⟩, q⟩
  | bool b =>
    refine P.repr_of_bool ⟨.str _, H, I.tok _, ⟨_, rfl⟩, ?_⟩
    exact q
  | int i t =>
    refine P.repr_of_int (by simpa [PyData.showable] using sh) ⟨.str _, H, I.tok _, ⟨_, rfl⟩, ?_⟩
    exact q
  | str x t =>
    refine P.repr_of_str ⟨.str _, H, I.tok _, ⟨_, rfl⟩, ?_⟩ hz
    exact q
  | list h1 h2 h3 h4 =>
    refine repr_of_reads' (h₀ := s.heap) (.list h1 h2 h3 h4) sh (fun z => by rw [nd] at z; cases z) hg (by omega) (fun _ _ z => z) (fun h' u tk hk => ?_) hz
    exact ⟨.str _, H, I.kept hk, ⟨u, rfl⟩, q⟩
  | tuple h1 h2 h3 h4 =>
    refine repr_of_reads' (h₀ := s.heap) (.tuple h1 h2 h3 h4) sh (fun z => by rw [nd] at z; cases z) hg (by omega) (fun _ _ z => z) (fun h' u tk hk => ?_) hz
    exact ⟨.str _, H, I.kept hk, ⟨u, rfl⟩, q⟩
  | dict h1 h2 h3 h4 h5 => rw [PyData.hasDict] at nd; cases nd
end Lf

set_option Elab.async false
set_option linter.all false
set_option maxRecDepth 100000
set_option maxHeartbeats 4000000
/-! set(xs) of distinct texts, however many; how many there are. -/
namespace Lf
open PySem PySem.Spec PyProof.Rows L2
abbrev HasS (P : Program) (w : World) (h : Heap) (a : Addr) (xs : List Str) (i : Nat) : Prop := h.SetOf (PySem.strKind P w) a (fun y => (xs.take i).any (· == y)) i
theorem take_next {xs : List Str} (nd : xs.Nodup) {i : Nat} (hi : i < xs.length) :
    (xs.take i).any (· == xs.getD i Str.empty) = false ∧ ∀ y, ((xs.take i).any (· == y) || decide (y = xs.getD i Str.empty)) = (xs.take (i + 1)).any (· == y) := by
  have eg : xs.getD i Str.empty = xs[i] := by simp [List.getD, hi]
  rw [eg]
  have split : xs.take (i + 1) = xs.take i ++ [xs[i]] := by simp
  constructor
  · rw [List.any_eq_false]
    intro y hy hb
    have e : y = xs[i] := by simpa using hb
    subst e
    obtain ⟨j, hj, ej⟩ := List.mem_iff_getElem.mp hy
    rw [List.length_take] at hj
    have ej2 : xs[j] = xs[i] := by rw [← ej, List.getElem_take]
    have ji : j < i := by omega
    exact absurd ej2 (List.pairwise_iff_getElem.mp nd j i (by omega) hi ji)
  · intro y
    rw [split, List.any_append]
    congr 1
    by_cases e : y = xs[i]
    · subst e; simp
    · have q : (xs[i] == y) = false := beq_eq_false_iff_ne.mpr fun z => e z.symm
      simp [e, q]
section
variable {P : Program} {w : World} {A : Around} {R : Result → Shared → Prop} {It : Addr} {fp wr : List Addr} {G : Array GenState → Array GenState → Prop} {n : Nat} {Pv : Nat → Value → Prop} {Sv : Nat → Shared → Prop}
/-- the loop that fills a set: distinct texts -/
theorem fillS (W : WalksS P w A.in1 It fp wr G n Pv Sv) {a : Addr} (off : a ∉ fp) {xs : List Str} (nd : xs.Nodup) (len : xs.length = n) (few : n + 1 < scanBound)
    (read : ∀ i v, Pv i v → ∃ t, v = .str (xs.getD i Str.empty) t) : ∀ (m i : Nat) (s : Shared), i + m = n → Sv i s → HasS P w s.heap a xs i →
      (∀ s', Moved (a :: wr) G s s' → HasS P w s'.heap a xs n → R (.ok (.ret .none)) s') →
      codeAny (model P w) A (.builtin "set.update.loop" ⟨[.ref a, .ref It], []⟩) R s := by
  have offw : a ∉ wr := fun z => off (W.sub _ z)
  have keep : ∀ {s s' : Shared} {i : Nat}, Moved wr G s s' → HasS P w s.heap a xs i → HasS P w s'.heap a xs i := fun mv hs => by
    obtain ⟨o, es, ep, t, ho, r⟩ := hs
    exact ⟨o, es, ep, t, mv.heap a _ offw ho, r⟩
  intro m
  induction m with
  | zero =>
    intro i s e st hs fin
    obtain rfl : i = n := by omega
    refine codeAny_builtin PyProof.Rows.F.entry_set_update_loop ?_
    rw [Around.under_plainId PyProof.Rows.F.plain_set_update_loop _]
    show wpAny _ _ (pyNext (.ref It) >>= _) _ _ _
    exact wpAny_bind (W.done s _ _ st fun s' mv => wpAny_pure (fin s' (mv.mono fun b hb => List.mem_cons_of_mem _ hb) (keep mv hs)))
  | succ m ih =>
    intro i s e st hs fin
    have hi : i < n := by omega
    refine codeAny_builtin PyProof.Rows.F.entry_set_update_loop ?_
    rw [Around.under_plainId PyProof.Rows.F.plain_set_update_loop _]
    show wpAny _ _ (pyNext (.ref It) >>= _) _ _ _
    refine wpAny_bind (W.item i s _ _ hi st fun v s' pv st' mv => ?_)
    obtain ⟨t, rfl⟩ := read i v pv
    have hs' := keep mv hs
    obtain ⟨new, grow⟩ := take_next nd (show i < xs.length by omega)
    show wpAny _ _ (holding [Value.str _ t] (setAdd a (.str _ t)) >>= _) _ _ _
    refine wpAny_bind (wpAny_holding ?_)
    unfold setAdd
    refine wpAny_holding (wpAny_bind ((PySem.strKind P w).pyHash (strKind_is _ _ _ _) ?_))
    refine wpAny_setAddHashed_of (knd := PySem.strKind P w) (s := { s' with toks := s'.toks + 1 }) (strKind_is _ _ _ _) rfl hs' (by omega) fun h' sb hs2 => ?_
    have hs3 : HasS P w h' a xs (i + 1) := SetOf_congr hs2 grow (by show (if (xs.take i).any (· == xs.getD i Str.empty) = true then i else i + 1) = i + 1; rw [new]; rfl)
    refine wpAny_pure ⟨plainId_quiet PyProof.Rows.F.plain_set_update_loop _, ih (i + 1) _ (by omega) (W.frame _ s' _ _ st' (Nat.le_succ _) fun b hb o z => ?_) hs3 fun s2 mv2 q => fin s2 ?_ q⟩
    · rw [sb.2 b fun y => off (y ▸ hb)]
      exact z
    · refine Moved.trans W.gtrans ((mv.mono fun b hb => List.mem_cons_of_mem _ hb).then_heap (Nat.le_succ _) fun b o hb z => ?_) mv2
      rw [sb.2 b fun y => hb (by rw [y]; exact List.mem_cons_self)]
      exact z
end
/-- an empty set, newly laid -/
abbrev emptySet (led : Bool) : Obj := { cls := .type "set", dict := none, data := .set #[] 0 (.fresh 0 0 led) }
section
variable {P : Program} {w : World} {A : Around} {E : Value → Shared → Prop} {s : Shared} {l : Addr} {its : Array Value} {xs : List Str}
/-- what is wanted of it: a set at the next place, of these texts; all else as it was -/
abbrev SetMade (P : Program) (w : World) (s : Shared) (xs : List Str) (s' : Shared) : Prop :=
  ∃ h' tk, s' = { s with heap := h', toks := tk } ∧ HasS P w h' s.heap.objs.size xs xs.length ∧ ∀ b o, b < s.heap.objs.size → s.heap.get? b = some o → h'.get? b = some o
theorem setInit {led : Bool} {Q : Fin → Shared → Prop} (calm : A.handled = none) (hl : s.heap.IsList l its) (ht : StrsAre its.toList xs) (nd : xs.Nodup) (few : xs.length + 1 < scanBound)
    (h : ∀ s', SetMade P w s xs s' → Q (.done (.ret .none)) s') :
    wpAny (model P w) A (Builtin.«set.__init__» ⟨[.ref s.heap.objs.size, .ref l], []⟩) Q E { s with heap := s.heap.push (emptySet led) } := by
  obtain ⟨⟨oc, od, odt, osl⟩, hol, hcl, nl, hdl⟩ := hl
  dsimp only at hcl hdl
  subst hcl hdl
  have hS : (s.heap.push (emptySet led)).get? s.heap.objs.size = some (emptySet led) := Heap.get?_push_size _ rfl
  have hT : Shared.TypeIs { s with heap := s.heap.push (emptySet led) } (.ref s.heap.objs.size) "set" := ⟨_, hS, rfl⟩
  have hol' : (s.heap.push (emptySet led)).get? l = some { cls := .type "list", dict := od, data := .seq its nl, slots := osl } := Heap.get?_push_of_some _ hol
  have f1 := F.sub_list_set
  have f2 := F.sub_list_frozenset
  have f3 : (Value.type "list" == Value.type "dict") = false := by decide
  have hl1 : (s.heap.push (emptySet led)).IsList l its := ⟨_, hol', rfl, nl, rfl⟩
  unfold Builtin.«set.__init__» noKeywords Builtin.Frozenset.updateFrom
  generalize hPI : pyIter = PI
  wp_walk
  subst hPI
  refine wpAny_pyIter_list hl1 (wpAny_bind (wpAny_runValue ?_))
  have lS : l < s.heap.objs.size := Heap.lt_size hol
  have calm3 : A.in1.handled = none := by simp [calm]
  have nI : l ≠ (s.heap.push (emptySet led)).objs.size := by
    rw [Heap.size_push]
    exact Nat.ne_of_lt (Nat.lt_succ_of_lt lS)
  have off : s.heap.objs.size ∉ [(s.heap.push (emptySet led)).objs.size, l] := by
    rw [Heap.size_push]
    simp only [List.mem_cons, List.not_mem_nil, or_false, not_or]
    exact ⟨Nat.ne_of_lt (Nat.lt_succ_self _), Nat.ne_of_gt lS⟩
  have sz : xs.length = its.size := by rw [← StrsAre.len_eq ht, Array.length_toList]
  refine fillS ((Walks.list calm3 _ l nI its).toS) off nd sz (by omega) (fun i v hv => SS.strs_at ht i v (by rw [Array.getElem?_toList]; exact hv)) its.size 0 _ (Nat.zero_add _) ?_ ?_ fun s' mv q => ?_
  · exact ⟨⟨_, Heap.get?_push_size _ rfl, rfl, rfl⟩, hl1.push _⟩
  · exact SetOf_congr ((setObjOf_fresh (knd := PySem.strKind P w) led).setOf (Heap.get?_push_of_some _ hS) (by unfold scanBound; omega)) (fun _ => rfl) rfl
  · obtain ⟨h', g', d', tk', os'⟩ := s'
    obtain rfl : g' = s.gens := mv.gens
    obtain rfl : d' = s.drawn := mv.drawn
    obtain rfl : os' = s.os := mv.os
    show wpAny _ _ _ _ _ _
    refine wpAny_pure ?_
    show wpAny _ _ (ret Value.none) _ _ _
    refine wpAny_pure (h _ ⟨h', tk', rfl, by rw [sz]; exact q, fun b o hb z => mv.heap b o ?_ (Heap.get?_push_of_some _ (Heap.get?_push_of_some _ z))⟩)
    simp only [List.mem_cons, List.not_mem_nil, or_false, not_or]
    rw [Heap.size_push]
    exact ⟨Nat.ne_of_lt hb, Nat.ne_of_lt (Nat.lt_succ_of_lt hb)⟩
theorem setOfTexts {Q : Value → Shared → Prop} (calm : A.handled = none) (hl : s.heap.IsList l its) (ht : StrsAre its.toList xs) (nd : xs.Nodup) (few : xs.length + 1 < scanBound)
    (h : ∀ s', SetMade P w s xs s' → Q (.ref s.heap.objs.size) s') : wpAny (model P w) A (call (.type "set") [.ref l]) Q E s := by
  obtain ⟨c, tl, mro⟩ := F.called_set.mro
  have g1 := F.called_set.made
  have g2 := F.called_set.sub
  refine wpAny_call (codeAny_of_tree ?_)
  show wpAny _ _ (callAny (.type "set") _) _ _ _
  refine wpAny_pure ⟨Code.quiet_builtin _ (by decide +kernel), codeAny_builtin F.entry_type_call ?_⟩
  rw [Around.under_plain (weight_type_call_type "set" [.ref l] []) rfl]
  have g3 := F.called_set.notType
  have g4 := F.called_set.canCreate
  have g5 := F.typeCall_set_1 (.ref l)
  repeat (any_goals (first | assumption | wp_step))
  refine codeAny_mono (code_set_new_1 (.ref l) (E := E) (Q₁ := fun o s1 => ∃ led : Bool, o = .ref s.heap.objs.size ∧ s1 = { s with heap := s.heap.push (emptySet led) }) fun led => ⟨led, rfl, rfl⟩) fun r s1 hr => ?_
  cases r with
  | error e => exact hr
  | ok fl =>
    cases fl with
    | ret o =>
      obtain ⟨led, rfl, rfl⟩ := hr
      have hT : Shared.TypeIs { s with heap := s.heap.push (emptySet led) } (.ref s.heap.objs.size) "set" := ⟨_, Heap.get?_push_size _ rfl, rfl⟩
      have g6 := F.called_set.init.lookup
      have g7 := F.called_set.init.bind (.ref s.heap.objs.size)
      repeat (any_goals (first | assumption | wp_step))
      refine codeAny_mono (codeAny_call_builtin (R := wants (fun r s2 => r = .none ∧ SetMade P w s xs s2) E) F.called_set.init.plain F.entry_set_init (check_set_init_1 hT (setInit (by simp [calm]) hl ht nd few fun s2 q => ⟨rfl, q⟩))) fun r2 s2 hr2 => ?_
      cases r2 with
      | error e => exact hr2
      | ok f2 =>
        cases f2 with
        | ret v =>
          obtain ⟨rfl, q⟩ := hr2
          repeat (any_goals (first | assumption | wp_step))
          exact h _ q
        | _ => exact hr2.elim
    | _ => exact hr.elim
end
/-- len(set(xs)), xs a list of distinct texts -/
def tCount (K : PySem.W.Frag) (ta : TE) : TE := fun σ H Q => ta σ H fun x H1 => ∃ (l : Addr) (xs : List Str), x = .ref l ∧ SqL K H1 l (xs.map V.str) ∧ xs.Nodup ∧ xs.length ≤ 4000 ∧ Q (.int xs.length) H1
theorem pe_count {X : Cx} {a : Expr} {ta : TE} {p p2 q pos : Pos} (hc : X.calm = true) (hg : Gl X "len") (hm : X.mg "len" = none) (hg2 : Gl X "set") (hm2 : X.mg "set" = none) (ha : PE X a ta)
    (na : starEach [a] X.env = (false, eval a X.env) :: starEach [] X.env := by rfl) : PE X (.Call (.Name "len" p) [.Call (.Name "set" p2) [a] [] q] [] pos) (tCount X.K ta) := by
  refine ⟨fun pins s σ H Q I h => ?_⟩
  refine Call_ (ld_blt I hg hm boot_len (PyProof.Rows.callWith_builtin1 (PyProof.Rows.args_cons ?_ rfl) rfl rfl))
  refine Call_ (ld_blt I hg2 hm2 boot_set (PyProof.Rows.callWith_type1 (PyProof.Rows.args_cons (thn (ha.run pins s σ H _ I h) fun v s1 hh => PyProof.Rows.args_nil ?_) na) na rfl))
  obtain ⟨x, H1, I1, r1, l, xs, rfl, hq, nd, few, q1⟩ := hh
  cases r1
  obtain ⟨its, r, pl, hz⟩ := I1.list hq
  refine setOfTexts (I1.ok.hd hc) pl.isList (by simpa using strsAre_of r) nd (by unfold scanBound; omega) fun s' hs => PyProof.Rows.args_nil ?_
  obtain ⟨h', tk, rfl, ⟨o, es, ep, t, ho, hex, hd, _, _, _, hf, hn⟩, hk⟩ := hs
  have I2 : Inv X pins σ H1 { s1 with heap := h', toks := tk } := I1.kept fun b o z => hk b o (Heap.lt_size z) z
  exact call_len_set ho hex hd hf (by rw [hn]; omega) ⟨.int xs.length, H1, I2.tok _, ⟨_, by rw [hn]⟩, q1⟩
/-- xs + ys, lists that are read -/
def rCatL (K : PySem.W.Frag) : R2 := fun x y H Q => ∃ l b xs zs, x = .ref l ∧ y = .ref b ∧ SqL K H l xs ∧ SqL K H b zs ∧ xs.length + zs.length ≤ sizeLine ∧ ∀ p, H p = none → Q (.ref p) (upd H p (.lst (xs ++ zs)))
theorem op_catL {X : Cx} : OpR X (binaryOp .Add) (rCatL X.K) := by
  intro pins s σ H x y v u Q I rx ry h
  obtain ⟨l, b, xs, zs, rfl, rfl, h1, h2, hz, q⟩ := h
  cases rx
  cases ry
  obtain ⟨is, r1, ⟨⟨c1, d1, t1, s1⟩, n1, e1, k1, _, m1⟩, _⟩ := I.list h1
  obtain ⟨js, r2, ⟨⟨c2, d2, t2, s2⟩, n2, e2, k2, _, m2⟩, _⟩ := I.list h2
  dsimp only at k1 m1 k2 m2
  subst k1 m1 k2 m2
  have l1 := r1.length
  have l2 := r2.length
  refine concat_meets ⟨_, e1, rfl⟩ ⟨_, e2, rfl⟩ noFill_list_add seq_list_add F.slot_list_add F.entry_list_add (F.args_list_add_2 _ _)
    (list_addW l b is.toArray js.toArray n1 n2 d1 d2 s1 s2 (by simp only [List.size_toArray]; omega)) ⟨e1, e2, ?_⟩
  have ea : is.toArray ++ js.toArray = (is ++ js).toArray := by simp
  rw [ea]
  exact ⟨.ref _, _, I.lnew (t' := s.toks) (r1.append r2) (by rw [List.length_append]; omega), rfl, q _ I.fresh⟩
end Lf

set_option Elab.async false
set_option linter.all false
set_option maxRecDepth 100000
set_option maxHeartbeats 4000000
/-! Heaps that grow; data. -/
namespace Lf
open PySem PySem.Spec PyProof.Rows L2
/-- all but lists stay -/
def Solid (H H' : Hp) : Prop := ∀ b o, H b = some o → (∀ xs, o ≠ .lst xs) → H' b = some o
theorem Solid.refl (H : Hp) : Solid H H := fun _ _ h _ => h
theorem Solid.trans {H H1 H2 : Hp} (a : Solid H H1) (b : Solid H1 H2) : Solid H H2 := fun c o h n => b c o (a c o h n) n
theorem Solid.of {H H' : Hp} (e : Same H H') : Solid H H' := fun b o h _ => e b o h
theorem Solid.lst {H : Hp} {l : Addr} {xs ys : List V} (h : H l = some (.lst xs)) : Solid H (upd H l (.lst ys)) := fun b o e n => by
  rw [upd_ne (fun z => by rw [z, h] at e; cases e; exact n xs rfl)]
  exact e
theorem exo_nl {a C : Addr} {d : Option Addr} (xs : List V) : exo a C d ≠ .lst xs := fun z => by
  have z' : HO.ext _ = HO.lst xs := z
  cases z'
theorem exO_nl {a : Addr} {c : Value} (xs : List V) : ExO c a ≠ .lst xs := fun z => by
  have z' : HO.ext _ = HO.lst xs := z
  cases z'
theorem exd_nl {a : Addr} {fs : List (Str × V)} (xs : List V) : exd a fs ≠ .lst xs := fun z => by
  have z' : HO.ext _ = HO.lst xs := z
  cases z'
theorem XAt.solid {H H' : Hp} {a C : Addr} {d : Option Addr} (h : XAt H a C d) (s : Solid H H') : XAt H' a C d := by
  rcases h with h | ⟨e, h⟩
  · exact .inl (s _ _ h exo_nl)
  · exact .inr ⟨e, s _ _ h exO_nl⟩
/-- all but the thing at l stay -/
def But (l : Addr) (H H' : Hp) : Prop := ∀ b o, b ≠ l → H b = some o → H' b = some o
theorem But.refl {l : Addr} {H : Hp} : But l H H := fun _ _ _ h => h
theorem But.trans {l : Addr} {H H1 H2 : Hp} (a : But l H H1) (b : But l H1 H2) : But l H H2 := fun c o n h => b c o n (a c o n h)
theorem But.of {l : Addr} {H H' : Hp} (e : Same H H') : But l H H' := fun b o _ h => e b o h
theorem But.upd {l : Addr} {H : Hp} {o : HO} : But l H (upd H l o) := fun b u n h => by rw [upd_ne n]; exact h
theorem Same.but {l : Addr} {H0 H H' : Hp} (s : Same H0 H) (n : H0 l = none) (b : But l H H') : Same H0 H' := fun c o h => b c o (ne_of_none h n) (s c o h)
theorem SqT.same {K : PySem.W.Frag} {H H' : Hp} {a : Addr} {xs : List V} (e : Same H H') (h : SqT K H a xs) : SqT K H' a xs := by
  rcases h with (h | ⟨o, h⟩) | h
  · exact .inl (.inl (e _ _ h))
  · exact .inl (.inr ⟨o, e _ _ h⟩)
  · exact .inr h
theorem But.solid {l : Addr} {H H' : Hp} {xs : List V} (h : H l = some (.lst xs)) (b : But l H H') : Solid H H' := fun c o e n => b c o (fun z => by rw [z, h] at e; cases e; exact n xs rfl) e
theorem ifT {c : Bool} {A B : Prop} (hc : c = true) (h : A) : if c = true then A else B := by
  rw [if_pos hc]
  exact h
theorem ifF {c : Bool} {A B : Prop} (hc : c = false) (h : B) : if c = true then A else B := by
  rw [hc, if_neg Bool.false_ne_true]
  exact h
theorem pair_get {α β : Type} {F : α → β → Prop} : ∀ {as : List α} {bs : List β} {i : Nat} {a : α}, Paired F as bs → as[i]? = some a → ∃ b, bs[i]? = some b ∧ F a b
  | _, _, _, _, .nil, e => by simp at e
  | _, _, 0, _, .cons r _, e => by simp at e; subst e; exact ⟨_, rfl, r⟩
  | _, _, i + 1, a, .cons _ t, e => by
    obtain ⟨b, h1, h2⟩ := pair_get (i := i) (a := a) t (by simpa using e)
    exact ⟨b, by simpa using h1, h2⟩
theorem take_snoc {α : Type} {l : List α} {i : Nat} {x : α} (h : l[i]? = some x) : l.take (i + 1) = l.take i ++ [x] := by
  obtain ⟨hi, e⟩ := List.getElem?_eq_some_iff.mp h
  rw [← e]
  simp
theorem map_at {α : Type} {f : α → V} {l : List α} {i : Nat} {y : V} (h : (l.map f)[i]? = some y) : ∃ a, l[i]? = some a ∧ y = f a := by
  rw [List.getElem?_map] at h
  cases e : l[i]? with
  | none => rw [e] at h; cases h
  | some a => rw [e] at h; exact ⟨a, rfl, (Option.some.inj h).symm⟩
theorem eqv_same {d : PyData} (h : SeqAt.shaped d = true) : (!PyData.eqv d d) = false := by
  rw [SeqAt.eqv_refl d (SeqAt.canLay_of_shaped h)]
  rfl
mutual
theorem dp_same {K : PySem.W.Frag} {H H' : Hp} (e : Same H H') : ∀ {v : V} {d : PyData}, Dp K H v d → Dp K H' v d
  | _, _, .non => .non
  | _, _, .bl b => .bl b
  | _, _, .int i => .int i
  | _, _, .str x => .str x
  | _, _, .lst h r => .lst (L2.Same.seq e h) (dpAll_same e r)
  | _, _, .tup h r => .tup (SqT.same e h) (dpAll_same e r)
theorem dpAll_same {K : PySem.W.Frag} {H H' : Hp} (e : Same H H') : ∀ {vs : List V} {ds : List PyData}, DpAll K H vs ds → DpAll K H' vs ds
  | _, _, .nil => .nil
  | _, _, .cons h r => .cons (dp_same e h) (dpAll_same e r)
end
end Lf

set_option Elab.async false
set_option linter.all false
set_option maxRecDepth 100000
set_option maxHeartbeats 4000000
/-! Small things that many texts want. -/
namespace Lf
open PySem PySem.Spec PyProof.Rows L2
theorem yesT {σ : L2.St} {H : Hp} {A B : Hp → Prop} (h : A H) : tYes σ H fun b H3 => if b = true then A H3 else B H3 := by
  show if true = true then A H else B H
  rw [if_pos rfl]
  exact h
theorem pe_gstr {X : Cx} {x v : Str} {t : Tok} {pos : Pos} (hg : Gl X x) (hm : X.mg x = some (.str v t)) (hd : (x == ("__debug__" : Str)) = false := by decide +kernel) : PE X (.Name x pos) (tC (.str v)) := pe_glob hg hm ⟨t, rfl⟩ hd
theorem map_get {α β : Type} {f : α → β} {l : List α} {i : Nat} {y : β} (h : (l.map f)[i]? = some y) : ∃ a, l[i]? = some a ∧ y = f a := by
  rw [List.getElem?_map] at h
  cases z : l[i]? with
  | none => rw [z] at h; cases h
  | some a => rw [z] at h; exact ⟨a, rfl, (Option.some.inj h).symm⟩
theorem get_map {α β : Type} {f : α → β} {l : List α} {i : Nat} {a : α} (h : l[i]? = some a) : (l.map f)[i]? = some (f a) := by rw [List.getElem?_map, h]; rfl
theorem get_lt {α : Type} {l : List α} {i : Nat} {a : α} (h : l[i]? = some a) : i < l.length := (List.getElem?_eq_some_iff.mp h).1
theorem lt_get {α : Type} {l : List α} {i : Nat} (h : i < l.length) : ∃ a, l[i]? = some a := ⟨_, List.getElem?_eq_getElem h⟩
theorem nil_of {H H' : Hp} {p : Addr} (s : Same H H') (n : H' p = none) : H p = none := by
  cases e : H p with
  | none => rfl
  | some o => rw [s _ _ e] at n; cases n
theorem But.nil {H H' : Hp} {l p : Addr} (s : But l H H') (np : p ≠ l) (n : H' p = none) : H p = none := by
  cases e : H p with
  | none => rfl
  | some o => rw [s _ _ np e] at n; cases n
theorem tyx_same {K : PySem.W.Frag} {H H' : Hp} {x : V} {t : Value} (e : Same H H') (h : TyX K H x t) : TyX K H' x t := by
  cases h with
  | base b =>
    cases b with
    | non => exact .base .non
    | bl b => exact .base (.bl b)
    | int i => exact .base (.int i)
    | str s => exact .base (.str s)
    | flt f => exact .base (.flt f)
    | lst h => exact .base (.lst (e _ _ h))
    | frz h => exact .base (.frz (e _ _ h))
    | tup h => exact .base (.tup (e _ _ h))
    | dK h => exact .base (.dK (e _ _ h))
    | dT h => exact .base (.dT (e _ _ h))
    | ins h a b c d f => exact .base (.ins (e _ _ h) a b c d f)
  | byt b => exact .byt b
  | set h => exact .set (e _ _ h)
  | kList h c => exact .kList h c
  | kTuple h c => exact .kTuple h c
  | kDict h c => exact .kDict h c
  | fTuple h => exact .fTuple (e _ _ h)
  | fDict h => exact .fDict (e _ _ h)
/-- a number, or what is none -/
inductive NumK (K : PySem.W.Frag) (H : Hp) : V → Option Int → Prop
  | int (i : Int) : NumK K H (.int i) (some i)
  | bl (b : Bool) : NumK K H (.bl b) none
  | oth {x : V} {n : String} (ty : TyX K H x (.type n)) (e : kitB n "int" = some false) : NumK K H x none
theorem NumK.same {K : PySem.W.Frag} {H H' : Hp} {x : V} {o : Option Int} (e : Same H H') (h : NumK K H x o) : NumK K H' x o := by
  cases h with
  | int i => exact .int i
  | bl b => exact .bl b
  | oth t q => exact .oth (tyx_same e t) q
/-- a text, or what is none -/
inductive TxtK (K : PySem.W.Frag) (H : Hp) : V → Option Str → Prop
  | str (z : Str) : TxtK K H (.str z) (some z)
  | oth {x : V} {n : String} (ty : TyX K H x (.type n)) (e : kitB n "str" = some false) : TxtK K H x none
theorem TxtK.same {K : PySem.W.Frag} {H H' : Hp} {x : V} {o : Option Str} (e : Same H H') (h : TxtK K H x o) : TxtK K H' x o := by
  cases h with
  | str i => exact .str i
  | oth t q => exact .oth (tyx_same e t) q
def isTx : Option Str → Bool
  | some _ => true
  | none => false
theorem TxtK.ty {K : PySem.W.Frag} {H : Hp} {x : V} {o : Option Str} (h : TxtK K H x o) : ∃ n, TyX K H x (.type n) ∧ PySem.W.kitOne K (.type n) (.type "str") = some (isTx o) := by
  cases h with
  | str z => exact ⟨_, .base (.str z), kit_ty (show kitB "str" "str" = some true by decide +kernel)⟩
  | oth t q => exact ⟨_, t, kit_ty q⟩
end Lf

set_option Elab.async false
set_option linter.all false
set_option maxRecDepth 100000
set_option maxHeartbeats 4000000
/-! raise X(e) and raise X(e, g) where nothing stands of told; either of two readings; whether a thing is a list or a tuple. -/
namespace Lf
open PySem PySem.Spec PyProof.Rows L2
section
variable (P : Program) (w : World) (K : PySem.W.Frag) (mg : Str → Option Value) (base : Heap)
structure Ini1 (x fl : Str) : Prop where
  g : mg x = some (.ref (He.ga K x))
  c : ErrC K (He.ga K x)
  no : PySem.W.findIn K (.ref (He.ga K x)) fl = some none
  ini : ∃ fI fd, PySem.W.findIn K (.ref (He.ga K x)) "__init__" = some (some (.ref fI)) ∧ PySem.W.typeIn K (.ref fI) = some (.type "function") ∧
    FnOk P w K mg base CX0 1 fI fd ["self", fl] (spIni1 (He.ga K x) fl) ∧ Binds K fd ["self", fl] []
structure Ini2 (x fl gl : Str) : Prop where
  g : mg x = some (.ref (He.ga K x))
  c : ErrC K (He.ga K x)
  no : PySem.W.findIn K (.ref (He.ga K x)) fl = some none
  no2 : PySem.W.findIn K (.ref (He.ga K x)) gl = some none
  ini : ∃ fI fd, PySem.W.findIn K (.ref (He.ga K x)) "__init__" = some (some (.ref fI)) ∧ PySem.W.typeIn K (.ref fI) = some (.type "function") ∧
    FnOk P w K mg base CX0 1 fI fd ["self", fl, gl] (spIni2 (He.ga K x) fl gl) ∧ Binds K fd ["self", fl, gl] []
end
theorem pmk_ini1 {X : Cx} {x fl : Str} {e : Expr} {ta : TE} {p pos : Pos} (E : Ini1 X.prog X.w X.K X.mg X.base x fl) (hr : Room 2 X.A) (hg : Gl X x) (ha : PE X e ta)
    (hdb : (x == ("__debug__" : Str)) = false := by decide) (hs : starEach [e] X.env = (false, eval e X.env) :: starEach [] X.env := by rfl) :
    PMk X (.Call (.Name x p) [e] [] pos) (tMk1 (He.ga X.K x) fl ta) := by
  obtain ⟨fI, fd, i1, i2, F, b⟩ := E.ini
  have M := pmk_oex (X := X) (pos := pos) (p := p) (dvs := []) E.c.o i1 i2 F hr b .nil pass0 hg E.g (pa_cons (PE.up ha) pa_nil hs) hdb hs rfl
  intro pins s σ H Q I h
  refine M pins s σ H Q I ?_
  refine ⟨_, h, fun v H1 k => ⟨(by show 1 ≤ 1000; decide), fun a na => ⟨a, v, rfl, upd_same, fun d nd ne => ?_⟩⟩⟩
  have nd1 : H1 d = none := by rw [upd_ne ne] at nd; exact nd
  refine ⟨rfl, d, [(fl, v)], upd_same, by rw [upd_ne ne]; exact upd_same, nd1, ?_⟩
  refine k d _ nd1 (fun b o q => ?_) upd_same
  have n1 := ne_of_none q na
  have n2 := ne_of_none q nd1
  rw [upd_ne n2, del_ne n1, upd_ne n1, upd_ne n2, upd_ne n1]
  exact q
/-- raise X(e, g) -/
def tMk2 (C : Addr) (fl gl : Str) (ta tb : TE) : L2.St → Hp → XK → Prop := fun σ H Q => ta σ H fun v H1 => tb σ H1 fun u H2 => ∀ d H', H2 d = none → Same H2 H' → H' d = some (.xd [(gl, u), (fl, v)]) → Q (.ref C) (some d) H'
theorem pmk_ini2 {X : Cx} {x fl gl : Str} {e g : Expr} {c : V} {tb : TE} {p pos : Pos} (E : Ini2 X.prog X.w X.K X.mg X.base x fl gl) (hr : Room 2 X.A) (hg : Gl X x) (ha : PE X e (tC c)) (hb : PE X g tb)
    (hdb : (x == ("__debug__" : Str)) = false := by decide) (hs : starEach [e, g] X.env = (false, eval e X.env) :: starEach [g] X.env := by rfl) (hs2 : starEach [g] X.env = (false, eval g X.env) :: starEach [] X.env := by rfl) :
    PMk X (.Call (.Name x p) [e, g] [] pos) (tMk2 (He.ga X.K x) fl gl (tC c) tb) := by
  obtain ⟨fI, fd, i1, i2, F, b⟩ := E.ini
  have M := pmk_oex (X := X) (pos := pos) (p := p) (dvs := []) E.c.o i1 i2 F hr b .nil pass0 hg E.g (pa_cons ha (pa_cons (PE.up hb) pa_nil hs2) hs) hdb hs (by rw [hs2]; rfl)
  intro pins s σ H Q I h
  refine M pins s σ H Q I ?_
  refine ⟨_, h, fun u H1 k => ⟨(by show 2 ≤ 1000; decide), fun a na => ⟨a, c, u, rfl, upd_same, fun d nd ne => ?_⟩⟩⟩
  have nd1 : H1 d = none := by rw [upd_ne ne] at nd; exact nd
  refine ⟨rfl, d, [(gl, u), (fl, c)], by rw [upd_ne ne.symm]; exact upd_same, upd_same, nd1, ?_⟩
  refine k d _ nd1 (fun b o q => ?_) upd_same
  have n1 := ne_of_none q na
  have n2 := ne_of_none q nd1
  rw [upd_ne n2, del_ne n1, upd_ne n2, upd_ne n1, upd_ne n2, upd_ne n1]
  exact q
/-- either of two readings -/
theorem PE.or {X : Cx} {e : Expr} {t t' : TE} (h : PE X e t) (h' : PE X e t') : PE X e (fun σ H Q => t σ H Q ∨ t' σ H Q) := ⟨fun pins s σ H Q I q => by
  rcases q with q | q
  · exact h.run pins s σ H Q I q
  · exact h'.run pins s σ H Q I q⟩
/-- a list or a tuple of things, or what is none -/
inductive SeqK (K : PySem.W.Frag) (H : Hp) : V → Option (List V) → Prop
  | lst {a : Addr} {xs : List V} (h : SqL K H a xs) : SeqK K H (.ref a) (some xs)
  | tup {a : Addr} {xs : List V} (h : SqT K H a xs) : SeqK K H (.ref a) (some xs)
  | oth {x : V} {n : String} (ty : TyX K H x (.type n)) (e1 : kitB n "list" = some false) (e2 : kitB n "tuple" = some false) : SeqK K H x none
theorem SeqK.same {K : PySem.W.Frag} {H H' : Hp} {x : V} {o : Option (List V)} (e : Same H H') (h : SeqK K H x o) : SeqK K H' x o := by
  cases h with
  | lst h => exact .lst (L2.Same.seq e h)
  | tup h => exact .tup (Lf.SqT.same e h)
  | oth t q r => exact .oth (tyx_same e t) q r
theorem tyx_l {K : PySem.W.Frag} {H : Hp} {a : Addr} {xs : List V} (h : SqL K H a xs) : TyX K H (.ref a) (.type "list") := by
  rcases h with (h | ⟨o, h⟩) | ⟨o, its, n, hk, hc, _⟩
  · exact .base (.lst h)
  · exact .base (.frz h)
  · exact .kList hk hc
theorem tyx_t {K : PySem.W.Frag} {H : Hp} {a : Addr} {xs : List V} (h : SqT K H a xs) : TyX K H (.ref a) (.type "tuple") := by
  rcases h with (h | ⟨o, h⟩) | ⟨o, its, n, hk, hc, _⟩
  · exact .base (.tup h)
  · exact .fTuple h
  · exact .kTuple hk hc
theorem SeqK.ty {K : PySem.W.Frag} {H : Hp} {x : V} {o : Option (List V)} (h : SeqK K H x o) : ∃ n, TyX K H x (.type n) ∧ PySem.W.kitAny K (.type n) [.type "list", .type "tuple"] = some o.isSome := by
  cases h with
  | lst h => exact ⟨_, tyx_l h, kitAny_cons (kit_ty (b := "list") (r := true) (by decide +kernel)) (fun h => nomatch h) (fun _ => rfl)⟩
  | tup h => exact ⟨_, tyx_t h, kitAny_cons (kit_ty (b := "list") (r := false) (by decide +kernel)) (fun _ => kitAny_cons (kit_ty (b := "tuple") (r := true) (by decide +kernel)) (fun h => nomatch h) (fun _ => rfl)) (fun h => nomatch h)⟩
  | oth t q r => exact ⟨_, t, kitAny_cons (kit_ty q) (fun _ => kitAny_cons (kit_ty r) (fun _ => rfl) (fun h => nomatch h)) (fun h => nomatch h)⟩
theorem SeqK.len {K : PySem.W.Frag} {H : Hp} {x : V} {ys : List V} (h : SeqK K H x (some ys)) : ∃ a, x = .ref a ∧ (SqL K H a ys ∨ SqT K H a ys) := by
  cases h with
  | lst h => exact ⟨_, rfl, .inl h⟩
  | tup h => exact ⟨_, rfl, .inr h⟩
theorem NumK.list {K : PySem.W.Frag} {H : Hp} {a : Addr} {xs : List V} (h : SqL K H a xs) : NumK K H (.ref a) none := .oth (tyx_l h) (by decide +kernel)
/-- what a for asks of its turns -/
abbrev ForB (J : It) (g : TG) (tb : TS) (D : Ends) (σ : L2.St) (H : Hp) : Prop := ∃ W : Nat → Nat → L2.St → Hp → Prop, (∃ m, W 0 m σ H) ∧ ∀ i m σ H, W i m σ H →
      (J.stop i H ∧ D.nx σ H) ∨ (J.go i H ∧ ∃ N : L2.St → Hp → Prop, (∀ σ' H', N σ' H' → ∃ m', m' < m ∧ W (i + 1) m' σ' H') ∧ ∀ x H', J.yld i H x H' → g x σ H' fun σ2 H2 => tb { D with nx := N, ct := N, bk := D.nx } σ2 H2)
/-- for i, x in enumerate(xs), a list or a tuple that stays -/
theorem for_enum {K : PySem.W.Frag} {r : Addr} {xs : List V} {g : TG} {tb : TS} {D : Ends} {σ : L2.St} {H0 H : Hp} (sq : SqL K H0 r xs ∨ SqT K H0 r xs) (Pv : Nat → L2.St → Hp → Prop) (h0 : Pv 0 σ H) (hG : ∀ i σ' H', i ≤ xs.length → Pv i σ' H' → Same H0 H')
    (hs : ∀ i y σ' H', Pv i σ' H' → xs[i]? = some y → ∀ T, H' T = none → g (.ref T) σ' (upd H' T (.tup [.int (i : Nat), y])) fun σ2 H2 => tb { D with nx := Pv (i + 1), ct := Pv (i + 1), bk := D.nx } σ2 H2) (hd : ∀ σ H, Pv xs.length σ H → D.nx σ H) :
    (SqL K H r xs ∧ ForB (Ite K r) g tb D σ H) ∨ (SqT K H r xs ∧ ForB (Itet K r) g tb D σ H) := by
  rcases sq with sq | sq
  · refine .inl ⟨L2.Same.seq (hG 0 _ _ (Nat.zero_le _) h0) sq, for_it (walk_enumL (K := K) (a := r) (xs := xs)) Pv h0 (fun i σ' H' hi p => L2.Same.seq (hG i σ' H' hi p) sq) ?_ hd⟩
    rintro i x σ' H' H3 hi p ⟨T, y, rfl, nT, rfl, hy⟩
    exact hs i y σ' H' p hy T nT
  · refine .inr ⟨Lf.SqT.same (hG 0 _ _ (Nat.zero_le _) h0) sq, for_it (walk_enumT (K := K) (a := r) (xs := xs)) Pv h0 (fun i σ' H' hi p => Lf.SqT.same (hG i σ' H' hi p) sq) ?_ hd⟩
    rintro i x σ' H' H3 hi p ⟨T, y, rfl, nT, rfl, hy⟩
    exact hs i y σ' H' p hy T nT
end Lf

set_option Elab.async false
set_option linter.all false
set_option maxRecDepth 100000
set_option maxHeartbeats 4000000
/-! for and comprehensions over a list or a tuple, told once. -/
namespace Lf
open PySem PySem.Spec PyProof.Rows L2
def iSeq (K : PySem.W.Frag) (tl : TE) : TI := fun σ H R => tl σ H fun x H1 => ∃ a, x = .ref a ∧ (((∃ xs, SqL K H1 a xs) ∧ R (Itl K a) H1) ∨ ((∃ xs, SqT K H1 a xs) ∧ R (Itt K a) H1))
theorem pi_seq {X : Cx} {tg l : Expr} {tl : TE} (hl : PE X l tl) : PI X tg l (iSeq X.K tl) := by
  refine ⟨fun pins s σ H R I h => ?_⟩
  refine thn (hl.run pins s σ H _ I h) fun v s1 ⟨x, H1, I1, r1, q1⟩ => ?_
  obtain ⟨a, e, q⟩ := q1
  subst e
  cases r1
  rcases q with ⟨⟨xs, hq⟩, q⟩ | ⟨⟨xs, hq⟩, q⟩
  · obtain ⟨its, rv, p, hz⟩ := I1.list hq
    refine wpAny_pyIter_list p.isList ?_
    refine ⟨s1.heap.objs.size, [s1.heap.objs.size], _, _, H1, rfl, I1.kept (t' := s1.toks) fun b o e => Heap.get?_push_of_some _ e, turn_list a _, ⟨_, Heap.get?_push_size _ rfl, rfl, rfl⟩, fun b hb => ?_, q⟩
    have e : b = s1.heap.objs.size := by simpa using hb
    subst e
    exact I1.fpOk (Nat.le_refl _) (I1.hok.fresh (Nat.le_refl _))
  · obtain ⟨its, rv, p, hz⟩ := I1.tuple hq
    refine wpAny_pyIter_tuple (show s1.heap.IsTuple a its.toArray from p) ?_
    refine ⟨s1.heap.objs.size, [s1.heap.objs.size], _, _, H1, rfl, I1.kept (t' := s1.toks) fun b o e => Heap.get?_push_of_some _ e, turn_tuple a _, ⟨_, Heap.get?_push_size _ rfl, rfl, rfl⟩, fun b hb => ?_, q⟩
    have e : b = s1.heap.objs.size := by simpa using hb
    subst e
    exact I1.fpOk (Nat.le_refl _) (I1.hok.fresh (Nat.le_refl _))
theorem for_seq {K : PySem.W.Frag} {a : Addr} {xs : List V} {g : TG} {tb : TS} {D : Ends} {σ : L2.St} {H : Hp} (Pv : Nat → L2.St → Hp → Prop) (h0 : Pv 0 σ H) (hl : ∀ i σ H, i ≤ xs.length → Pv i σ H → SqL K H a xs ∨ SqT K H a xs)
    (st : ∀ i σ' H', i ≤ xs.length → Pv i σ' H' → (SqL K H a xs → SqL K H' a xs) ∧ (SqT K H a xs → SqT K H' a xs))
    (hs : ∀ i x σ H, xs[i]? = some x → Pv i σ H → g x σ H fun σ2 H2 => tb { D with nx := Pv (i + 1), ct := Pv (i + 1), bk := D.nx } σ2 H2) (hd : ∀ σ H, Pv xs.length σ H → D.nx σ H) :
    ((∃ xs, SqL K H a xs) ∧ ForB (Itl K a) g tb D σ H) ∨ ((∃ xs, SqT K H a xs) ∧ ForB (Itt K a) g tb D σ H) := by
  rcases hl 0 _ _ (Nat.zero_le _) h0 with h | h
  · exact .inl ⟨⟨_, h⟩, for_list (K := K) (a := a) (xs := xs) Pv h0 (fun i σ H hi p => (st i σ H hi p).1 h) hs hd⟩
  · exact .inr ⟨⟨_, h⟩, for_tup (K := K) (a := a) (xs := xs) Pv h0 (fun i σ H hi p => (st i σ H hi p).2 h) hs hd⟩
/-- .. that stays -/
theorem for_seqS {K : PySem.W.Frag} {a : Addr} {xs : List V} {g : TG} {tb : TS} {D : Ends} {σ : L2.St} {H0 H : Hp} (sq : SqL K H0 a xs ∨ SqT K H0 a xs) (Pv : Nat → L2.St → Hp → Prop) (h0 : Pv 0 σ H) (hG : ∀ i σ' H', i ≤ xs.length → Pv i σ' H' → Same H0 H')
    (hs : ∀ i x σ H, xs[i]? = some x → Pv i σ H → g x σ H fun σ2 H2 => tb { D with nx := Pv (i + 1), ct := Pv (i + 1), bk := D.nx } σ2 H2) (hd : ∀ σ H, Pv xs.length σ H → D.nx σ H) :
    ((∃ xs, SqL K H a xs) ∧ ForB (Itl K a) g tb D σ H) ∨ ((∃ xs, SqT K H a xs) ∧ ForB (Itt K a) g tb D σ H) := by
  rcases sq with h | h
  · exact .inl ⟨⟨_, L2.Same.seq (hG 0 _ _ (Nat.zero_le _) h0) h⟩, for_list (K := K) (a := a) (xs := xs) Pv h0 (fun i σ H hi p => L2.Same.seq (hG i σ H hi p) h) hs hd⟩
  · exact .inr ⟨⟨_, Lf.SqT.same (hG 0 _ _ (Nat.zero_le _) h0) h⟩, for_tup (K := K) (a := a) (xs := xs) Pv h0 (fun i σ H hi p => Lf.SqT.same (hG i σ H hi p) h) hs hd⟩
end Lf

set_option Elab.async false
set_option linter.all false
set_option maxRecDepth 100000
set_option maxHeartbeats 8000000
/-! A binary operator by an own method, the other operand of any type; != by an own __eq__. -/
namespace Lf
open PySem PySem.Spec PyProof.Rows L2
section
open PySem.W
variable {prog : Program} {w : World} {A : Around} {E : Value → Shared → Prop} {s : Shared} {K : Frag} {x C L f : Addr} {h₀ : Heap} {m : Str → Option Value} {ox : Obj} {od : Option Obj}
/-- what is to be known of the other operand's type -/
structure Side (K : Frag) (C : Addr) (nm : String) (tb : Value) (right py : Bool) : Prop where
  ne : (Value.ref C == tb) = false
  fills : ∀ (M : Model) (h : Heap), K.In h → Looks M h (fillsNumberSlot tb nm) right
  sub : subIn K tb (.ref C) = some false
  inPy : right = true → ∀ (M : Model) (h : Heap), K.In h → Looks M h (numberSlotInPython tb nm) py
  refl : right = true → py = false → ∃ ro, findIn K tb (dunderR nm) = some ro
theorem bin_other {op : Operator} {b tb : Value} {rc : Option Value} {right py : Bool} {Q : Value → Shared → Prop} (F : Fr h₀ L s.heap m) (X₀ : K.In h₀) (I : InstAt s.heap x ox C od) (hc : selfFirst K C = true)
    (hs : findIn K (.ref C) (PySem.dunder op.info.2) = some (some (.ref f))) (hf : isFn K (.ref f) = true) (hr : findIn K (.ref C) (dunderR op.info.2) = some rc) (hp : rc = none ∨ ∃ g : Addr, rc = some (.ref g))
    (Lb : Looks (model prog w) s.heap (typeOf b) tb) (S : Side K C op.info.2 tb right py)
    (h : wpAny (model prog w) A (call (.ref f) [.ref x, b]) (PySem.W.CmpBack Q) E s) : wpAny (model prog w) A (binaryOp op (.ref x) b) Q E s := by
  have X := X₀.keeps F.keep
  obtain ⟨cd, rest, hcd, hm⟩ := ksp_first hc
  rcases hi : op.info with ⟨sym, nm'⟩
  rw [hi] at hs hr S
  dsimp only at hs hr S
  have one := ksp_try X I hs hf h
  obtain ⟨hh, g, d, tt, os⟩ := s
  have L1 : Looks (model prog w) hh (typeOf (.ref x)) (.ref C) := I.type
  have L3 : Looks (model prog w) hh (fillsNumberSlot (.ref C) nm') true := fills_K X hcd hm hs
  have L4 := S.fills (model prog w) hh X
  have L5 : Looks (model prog w) hh (isSubtype tb (.ref C)) false := looks_subIn X S.sub
  have L6 : Looks (model prog w) hh (numberSlotInPython (.ref C) nm') true := ksp_inPy X hs hr hp
  have hne := S.ne
  simp only [binaryOp, hi]
  refine wpAny_holding (wpAny_bind ?_)
  unfold binaryOp1
  refine wpAny_bind (L1.at (wpAny_bind (Lb.at (wpAny_bind (L3.at ?_)))))
  simp only [hne, Bool.false_eq_true, if_false]
  cases right with
  | false =>
    ksp_lk
    refine wpAny_mono one (fun r s' hr' => ?_) fun _ _ e => e
    obtain ⟨v, rfl, hq⟩ := hr'
    ksp_lk
    exact hq
  | true =>
    have L7 := S.inPy rfl (model prog w) hh X
    cases py with
    | true =>
      ksp_lk
      refine wpAny_mono one (fun r s' hr' => ?_) fun _ _ e => e
      obtain ⟨v, rfl, hq⟩ := hr'
      ksp_lk
      exact hq
    | false =>
      obtain ⟨ro, hro⟩ := S.refl rfl rfl
      have L8 : Looks (model prog w) hh (typeLookup tb (dunderR nm')) ro := looks_findIn X hro
      ksp_lk
      refine wpAny_mono one (fun r s' hr' => ?_) fun _ _ e => e
      obtain ⟨v, rfl, hq⟩ := hr'
      ksp_lk
      exact hq
end

/-- what is known of a class C with a method of its own for op -/
structure OwnOp (K : PySem.W.Frag) (C : Addr) (nm : String) (f : Addr) : Prop where
  first : PySem.W.selfFirst K C = true
  find : PySem.W.findIn K (.ref C) (PySem.dunder nm) = some (some (.ref f))
  fn : PySem.W.isFn K (.ref f) = true
  refl : PySem.W.findIn K (.ref C) (dunderR nm) = some none
def RightOf (K : PySem.W.Frag) (C : Addr) (nm : String) (t : Value) : Prop := t = .ref C ∨ ∃ right py, Side K C nm t right py
def rBin (K : PySem.W.Frag) (C : Addr) (nm : String) (sp : Sp) (E : XK) : R2 := fun x y H Q => ∃ a dx fs t, x = .ref a ∧ H a = some (.ins C dx fs) ∧ TyX K H y t ∧ RightOf K C nm t ∧ sp [.ref a, y] H Q E
theorem cmpBack {X : Cx} {pins : List (Addr × Obj)} {σ : L2.St} {Q : VK} {v : Value} {s : Shared} (h : EP X pins σ Q v s) : PySem.W.CmpBack (EP X pins σ Q) v s := by
  cases v with
  | notImplemented =>
    obtain ⟨z, H, I, r, q⟩ := h
    cases z <;> first | (obtain ⟨_, e⟩ := r; cases e; done) | (cases r; done)
  | _ => exact h
theorem op_own {X : Cx} {CX : CXT} {k : Nat} {f C : Addr} {fd : FuncData} {ps : List Str} {sp : Sp} {E : XK} {op : Operator} (O : OwnOp X.K C op.info.2 f) (F : FnOk X.prog X.w X.K X.mg X.base CX k f fd ps sp) (hr : Room k X.A)
    (hb : L2.Binds X.K fd ps []) (hx : Passes CX X E) : OpR X (binaryOp op) (rBin X.K C op.info.2 sp E) := by
  intro pins s σ H x y v u Q I rx ry hq
  obtain ⟨a, dx, fs, t, rfl, ha, ty, rt, h⟩ := hq
  cases rx
  obtain ⟨mA, J, _⟩ := ins_get I.hok ha
  obtain ⟨od, J, _⟩ := J.look
  obtain ⟨m, hF⟩ := I.fr
  obtain ⟨P, Z, hP, _⟩ := kit_of I ry ty
  have Lb := Z.ty (model X.prog X.w) s.heap I.kIn hP
  have run : wpAny (model X.prog X.w) X.A (call (.ref f) [.ref a, u]) (PySem.W.CmpBack (EP X pins σ Q)) X.xe s :=
    wpAny_mono (run_fn (us := [.ref a, u]) (vs := [.ref a, y]) F hr hb .nil hx I (.cons rfl (.cons ry .nil)) h) (fun _ _ q => cmpBack q) fun _ _ e => e
  rcases rt with rfl | ⟨right, py, S⟩
  · exact PySem.W.binop_K hF I.ok.mod.kin J Lb O.first O.find O.fn run
  · exact bin_other hF I.ok.mod.kin J O.first O.find O.fn O.refl (.inl rfl) Lb S run

section
open PySem.W
variable {prog : Program} {w : World} {A : Around} {E : Value → Shared → Prop} {s : Shared} {K : Frag} {x C L f : Addr} {h₀ : Heap} {m : Str → Option Value} {ox : Obj} {od : Option Obj}
theorem slotNe : PySem.Slot "object" "__ne__" "object.__ne__" := PySem.F.slot_object_ne
theorem ifBound_ne {b : Value} {Q : Option Value → Shared → Prop} (X : K.In s.heap) (I : InstAt s.heap x ox C od) (hf : findIn K (.ref C) "__ne__" = some (some (.builtin "object.__ne__")))
    (h : wpAny (model prog w) A (call (.builtin "object.__ne__") [.ref x, b]) (fun v => Q (some v)) E s) : wpAny (model prog w) A (callSpecialIfBound? (.ref x) "__ne__" [b]) Q E s := by
  simp only [callSpecialIfBound?, bindSpecialIfBound?]
  refine wpAny_holding (wpAny_bind (wpAny_bind (wpAny_bind (I.type.here ((looks_findIn X hf).here ?_)))))
  refine wpAny_bind (wpAny_askSetting (wpAny_ite ?_))
  have fin : wpAny (model prog w) A (call (.builtin "object.__ne__") ([.ref x] ++ [b]) >>= fun v => pure (some v)) Q E s := wpAny_bind (wpAny_mono h (fun v s' h' => wpAny_pure h') fun _ _ h' => h')
  rw [slotNe.bind]
  split
  · exact wpAny_bind (wpAny_pure (wpAny_pure (by exact fin)))
  · exact wpAny_tryCatch (wpAny_bind (wpAny_pure (wpAny_pure (by exact fin))))
theorem ne_body {b : Value} {Q : Fin → Shared → Prop} (hu : A.units < cLine) (X : K.In s.heap) (I : InstAt s.heap x ox C od) (hs : findIn K (.ref C) "__eq__" = some (some (.ref f))) (hf : isFn K (.ref f) = true)
    (h : wpAny (model prog w) A (call (.ref f) [.ref x, b]) (fun v s' => ∃ r, v = .bool r ∧ Q (.done (.ret (.bool (!r)))) s') E s) : wpAny (model prog w) A (Builtin.«object.__ne__» ⟨[.ref x, b], []⟩) Q E s := by
  unfold Builtin.«object.__ne__»
  refine wpAny_bind (wpAny_pure ?_)
  refine wpAny_bind (wpAny_cRoomFor hu ?_)
  refine wpAny_bind (ifBound_K X I hs hf (wpAny_mono h (fun v s' hv => ?_) fun _ _ e => e))
  obtain ⟨r, rfl, q⟩ := hv
  exact wpAny_bind (wpAny_truthy_bool (wpAny_pure q))

theorem call_ne {b : Value} {Q : Value → Shared → Prop} (hu : A.in1.units < cLine) (X : K.In s.heap) (I : InstAt s.heap x ox C od) (ho : subIn K (.ref C) (.type "object") = some true) (hs : findIn K (.ref C) "__eq__" = some (some (.ref f))) (hf : isFn K (.ref f) = true)
    (h : wpAny (model prog w) A.in1 (call (.ref f) [.ref x, b]) (fun v s' => ∃ r, v = .bool r ∧ Q (.bool (!r)) s') E s) : wpAny (model prog w) A (call (.builtin "object.__ne__") [.ref x, b]) Q E s := by
  refine wpAny_call (codeAny_call_builtin slotNe.plain PySem.F.cmpEntry_ne ?_)
  refine PySem.W.check_slot PySem.F.cmpKind_ne PySem.F.cmpSplit_ne (I.type.andThen (looks_subIn X ho)) (PySem.F.cmpArgs_ne _ _) ?_
  refine ne_body hu X I hs hf (wpAny_mono h (fun v s' hv => ?_) fun _ _ e => e)
  obtain ⟨r, rfl, q⟩ := hv
  exact ⟨r, rfl, q⟩
theorem rc_ne {b tb : Value} {Q : Value → Shared → Prop} (hu : A.units + 1 < cLine) (F : Fr h₀ L s.heap m) (X₀ : K.In h₀) (I : InstAt s.heap x ox C od) (hb : Looks (model prog w) s.heap (typeOf b) tb) (hn : notFirst K C tb = true) (ho : subIn K (.ref C) (.type "object") = some true)
    (hne : findIn K (.ref C) "__ne__" = some (some (.builtin "object.__ne__"))) (hs : findIn K (.ref C) "__eq__" = some (some (.ref f))) (hf : isFn K (.ref f) = true)
    (h : wpAny (model prog w) A.in1 (call (.ref f) [.ref x, b]) (fun v s' => ∃ r, v = .bool r ∧ Q (.bool (!r)) s') E s) : wpAny (model prog w) A (richCompare .NotEq (.ref x) b) Q E s := by
  have X := X₀.keeps F.keep
  have one : wpAny (model prog w) A (tryCompare (.ref x) "__ne__" b) (fun r s' => ∃ v, r = some v ∧ Q v s') E s := by
    unfold tryCompare
    refine wpAny_bind (ifBound_ne X I hne (call_ne hu X I ho hs hf (wpAny_mono h (fun v s' hv => ?_) fun _ _ e => e)))
    obtain ⟨r, rfl, q⟩ := hv
    exact ⟨r, rfl, wpAny_pure ⟨_, rfl, q⟩⟩
  unfold richCompare
  simp only [oneThing_ref]
  refine wpAny_holding (wpAny_bind (wpAny_cRoomFor (Nat.lt_of_succ_lt hu) ?_))
  refine wpAny_bind (I.type.here (wpAny_bind (hb.here ?_)))
  split
  · rename_i q
    have e : subIn K tb (.ref C) = some false := by
      rcases Bool.or_eq_true_iff.mp hn with e | e
      · rw [beq_iff_eq.mp e] at q; simp at q
      · exact beq_iff_eq.mp e
    refine wpAny_bind ((looks_subIn X e).here ?_)
    simp only [Bool.false_eq_true, if_false]
    refine wpAny_bind (wpAny_mono one (fun r s' z => ?_) fun _ _ e => e)
    obtain ⟨v, rfl, hq⟩ := z
    exact wpAny_pure hq
  · refine wpAny_bind (wpAny_pure ?_)
    simp only [Bool.false_eq_true, if_false]
    refine wpAny_bind (wpAny_mono one (fun r s' z => ?_) fun _ _ e => e)
    obtain ⟨v, rfl, hq⟩ := z
    exact wpAny_pure hq
end
/-- a function's promise kept below the running body -/
theorem run_sub {X : Cx} {CX : CXT} {k : Nat} {f : Addr} {fd : FuncData} {ps : List Str} {sp : Sp} {E : XK} {A : Around} (F : FnOk X.prog X.w X.K X.mg X.base CX k f fd ps sp) (sb : Sub X k A) (hb : L2.Binds X.K fd ps []) (hx : Passes CX X E)
    {pins : List (Addr × Obj)} {σ : L2.St} {H : Hp} {s : Shared} {Q : VK} {us : List Value} {vs : List V} (I : L2.Inv X pins σ H s) (r : Vals vs us) (h : sp vs H Q E) : wpAny (model X.prog X.w) A (call (.ref f) us) (EP X pins σ Q) X.xe s := by
  have hl := F.len _ _ _ _ h
  have e0 : Env0 X.prog X.w X.K X.mg X.base A X.stack s H := by
    have e := I.env0
    exact ⟨by rw [sb.fr]; exact e.frames, e.mod, e.bs, e.bsz, e.funs, e.frf, e.hok, e.bare⟩
  have hl2 : us.length = ps.length := by rw [← r.length]; exact hl
  refine wpAny_call (codeAny_mono (F.run A X.stack s H ⟨us, []⟩ us vs Q E sb.room e0 (by
    have := hb s us I.kIn (by simpa using hl2)
    simpa using this) r h) fun r s' hq => ?_)
  cases r with
  | error e => exact hx pins σ H s e s' I hq
  | ok fl =>
    cases fl with
    | ret u => exact I.after hq
    | next => exact False.elim hq
    | brk => exact False.elim hq
    | cont => exact False.elim hq
/-- what is known of a class with an own == and no own != -/
structure OwnEq (K : PySem.W.Frag) (C f : Addr) : Prop where
  eq : PySem.W.findIn K (.ref C) "__eq__" = some (some (.ref f))
  fn : PySem.W.isFn K (.ref f) = true
  ne : PySem.W.findIn K (.ref C) "__ne__" = some (some (.builtin "object.__ne__"))
  obj : PySem.W.subIn K (.ref C) (.type "object") = some true
/-- x == y of an instance x of C and any y whose class doesn't descend from C -/
def rOwnEq (K : PySem.W.Frag) (C : Addr) (sp : Sp) (E : XK) : R2 := fun x y H Q => ∃ a dx fs t, x = .ref a ∧ H a = some (.ins C dx fs) ∧ TyX K H y t ∧ PySem.W.notFirst K C t = true ∧ sp [.ref a, y] H Q E
def rOwnNe (K : PySem.W.Frag) (C : Addr) (sp : Sp) (E : XK) : R2 := fun x y H Q => ∃ a dx fs t, x = .ref a ∧ H a = some (.ins C dx fs) ∧ TyX K H y t ∧ PySem.W.notFirst K C t = true ∧ sp [.ref a, y] H (fun v H' => ∃ b, v = .bl b ∧ Q (.bl (!b)) H') E
section
variable {X : Cx} {CX : CXT} {k : Nat} {f C : Addr} {fd : FuncData} {ps : List Str} {sp : Sp} {E : XK}
theorem op_ownEq (O : OwnEq X.K C f) (F : FnOk X.prog X.w X.K X.mg X.base CX k f fd ps sp) (hr : Room k X.A) (hb : L2.Binds X.K fd ps []) (hx : Passes CX X E) : OpR X (compareOp .Eq) (rOwnEq X.K C sp E) := by
  intro pins s σ H x y v u Q I rx ry hq
  obtain ⟨a, dx, fs, t, rfl, ha, ty, nf, h⟩ := hq
  cases rx
  obtain ⟨mA, J, _⟩ := ins_get I.hok ha
  obtain ⟨od, J, _⟩ := J.look
  obtain ⟨m, hF⟩ := I.fr
  obtain ⟨P, Z, hP, _⟩ := kit_of I ry ty
  have run : wpAny (model X.prog X.w) X.A (call (.ref f) [.ref a, u]) (PySem.W.CmpBack (EP X pins σ Q)) X.xe s :=
    wpAny_mono (run_fn (us := [.ref a, u]) (vs := [.ref a, y]) F hr hb .nil hx I (.cons rfl (.cons ry .nil)) h) (fun _ _ q => cmpBack q) fun _ _ e => e
  show wpAny (model X.prog X.w) X.A (richCompare .Eq (.ref a) u) (EP X pins σ Q) X.xe s
  exact PySem.W.cmp_K (op := .Eq) hr.units0 hF I.ok.mod.kin J (Z.ty _ s.heap I.kIn hP) nf O.eq O.fn run
theorem op_ownNe (O : OwnEq X.K C f) (F : FnOk X.prog X.w X.K X.mg X.base CX k f fd ps sp) (hr : Room (k + 1) X.A) (hb : L2.Binds X.K fd ps []) (hx : Passes CX X E) : OpR X (compareOp .NotEq) (rOwnNe X.K C sp E) := by
  intro pins s σ H x y v u Q I rx ry hq
  obtain ⟨a, dx, fs, t, rfl, ha, ty, nf, h⟩ := hq
  cases rx
  obtain ⟨mA, J, _⟩ := ins_get I.hok ha
  obtain ⟨od, J, _⟩ := J.look
  obtain ⟨m, hF⟩ := I.fr
  obtain ⟨P, Z, hP, _⟩ := kit_of I ry ty
  have sb : Sub X k X.A.in1 := ⟨hr.in1, rfl⟩
  have run : wpAny (model X.prog X.w) X.A.in1 (call (.ref f) [.ref a, u]) (fun v s' => ∃ r, v = .bool r ∧ EP X pins σ Q (.bool (!r)) s') X.xe s :=
    wpAny_mono (run_sub (us := [.ref a, u]) (vs := [.ref a, y]) F sb hb hx I (.cons rfl (.cons ry .nil)) h) (fun v s' q => by
      obtain ⟨z, H', I', r, b, rfl, q⟩ := q
      cases r
      exact ⟨b, rfl, .bl (!b), H', I', rfl, q⟩) fun _ _ e => e
  show wpAny (model X.prog X.w) X.A (richCompare .NotEq (.ref a) u) (EP X pins σ Q) X.xe s
  exact rc_ne hr.in1.units0 hF I.ok.mod.kin J (Z.ty _ s.heap I.kIn hP) nf O.obj O.ne O.eq O.fn run
end

theorem dunder_mul : PySem.dunder "mul" = ("__mul__" : Str) := by decide +kernel
/-- what a head says of an own class with *, == and no reflected *, no != -/
def opsB (K : PySem.W.Frag) (owns : List Addr) (C : Addr) : Bool :=
  PySem.W.selfFirst K C && (decide (PySem.W.findIn K (.ref C) (dunderR "mul") = some none) && (decide (PySem.W.findIn K (.ref C) "__ne__" = some (some (.builtin "object.__ne__"))) && (decide (PySem.W.subIn K (.ref C) (.type "object") = some true) &&
  ((["NoneType", "int", "bool", "str", "list", "tuple"].all fun b => decide (PySem.W.subIn K (.type b) (.ref C) = some false)) && (owns.all fun D => decide (PySem.W.subIn K (.ref D) (.ref C) = some (decide (D = C))))))))
structure Ops (K : PySem.W.Frag) (owns : List Addr) (C : Addr) : Prop where
  first : PySem.W.selfFirst K C = true
  rmul : PySem.W.findIn K (.ref C) (dunderR "mul") = some none
  ne : PySem.W.findIn K (.ref C) "__ne__" = some (some (.builtin "object.__ne__"))
  obj : PySem.W.subIn K (.ref C) (.type "object") = some true
  tys : ∀ b ∈ ["NoneType", "int", "bool", "str", "list", "tuple"], PySem.W.subIn K (.type b) (.ref C) = some false
  own : ∀ D ∈ owns, PySem.W.subIn K (.ref D) (.ref C) = some (decide (D = C))
theorem ops_ok {K : PySem.W.Frag} {owns : List Addr} {C : Addr} (h : opsB K owns C = true) : Ops K owns C := by
  unfold opsB at h
  simp only [Bool.and_eq_true, decide_eq_true_eq, List.all_eq_true] at h
  obtain ⟨a, b, c, d, e, f⟩ := h
  exact ⟨a, b, c, d, e, f⟩
section
variable {K : PySem.W.Frag} {owns : List Addr} {C D f g : Addr}
theorem Ops.mul (o : Ops K owns C) (m : Meth K C "__mul__" f) : OwnOp K C "mul" f := ⟨o.first, by rw [dunder_mul]; exact m.at_, m.fn, o.rmul⟩
theorem Ops.eq (o : Ops K owns C) (m : Meth K C "__eq__" f) : OwnEq K C f := ⟨m.at_, m.fn, o.ne, o.obj⟩
theorem right_same : RightOf K C "mul" (.ref C) := .inl rfl
theorem Ops.right (o : Ops K owns C) (o2 : Ops K owns D) (m2 : Meth K D "__mul__" g) (hD : D ∈ owns) (ne : D ≠ C) : RightOf K C "mul" (.ref D) :=
  .inr ⟨true, true, ⟨Bool.eq_false_iff.mpr fun q => ne (by have := beq_iff_eq.mp q; injection this with this; exact this.symm), fun M h X => by
    obtain ⟨cd, rest, hcd, hm⟩ := PySem.W.ksp_first o2.first
    exact PySem.W.fills_K X hcd hm (o2.mul m2).find, by rw [o.own D hD, decide_eq_false ne], fun _ M h X => PySem.W.ksp_inPy X (o2.mul m2).find o2.rmul (.inl rfl), fun _ z => nomatch z⟩⟩
theorem Ops.rightT (o : Ops K owns C) {T : String} {fo ro : Option Value} (hT : T ∈ ["NoneType", "int", "bool", "str", "list", "tuple"]) (h1 : fastLookup T (PySem.dunder "mul") = some fo) (h2 : fastLookup T (dunderR "mul") = some ro) : RightOf K C "mul" (.type T) :=
  .inr ⟨_, false, ⟨Bool.eq_false_iff.mpr fun q => (nomatch beq_iff_eq.mp q), fun M h X => PySem.W.ksp_fillsT X h1 h2, o.tys T hT, fun _ M h X => PySem.W.Looks.of_pure rfl, fun _ _ => ⟨ro, h2⟩⟩⟩
theorem Ops.right_int (o : Ops K owns C) : RightOf K C "mul" (.type "int") := o.rightT (fo := some (.builtin "int.__mul__")) (ro := some (.builtin "int.__rmul__")) (by decide) (by kernel_rfl) (by kernel_rfl)
theorem Ops.right_none (o : Ops K owns C) : RightOf K C "mul" (.type "NoneType") := o.rightT (fo := none) (ro := none) (by decide) (by kernel_rfl) (by kernel_rfl)
theorem Ops.right_tuple (o : Ops K owns C) : RightOf K C "mul" (.type "tuple") := o.rightT (fo := some (.builtin "tuple.__mul__")) (ro := some (.builtin "tuple.__rmul__")) (by decide) (by kernel_rfl) (by kernel_rfl)
theorem Ops.right_list (o : Ops K owns C) : RightOf K C "mul" (.type "list") := o.rightT (fo := some (.builtin "list.__mul__")) (ro := some (.builtin "list.__rmul__")) (by decide) (by kernel_rfl) (by kernel_rfl)
theorem Ops.right_str (o : Ops K owns C) : RightOf K C "mul" (.type "str") := o.rightT (fo := some (.builtin "str.__mul__")) (ro := some (.builtin "str.__rmul__")) (by decide) (by kernel_rfl) (by kernel_rfl)
theorem Ops.notFirst (o : Ops K owns C) (hD : D ∈ owns) : PySem.W.notFirst K C (.ref D) = true := by
  unfold PySem.W.notFirst
  by_cases e : D = C
  · subst e
    simp
  · rw [o.own D hD, decide_eq_false e]
    simp
theorem Ops.notFirstT (o : Ops K owns C) {T : String} (hT : T ∈ ["NoneType", "int", "bool", "str", "list", "tuple"]) : PySem.W.notFirst K C (.type T) = true := by
  unfold PySem.W.notFirst
  rw [o.tys T hT]
  simp
end
end Lf

set_option Elab.async false
set_option linter.all false
set_option maxRecDepth 100000
set_option maxHeartbeats 0
namespace K12
open PySem PySem.Spec PyProof.Rows L2
def top (i : Nat) : Stmt := PySem.Challenge.pw_letterfolds_k12_what_is_a_right_table.main.body.getD i (.Pass ⟨0, 0, 0, 0⟩)
abbrev s_is_number : Stmt := top 3
def d_is_number : He.DefD := ⟨("is_number", none), "is_number", "is_number", defArgs s_is_number, defBody s_is_number, defScope s_is_number, [], []⟩
abbrev s_is_between : Stmt := top 4
def d_is_between : He.DefD := ⟨("is_between", none), "is_between", "is_between", defArgs s_is_between, defBody s_is_between, defScope s_is_between, [], []⟩
abbrev s_is_sequence : Stmt := top 5
def d_is_sequence : He.DefD := ⟨("is_sequence", none), "is_sequence", "is_sequence", defArgs s_is_sequence, defBody s_is_sequence, defScope s_is_sequence, [], []⟩
abbrev s_NoNumber_init : Stmt := inClass (top 8) 0
def d_NoNumber_init : He.DefD := ⟨("NoNumber", some "__init__"), "__init__", "NoNumber.__init__", defArgs s_NoNumber_init, defBody s_NoNumber_init, defScope s_NoNumber_init, [], []⟩
abbrev s_NoMonoid_init : Stmt := inClass (top 9) 0
def d_NoMonoid_init : He.DefD := ⟨("NoMonoid", some "__init__"), "__init__", "NoMonoid.__init__", defArgs s_NoMonoid_init, defBody s_NoMonoid_init, defScope s_NoMonoid_init, [], []⟩
abbrev s_Monoid_init : Stmt := inClass (top 12) 0
def d_Monoid_init : He.DefD := ⟨("Monoid", some "__init__"), "__init__", "Monoid.__init__", defArgs s_Monoid_init, defBody s_Monoid_init, defScope s_Monoid_init, [], []⟩
abbrev s_Monoid_eq : Stmt := inClass (top 12) 1
def d_Monoid_eq : He.DefD := ⟨("Monoid", some "__eq__"), "__eq__", "Monoid.__eq__", defArgs s_Monoid_eq, defBody s_Monoid_eq, defScope s_Monoid_eq, [], []⟩
abbrev s_Monoid_size : Stmt := inClass (top 12) 2
def d_Monoid_size : He.DefD := ⟨("Monoid", some "size"), "size", "Monoid.size", defArgs s_Monoid_size, defBody s_Monoid_size, defScope s_Monoid_size, [], []⟩
abbrev s_Monoid_words : Stmt := inClass (top 12) 3
def d_Monoid_words : He.DefD := ⟨("Monoid", some "words"), "words", "Monoid.words", defArgs s_Monoid_words, defBody s_Monoid_words, defScope s_Monoid_words, [], []⟩
abbrev s_Monoid_left : Stmt := inClass (top 12) 4
def d_Monoid_left : He.DefD := ⟨("Monoid", some "left"), "left", "Monoid.left", defArgs s_Monoid_left, defBody s_Monoid_left, defScope s_Monoid_left, [], []⟩
abbrev s_Monoid_times : Stmt := inClass (top 12) 6
def d_Monoid_times : He.DefD := ⟨("Monoid", some "times"), "times", "Monoid.times", defArgs s_Monoid_times, defBody s_Monoid_times, defScope s_Monoid_times, [], []⟩
abbrev s_Monoid_check_number : Stmt := inClass (top 12) 17
def d_Monoid_check_number : He.DefD := ⟨("Monoid", some "_check_number"), "_check_number", "Monoid._check_number", defArgs s_Monoid_check_number, defBody s_Monoid_check_number, defScope s_Monoid_check_number, [], []⟩
abbrev s_check_form : Stmt := top 13
def d_check_form : He.DefD := ⟨("_check_form", none), "_check_form", "_check_form", defArgs s_check_form, defBody s_check_form, defScope s_check_form, [], []⟩
abbrev s_made_by : Stmt := top 14
def d_made_by : He.DefD := ⟨("_made_by", none), "_made_by", "_made_by", defArgs s_made_by, defBody s_made_by, defScope s_made_by, [], []⟩
abbrev s_left_table : Stmt := top 15
def d_left_table : He.DefD := ⟨("_left_table", none), "_left_table", "_left_table", defArgs s_left_table, defBody s_left_table, defScope s_left_table, [], []⟩
abbrev s_check_products : Stmt := top 16
def d_check_products : He.DefD := ⟨("_check_products", none), "_check_products", "_check_products", defArgs s_check_products, defBody s_check_products, defScope s_check_products, [], []⟩
abbrev s_letters_of : Stmt := top 17
def d_letters_of : He.DefD := ⟨("_letters_of", none), "_letters_of", "_letters_of", defArgs s_letters_of, defBody s_letters_of, defScope s_letters_of, [], []⟩
abbrev s_end : Stmt := top 18
def d_end : He.DefD := ⟨("_end", none), "_end", "_end", defArgs s_end, defBody s_end, defScope s_end, [], []⟩
abbrev s_L_source : Stmt := top 20
def d_L_source : He.DefD := ⟨("_law_source", none), "_law_source", "_law_source", defArgs s_L_source, defBody s_L_source, defScope s_L_source, [], []⟩
abbrev s_L_draw : Stmt := top 21
def d_L_draw : He.DefD := ⟨("_law_draw", none), "_law_draw", "_law_draw", defArgs s_L_draw, defBody s_L_draw, defScope s_L_draw, [], []⟩
abbrev s_L_pick : Stmt := top 22
def d_L_pick : He.DefD := ⟨("_law_pick", none), "_law_pick", "_law_pick", defArgs s_L_pick, defBody s_L_pick, defScope s_L_pick, [], []⟩
abbrev s_L_maps : Stmt := top 23
def d_L_maps : He.DefD := ⟨("_law_maps", none), "_law_maps", "_law_maps", defArgs s_L_maps, defBody s_L_maps, defScope s_L_maps, [], []⟩
abbrev s_L_table : Stmt := top 24
def d_L_table : He.DefD := ⟨("_law_table", none), "_law_table", "_law_table", defArgs s_L_table, defBody s_L_table, defScope s_L_table, [], []⟩
abbrev s_L_form_due : Stmt := top 25
def d_L_form_due : He.DefD := ⟨("_law_form_due", none), "_law_form_due", "_law_form_due", defArgs s_L_form_due, defBody s_L_form_due, defScope s_L_form_due, [], []⟩
abbrev s_L_order_due : Stmt := top 26
def d_L_order_due : He.DefD := ⟨("_law_order_due", none), "_law_order_due", "_law_order_due", defArgs s_L_order_due, defBody s_L_order_due, defScope s_L_order_due, [], []⟩
abbrev s_L_lefts : Stmt := top 27
def d_L_lefts : He.DefD := ⟨("_law_lefts", none), "_law_lefts", "_law_lefts", defArgs s_L_lefts, defBody s_L_lefts, defScope s_L_lefts, [], []⟩
abbrev s_L_product_due : Stmt := top 28
def d_L_product_due : He.DefD := ⟨("_law_product_due", none), "_law_product_due", "_law_product_due", defArgs s_L_product_due, defBody s_L_product_due, defScope s_L_product_due, [], []⟩
abbrev s_L_due : Stmt := top 29
def d_L_due : He.DefD := ⟨("_law_due", none), "_law_due", "_law_due", defArgs s_L_due, defBody s_L_due, defScope s_L_due, [], []⟩
abbrev s_L_heard : Stmt := top 30
def d_L_heard : He.DefD := ⟨("_law_heard", none), "_law_heard", "_law_heard", defArgs s_L_heard, defBody s_L_heard, defScope s_L_heard, [], []⟩
abbrev s_L_is_associative : Stmt := top 31
def d_L_is_associative : He.DefD := ⟨("_law_is_associative", none), "_law_is_associative", "_law_is_associative", defArgs s_L_is_associative, defBody s_L_is_associative, defScope s_L_is_associative, [], []⟩
abbrev s_L_changed : Stmt := top 32
def d_L_changed : He.DefD := ⟨("_law_changed", none), "_law_changed", "_law_changed", defArgs s_L_changed, defBody s_L_changed, defScope s_L_changed, [], []⟩
abbrev s_L_spoilt : Stmt := top 33
def d_L_spoilt : He.DefD := ⟨("_law_spoilt", none), "_law_spoilt", "_law_spoilt", defArgs s_L_spoilt, defBody s_L_spoilt, defScope s_L_spoilt, [], []⟩
abbrev s_L_right : Stmt := top 34
def d_L_right : He.DefD := ⟨("_law_right", none), "_law_right", "_law_right", defArgs s_L_right, defBody s_L_right, defScope s_L_right, [], []⟩
abbrev s_law : Stmt := top 35
def d_law : He.DefD := ⟨("law", none), "law", "law", defArgs s_law, defBody s_law, defScope s_law, [], []⟩
def fn : List He.DefD := [d_is_number, d_is_between, d_is_sequence, d_NoNumber_init, d_NoMonoid_init, d_Monoid_init, d_Monoid_eq, d_Monoid_size, d_Monoid_words, d_Monoid_left, d_Monoid_times, d_Monoid_check_number, d_check_form, d_made_by, d_left_table, d_check_products, d_letters_of, d_end, d_L_source, d_L_draw, d_L_pick, d_L_maps, d_L_table, d_L_form_due, d_L_order_due, d_L_lefts, d_L_product_due, d_L_due, d_L_heard, d_L_is_associative, d_L_changed, d_L_spoilt, d_L_right, d_law]
def fa : List He.Fa := [.glo "FoldError", .glo "NoNumber", .glo "NoMonoid", .glo "Monoid", .glo "is_number", .glo "is_between", .glo "is_sequence", .glo "_check_form", .glo "_made_by", .glo "_left_table", .glo "_check_products", .glo "_letters_of", .glo "_end", .glo "_law_source", .glo "_law_draw", .glo "_law_pick", .glo "_law_maps", .glo "_law_table", .glo "_law_form_due", .glo "_law_order_due", .glo "_law_lefts", .glo "_law_product_due", .glo "_law_due", .glo "_law_heard", .glo "_law_is_associative", .glo "_law_changed", .glo "_law_spoilt", .glo "_law_right", .glo "law", .int "MOST_SIZE" 2000, .str "LETTERS" "abcdef", .free "ValueError", .free "abs", .free "all", .free "bool", .free "enumerate", .free "int", .free "isinstance", .free "len", .free "list", .free "range", .free "tuple", .free "zip", .cls "Monoid", .mkr "Monoid", .meth "Monoid" "__eq__", .meth "Monoid" "size", .meth "Monoid" "words", .meth "Monoid" "left", .meth "Monoid" "times", .meth "Monoid" "_check_number", .noat "Monoid" "right", .noat "Monoid" "_made", .noat "Monoid" "_left", .exm "NoNumber" "FoldError" true, .exm "NoNumber" "NoNumber" true, .exm "NoNumber" "NoMonoid" false, .exm "NoMonoid" "FoldError" true, .exm "NoMonoid" "NoNumber" false, .exm "NoMonoid" "NoMonoid" true]
def inis : List (Str × List Str) := [("NoNumber", ["number"]), ("NoMonoid", ["what", "place"])]
def bares : List Str := []
def owns : List Str := ["Monoid"]
def opsl : List Str := ["Monoid"]
def iniB (K : PySem.W.Frag) (p : Str × List Str) : Bool := Lf.errB K (He.ga K p.1) && (decide (PySem.W.findIn K (.ref (He.ga K p.1)) "__init__" = some (some (.ref (He.ma K (He.ga K p.1) "__init__")))) &&
  (decide (PySem.W.typeIn K (.ref (He.ma K (He.ga K p.1) "__init__")) = some (.type "function")) && (p.2.all fun f => decide (PySem.W.findIn K (.ref (He.ga K p.1)) f = some none))))
def isB (K : PySem.W.Frag) (x : Str) : Bool := decide (PySem.W.kitOne K (.ref (He.ga K x)) (.ref (He.ga K "FoldError")) = some true)
/-- an own class among all: what isinstance says of its instances, and of others -/
def ownB (K : PySem.W.Frag) (x : Str) : Bool := decide (PySem.W.findIn K (.ref (He.ga K x)) "__class__" = some (some (.builtin "object.__class__"))) && (decide (PySem.W.specialIn K (.builtin "object.__class__") "__get__" = some (some (.builtin "getset_descriptor.__get__"))) &&
  (decide (PySem.W.takesIn K (.builtin "object.__class__") = some true) && (decide (PySem.W.mroIn K (He.ga K x) (.type "object") = some true) &&
  ((["int", "bool", "str", "list", "tuple"].all fun b => decide (PySem.W.kitOne K (.ref (He.ga K x)) (.type b) = some false)) && ((["NoneType", "int", "bool", "str", "list", "tuple", "dict"].all fun b => decide (PySem.W.kitOne K (.type b) (.ref (He.ga K x)) = some false)) &&
  owns.all fun y => decide (PySem.W.kitOne K (.ref (He.ga K x)) (.ref (He.ga K y)) = some (decide (x = y))))))))
def ex (K : PySem.W.Frag) : Bool := (inis.all fun p => iniB K p && isB K p.1) && ((bares.all fun x => Lf.errB K (He.ga K x) && isB K x) && ((owns.all fun x => ownB K x) && opsl.all fun x => Lf.opsB K (owns.map fun y => He.ga K y) (He.ga K x)))
def loose : List Str := (["_wall", "is_number", "is_between", "is_sequence", "FoldError", "NoNumber", "NoMonoid", "Monoid", "_check_form", "_made_by", "_left_table", "_check_products", "_letters_of", "_end", "_law_source", "_law_draw", "_law_pick", "_law_maps", "_law_table", "_law_form_due", "_law_order_due", "_law_lefts", "_law_product_due", "_law_due", "_law_heard", "_law_is_associative", "_law_changed", "_law_spoilt", "_law_right", "LETTERS"] : List Str) ++ (["MOST_SIZE"] : List Str)
def tf : List He.Defn := []
end K12

set_option Elab.async false
set_option linter.all false
set_option maxRecDepth 100000
set_option maxHeartbeats 8000000
namespace K12
open PySem PySem.Spec PyProof.Rows L2 Lf
/-- what the text's top left -/
structure Txt (P : Program) (w : World) (K : PySem.W.Frag) (mg : Str → Option Value) (base : Heap) : Prop where
  d : He.SaysD fa fn K
  m : ex K = true
  gl : ∀ (i : Nat) (x : Str), fa[i]? = some (.glo x) → mg x = some (.ref (He.ga K x))
  fr : ∀ (i : Nat) (x : Str), fa[i]? = some (.free x) → mg x = none
  it : ∀ (i : Nat) (x : Str) (v : Int), fa[i]? = some (.int x v) → ∃ t, mg x = some (.int v t)
  st : ∀ (i : Nat) (x v : Str), fa[i]? = some (.str x v) → ∃ t, mg x = some (.str v t)
def spNum (K : PySem.W.Frag) : Sp := fun vs H Q _ => ∃ x o, vs = [x] ∧ NumK K H x o ∧ Q (.bl o.isSome) H
def btw (lo hi : Int) : Option Int → Bool
  | some i => decide (lo ≤ i) && decide (i ≤ hi)
  | none => false
def spBtw (K : PySem.W.Frag) : Sp := fun vs H Q _ => ∃ x o lo hi, vs = [x, .int lo, .int hi] ∧ NumK K H x o ∧ Q (.bl (btw lo hi o)) H
def inLen (lo hi : Int) : Option (List V) → Bool
  | some xs => decide (lo ≤ (xs.length : Int)) && decide ((xs.length : Int) ≤ hi)
  | none => false
def spSeq (K : PySem.W.Frag) : Sp := fun vs H Q _ => ∃ x o lo hi, vs = [x, .int lo, .int hi] ∧ SeqK K H x o ∧ ∀ H', Same H H' → Q (.bl (inLen lo hi o)) H'
section
variable {P : Program} {w : World} {K : PySem.W.Frag} {mg : Str → Option Value} {base : Heap}
theorem scNum : FnScope ["thing"] ["thing"] (defScope s_is_number) := ⟨rfl, rfl, rfl, by decide +kernel, rfl, by decide +kernel, by decide +kernel⟩
theorem ok_num {f : Addr} {fd : FuncData} {q : Str} (F : FunD K "is_number" q (defArgs s_is_number) (defBody s_is_number) (defScope s_is_number) [] [] f fd) (zI : mg "isinstance" = none) (zi : mg "int" = none) (zb : mg "bool" = none) :
    FnOk P w K mg base CX0 1 f fd ["thing"] (spNum K) := by
  refine F.ok scNum (fun vs H Q E h => ?_) (fun cdv A outer s H vs Q E hr h => ?_)
  · obtain ⟨x, o, rfl, _⟩ := h
    rfl
  · obtain ⟨x, o, rfl, nk, k⟩ := h
    refine ⟨_, PSs.nox (pss_one (ps_ret (pe_and (pe_callB call_isi rfl zI PyProof.Rows.boot_isinstance (pa_cons (pv 0) (pa_cons (pe_bltn (v := .ty "int") rfl zi PyProof.Rows.boot_int rfl) pa_nil)))
      (pe_one (pe_not (pe_callB call_isi rfl zI PyProof.Rows.boot_isinstance (pa_cons (pv 0) (pa_cons (pe_bltn (v := .ty "bool") rfl zb PyProof.Rows.boot_bool rfl) pa_nil)))))))), ?_⟩
    cases nk with
    | int i =>
      refine ⟨_, rfl, _, .ty "int", .type "int", _, true, rfl, .ty _, .base (.int i), kit_ty (show kitB "int" "int" = some true by decide +kernel), _, rfl, ?_⟩
      exact ifT rfl ⟨_, rfl, _, .ty "bool", .type "int", _, false, rfl, .ty _, .base (.int i), kit_ty (show kitB "int" "bool" = some false by decide +kernel), _, rfl, k⟩
    | bl b =>
      refine ⟨_, rfl, _, .ty "int", .type "bool", _, true, rfl, .ty _, .base (.bl b), kit_ty (show kitB "bool" "int" = some true by decide +kernel), _, rfl, ?_⟩
      exact ifT rfl ⟨_, rfl, _, .ty "bool", .type "bool", _, true, rfl, .ty _, .base (.bl b), kit_ty (show kitB "bool" "bool" = some true by decide +kernel), _, rfl, k⟩
    | @oth _ n ty e =>
      refine ⟨_, rfl, _, .ty "int", .type n, _, false, rfl, .ty _, ty, kit_ty e, _, rfl, ?_⟩
      exact ifF rfl k
theorem scBtw : FnScope ["thing", "least", "most"] ["thing", "least", "most"] (defScope s_is_between) := ⟨rfl, rfl, rfl, by decide +kernel, rfl, by decide +kernel, by decide +kernel⟩
theorem ok_btw {f : Addr} {fd : FuncData} {q : Str} (F : FunD K "is_between" q (defArgs s_is_between) (defBody s_is_between) (defScope s_is_between) [] [] f fd) (DN : Def P w K mg base CX0 1 "is_number" ["thing"] (spNum K)) :
    FnOk P w K mg base CX0 2 f fd ["thing", "least", "most"] (spBtw K) := by
  refine F.ok scBtw (fun vs H Q E h => ?_) (fun cdv A outer s H vs Q E hr h => ?_)
  · obtain ⟨x, o, lo, hi, rfl, _⟩ := h
    rfl
  · obtain ⟨x, o, lo, hi, rfl, nk, k⟩ := h
    refine ⟨_, PSs.nox (pss_one (ps_ret (pe_and (pe_def DN hr pass0 rfl (pa_cons (pv 0) pa_nil)) (pe_one (pe_chain op_le op_le (pv 1) (pv 0) (pv 2)))))), ?_⟩
    refine ⟨_, rfl, x, o, rfl, nk, _, rfl, ?_⟩
    cases nk with
    | int i =>
      refine ifT rfl ⟨_, rfl, _, rfl, _, _, rfl, rfl, _, rfl, ?_⟩
      refine ite2 (fun c => ⟨_, rfl, _, _, rfl, rfl, ?_⟩) (fun c => ?_)
      · have z : btw lo hi (some i) = decide (i ≤ hi) := by show (decide (lo ≤ i) && decide (i ≤ hi)) = _; rw [c]; rfl
        rw [z] at k
        exact k
      · have z : btw lo hi (some i) = false := by
          show (decide (lo ≤ i) && decide (i ≤ hi)) = false
          cases h : decide (lo ≤ i) with
          | true => exact absurd h c
          | false => rfl
        rw [z] at k
        exact k
    | bl b => exact ifF rfl k
    | oth ty e => exact ifF rfl k
theorem scSeq : FnScope ["thing", "least", "most"] ["thing", "least", "most"] (defScope s_is_sequence) := ⟨rfl, rfl, rfl, by decide +kernel, rfl, by decide +kernel, by decide +kernel⟩
theorem ok_seq {f : Addr} {fd : FuncData} {q : Str} (F : FunD K "is_sequence" q (defArgs s_is_sequence) (defBody s_is_sequence) (defScope s_is_sequence) [] [] f fd) (zI : mg "isinstance" = none) (zl : mg "list" = none) (zt : mg "tuple" = none) (zn : mg "len" = none) :
    FnOk P w K mg base CX0 1 f fd ["thing", "least", "most"] (spSeq K) := by
  refine F.ok scSeq (fun vs H Q E h => ?_) (fun cdv A outer s H vs Q E hr h => ?_)
  · obtain ⟨x, o, lo, hi, rfl, _⟩ := h
    rfl
  · obtain ⟨x, o, lo, hi, rfl, sq, k⟩ := h
    refine ⟨_, PSs.nox (pss_one (ps_ret (pe_and (pe_callB call_isiT rfl zI PyProof.Rows.boot_isinstance (pa_cons (pv 0) (pa_cons (pe_tup (pa_cons (pe_bltn (v := .ty "list") rfl zl PyProof.Rows.boot_list rfl) (pa_cons (pe_bltn (v := .ty "tuple") rfl zt PyProof.Rows.boot_tuple rfl) pa_nil))) pa_nil)))
      (pe_one (pe_chain op_le op_le (pv 1) (pe_callB call_len_seq rfl zn boot_len (pa_cons (pv 0) pa_nil)) (pv 2)))))), ?_⟩
    refine ⟨_, rfl, (by show 2 ≤ sizeLine; decide), fun p np => ?_⟩
    have sm := same_upd (o := .tup [.ty "list", .ty "tuple"]) np
    have sq' := sq.same sm
    obtain ⟨t, ty, ka⟩ := sq'.ty
    refine ⟨x, p, _, _, _, _, rfl, upd_same, .cons (.ty _) (.cons (.ty _) .nil), ty, ka, _, rfl, ?_⟩
    have kk := k _ sm
    cases o with
    | none => exact ifF rfl kk
    | some xs =>
      obtain ⟨a, rfl, sa⟩ := sq'.len
      refine ifT rfl ⟨_, rfl, _, rfl, a, xs, rfl, sa, _, _, rfl, rfl, _, rfl, ?_⟩
      replace kk : Q (.bl (decide (lo ≤ (xs.length : Int)) && decide ((xs.length : Int) ≤ hi))) _ := kk
      refine ite2 (fun c => ⟨_, rfl, _, _, rfl, rfl, ?_⟩) (fun c => ?_)
      · rw [c] at kk
        exact kk
      · have z : decide (lo ≤ (xs.length : Int)) = false := by
          cases h : decide (lo ≤ (xs.length : Int)) with
          | true => exact absurd h c
          | false => rfl
        rw [z] at kk
        exact kk
end
end K12

set_option Elab.async false
set_option linter.all false
set_option maxRecDepth 100000
set_option maxHeartbeats 8000000
namespace K12
open PySem PySem.Spec PyProof.Rows L2 Lf
/-- a source of draws of which at most n were mixed -/
def Src (H : Hp) (l : Addr) (n : Nat) : Prop := ∃ a b c : Int, H l = some (.lst [.int a, .int b, .int c]) ∧ 0 ≤ a ∧ (0 ≤ b ∧ b < 2147483587) ∧ 0 ≤ c ∧ c ≤ n
theorem yesT {σ : L2.St} {H : Hp} {A B : Hp → Prop} (h : A H) : tYes σ H fun b H3 => if b = true then A H3 else B H3 := by
  show if true = true then A H else B H
  rw [if_pos rfl]
  exact h
theorem Src.up {H : Hp} {l : Addr} {n m : Nat} (h : Src H l n) (e : n ≤ m) : Src H l m := by
  obtain ⟨a, b, c, h1, h2, h3, h4, h5⟩ := h
  exact ⟨a, b, c, h1, h2, h3, h4, by omega⟩
theorem Src.same {H H' : Hp} {l : Addr} {n : Nat} (h : Src H l n) (e : Same H H') : Src H' l n := by
  obtain ⟨a, b, c, h1, h2⟩ := h
  exact ⟨a, b, c, e _ _ h1, h2⟩
theorem great_div {a m : Int} (m0 : 0 < m) (m1 : m ≤ 1000000000000000000000000000000) : CDivW a m := by
  have e : (2 : Nat) ^ 100 = 1267650600228229401496703205376 := by decide +kernel
  refine wide_div (b := 100) m0 ?_ (by decide) (by decide)
  rw [e]
  omega
def spSource : Sp := fun vs H Q _ => ∃ n : Int, vs = [.int n] ∧ ∀ l H', H l = none → Same H H' → Src H' l 0 → Q (.ref l) H'
def spDraw : Sp := fun vs H Q _ => ∃ (l : Addr) (n : Nat) (m : Int), vs = [.ref l, .int m] ∧ Src H l n ∧ n ≤ 1000000 ∧ 0 < m ∧ m ≤ 1000000000000000000000000000000 ∧ ∀ (k : Int) H', 0 ≤ k → k < m → But l H H' → Src H' l (n + 1) → Q (.int k) H'
section
variable {P : Program} {w : World} {K : PySem.W.Frag} {mg : Str → Option Value} {base : Heap}
theorem scSource : FnScope ["_law_cell"] ["_law_cell"] (defScope s_L_source) := ⟨rfl, rfl, rfl, by decide +kernel, rfl, by decide +kernel, by decide +kernel⟩
theorem ok_source {f : Addr} {fd : FuncData} {q : Str} (F : FunD K "_law_source" q (defArgs s_L_source) (defBody s_L_source) (defScope s_L_source) [] [] f fd) (zA : mg "abs" = none) (zI : mg "int" = none) :
    FnOk P w K mg base CX0 1 f fd ["_law_cell"] spSource := by
  refine F.ok scSource (fun vs H Q E h => ?_) (fun cdv A outer s H vs Q E hr h => ?_)
  · obtain ⟨n, rfl, _⟩ := h
    rfl
  · obtain ⟨n, rfl, k⟩ := h
    refine ⟨_, PSs.nox (pss_cons (ps_set (i := 0) scSource.nd rfl (.inl rfl) (pe_callB call_abs rfl zA boot_abs (pa_cons (pv 0) pa_nil)))
      (pss_one (ps_ret (pe_lst (pa_cons (pe_op op_mul (pv 0) (pe_callTy call_int1 rfl zI boot_int (pa_cons (pe_cmpR op_ge (pv 0) (pe_op op_pow pe_int pe_int) (nomark _)) pa_nil)))
        (pa_cons (pe_op op_mod (pe_callTy call_int1 rfl zI boot_int (pa_cons (pv 0) pa_nil)) pe_int)
        (pa_cons pe_int pa_nil))))))), ?_⟩
    refine ⟨_, rfl, n, rfl, ?_⟩
    have nn : 0 ≤ (if n < 0 then -n else n) := by split <;> omega
    generalize (if n < 0 then -n else n) = a at nn ⊢
    refine ⟨_, rfl, _, rfl, 10, 18, rfl, rfl, ⟨by decide, by decide, by decide⟩, a, _, rfl, rfl, .inr ⟨_, rfl, a, _, rfl, rfl, .inr ?_, ?_⟩⟩
    · split <;> decide
    refine ⟨_, rfl, .inl ⟨a, rfl, a, 2147483587, rfl, rfl, (show (0 : Int) < 2147483587 by decide), ?_⟩⟩
    refine ⟨(by show 3 ≤ sizeLine; decide), fun l hl => k l _ hl (same_upd hl) ⟨_, _, _, upd_same, ?_, ?_, by decide, by decide⟩⟩
    · split
      · omega
      · simp
    · constructor <;> omega
theorem scDraw : FnScope ["_law_source_here", "_law_many", "_law_digit", "_law_mixed"] ["_law_source_here", "_law_many"] (defScope s_L_draw) := ⟨rfl, rfl, rfl, by decide +kernel, rfl, by decide +kernel, by decide +kernel⟩
theorem ok_draw {f : Addr} {fd : FuncData} {q : Str} (F : FunD K "_law_draw" q (defArgs s_L_draw) (defBody s_L_draw) (defScope s_L_draw) [] [] f fd) (zI : mg "int" = none) :
    FnOk P w K mg base CX0 1 f fd ["_law_source_here", "_law_many"] spDraw := by
  refine F.ok scDraw (fun vs H Q E h => ?_) (fun cdv A outer s H vs Q E hr h => ?_)
  · obtain ⟨l, n, m, rfl, _⟩ := h
    rfl
  · obtain ⟨l, n, m, rfl, ⟨a, b, c, hl, ha, ⟨hb1, hb2⟩, hc1, hc2⟩, n1, m0, m1, k⟩ := h
    have gI (i : Int) := i
    refine ⟨_, PSs.nox (pss_cons (ps_if (pt_cmpR op_gt (pe_ix ix_list (pv 0) pe_int (fun _ _ => rfl)) pe_int (nomark _))
        (pss_cons (ps_set (i := 2) scDraw.nd rfl (.inl rfl) (pe_op op_mod (pe_callTy call_int1 rfl zI boot_int (pa_cons (pe_ix ix_list (pv 0) pe_int (fun _ _ => rfl)) pa_nil)) (pv 1)))
        (pss_cons (ps_asg (pe_op op_fdivW (pe_ix ix_list (pv 0) pe_int (fun _ _ => rfl)) (pv 1)) (pg_sub (pv 0) pe_int set_list))
        (pss_one (ps_ret (pv 2))))) pss_nil)
      (pss_cons (ps_asg (pe_op op_add (pe_ix ix_list (pv 0) pe_int (fun _ _ => rfl)) pe_int) (pg_sub (pv 0) pe_int set_list))
      (pss_cons (ps_set (i := 3) scDraw.nd rfl (.inl rfl) (pe_op op_mod (pe_callTy call_int1 rfl zI boot_int (pa_cons (pe_op op_mul (pe_op op_add (pe_op op_add (pe_ix ix_list (pv 0) pe_int (fun _ _ => rfl)) (pe_op op_mul pe_int (pe_ix ix_list (pv 0) pe_int (fun _ _ => rfl)))) pe_int) pe_int) pa_nil)) pe_int))
      (pss_cons (ps_set (i := 3) scDraw.nd rfl (.inl rfl) (pe_op op_mod (pe_callTy call_int1 rfl zI boot_int (pa_cons (pe_op op_mul (pv 3) (pe_op op_add (pe_op op_fdiv (pv 3) pe_int) pe_int)) pa_nil)) pe_int))
      (pss_one (ps_ret (pe_op op_mod (pe_callTy call_int1 rfl zI boot_int (pa_cons (pe_op op_fdiv (pe_op op_mod (pe_callTy call_int1 rfl zI boot_int (pa_cons (pe_op op_mul (pv 3) (pe_op op_add (pe_op op_fdiv (pv 3) pe_int) pe_int)) pa_nil)) pe_int) pe_int) pa_nil)) (pv 1)))))))), ?_⟩
    have at0 : atI [V.int a, V.int b, V.int c] 0 = some (.int a) := rfl
    refine ⟨_, rfl, l, _, 0, _, rfl, rfl, SqL.of hl, at0, a, 0, rfl, rfl, _, rfl, ?_⟩
    refine ite2 (fun h0 => ?_) (fun h0 => ?_)
    · refine ⟨_, rfl, l, _, 0, _, rfl, rfl, SqL.of hl, at0, .inl ⟨a, rfl, _, rfl, a, m, rfl, rfl, m0, ?_⟩⟩
      refine ⟨_, rfl, l, _, 0, _, rfl, rfl, SqL.of hl, at0, _, rfl, a, m, rfl, rfl, great_div m0 m1, ?_⟩
      refine ⟨_, rfl, l, _, 0, 0, rfl, rfl, hl, rfl, ?_⟩
      exact ⟨_, rfl, k _ _ (Int.emod_nonneg _ (by omega)) (Int.emod_lt_of_pos _ m0) But.upd ⟨_, b, c, upd_same, Int.ediv_nonneg ha (by omega), ⟨hb1, hb2⟩, hc1, by omega⟩⟩
    · have at2 : atI [V.int a, V.int b, V.int c] 2 = some (.int c) := rfl
      have at1' : atI [V.int a, V.int b, V.int (c + 1)] 1 = some (.int b) := rfl
      have at2' : atI [V.int a, V.int b, V.int (c + 1)] 2 = some (.int (c + 1)) := rfl
      refine ⟨_, rfl, l, _, 2, _, rfl, rfl, SqL.of hl, at2, c, 1, rfl, rfl, _, rfl, l, _, 2, 2, rfl, rfl, hl, rfl, ?_⟩
      have hl' : L2.upd H l (.lst [V.int a, V.int b, V.int (c + 1)]) l = some (.lst [V.int a, V.int b, V.int (c + 1)]) := upd_same
      have bt : But l H (L2.upd H l (.lst [V.int a, V.int b, V.int (c + 1)])) := But.upd
      refine ⟨_, rfl, l, _, 1, _, rfl, rfl, SqL.of hl', at1', _, rfl, l, _, 2, _, rfl, rfl, SqL.of hl', at2', 7919, (c + 1), rfl, rfl, .inl ⟨by omega, by omega⟩, b, _, rfl, rfl, _, 13, rfl, rfl, _, 48271, rfl, rfl, .inl ⟨by omega, by omega⟩, .inl ⟨_, rfl, _, 2147483629, rfl, rfl, (show (0 : Int) < 2147483629 by decide), ?_⟩⟩
      generalize hz : (b + 7919 * (c + 1) + 13) * 48271 = z
      have z1 : 0 ≤ z % 2147483629 := Int.emod_nonneg _ (by decide)
      have z2 : z % 2147483629 < 2147483629 := Int.emod_lt_of_pos _ (by decide)
      obtain ⟨u, hu⟩ : ∃ u, z % 2147483629 = u := ⟨_, rfl⟩
      rw [hu] at z1 z2
      refine ⟨_, rfl, _, rfl, u, 1019, congrArg V.int hu, rfl, ⟨by decide, by decide⟩, _, 69621, rfl, rfl, u, _, congrArg V.int hu, rfl, .inl ⟨by omega, by omega⟩, .inl ⟨_, rfl, _, 2147483579, rfl, rfl, (show (0 : Int) < 2147483579 by decide), ?_⟩⟩
      generalize hy : u * (u / 1019 + 69621) = y
      have y1 : 0 ≤ y % 2147483579 := Int.emod_nonneg _ (by decide)
      have y2 : y % 2147483579 < 2147483579 := Int.emod_lt_of_pos _ (by decide)
      obtain ⟨v, hv⟩ : ∃ v, y % 2147483579 = v := ⟨_, rfl⟩
      rw [hv] at y1 y2
      refine ⟨_, rfl, _, rfl, v, 2003, congrArg V.int hv, rfl, ⟨by decide, by decide⟩, _, 40692, rfl, rfl, v, _, congrArg V.int hv, rfl, .inl ⟨by omega, by omega⟩, .inl ⟨_, rfl, _, 2147483549, rfl, rfl, (show (0 : Int) < 2147483549 by decide), ?_⟩⟩
      refine ⟨_, 3, rfl, rfl, ⟨by decide, by decide⟩, .inl ⟨_, rfl, _, rfl, _, m, rfl, rfl, m0, ?_⟩⟩
      exact k _ _ (Int.emod_nonneg _ (by omega)) (Int.emod_lt_of_pos _ m0) But.upd ⟨a, b, c + 1, upd_same, ha, ⟨hb1, hb2⟩, by omega, by omega⟩
end
end K12

set_option Elab.async false
set_option linter.all false
set_option maxRecDepth 100000
set_option maxHeartbeats 0
namespace K12
open PySem PySem.Spec PyProof.Rows L2
section
variable {P : Program} {w : World} {K : PySem.W.Frag} {mg : Str → Option Value} {base : Heap}
theorem Txt.ini (T : Txt P w K mg base) (i : Nat) {p : Str × List Str} (h : inis[i]? = some p := by rfl) : iniB K p = true ∧ isB K p.1 = true := by
  have z := (He.ba T.m).1
  exact He.ba (List.all_eq_true.mp z p (List.mem_of_getElem? h))
structure IniK (K : PySem.W.Frag) (p : Str × List Str) : Prop where
  c : Lf.ErrC K (He.ga K p.1)
  i : PySem.W.findIn K (.ref (He.ga K p.1)) "__init__" = some (some (.ref (He.ma K (He.ga K p.1) "__init__")))
  t : PySem.W.typeIn K (.ref (He.ma K (He.ga K p.1) "__init__")) = some (.type "function")
  f : ∀ f ∈ p.2, PySem.W.findIn K (.ref (He.ga K p.1)) f = some none
theorem iniB_ok {p : Str × List Str} (h : iniB K p = true) : IniK K p := by
  obtain ⟨h1, h⟩ := He.ba h
  obtain ⟨h2, h⟩ := He.ba h
  obtain ⟨h3, h4⟩ := He.ba h
  exact ⟨Lf.errB_ok h1, of_decide_eq_true h2, of_decide_eq_true h3, fun f hf => of_decide_eq_true (List.all_eq_true.mp h4 f hf)⟩
theorem er_NoNumber (T : Txt P w K mg base) : Lf.Ini1 P w K mg base "NoNumber" "number" := by
  have k : IniK K ("NoNumber", ["number"]) := iniB_ok (T.ini 0).1
  obtain ⟨fd, F⟩ := T.d.def_ 3 (d := d_NoNumber_init) rfl
  have sc : FnScope ["self", "number"] ["self", "number"] d_NoNumber_init.scope := ⟨rfl, rfl, rfl, by decide +kernel, rfl, by decide +kernel, by decide +kernel⟩
  have n0 : PySem.W.findIn K (.ref (He.ga K "NoNumber")) "number" = some none := k.f _ (by simp)
  have o : FnOk P w K mg base CX0 1 (He.fAd K d_NoNumber_init.at_) fd ["self", "number"] (Lf.spIni1 (He.ga K "NoNumber") "number") := Lf.ini1_ok k.c.o n0 F sc
  have b : L2.Binds K fd ["self", "number"] [] := F.bindsN fun _ _ _ _ _ _ us hl => match us, hl with | [_, _], _ => rfl
  have g : mg "NoNumber" = some (.ref (He.ga K "NoNumber")) := T.gl 1 "NoNumber" rfl
  exact ⟨g, k.c, n0, _, fd, k.i, k.t, o, b⟩
theorem er_NoMonoid (T : Txt P w K mg base) : Lf.Ini2 P w K mg base "NoMonoid" "what" "place" := by
  have k : IniK K ("NoMonoid", ["what", "place"]) := iniB_ok (T.ini 1).1
  obtain ⟨fd, F⟩ := T.d.def_ 4 (d := d_NoMonoid_init) rfl
  have sc : FnScope ["self", "what", "place"] ["self", "what", "place"] d_NoMonoid_init.scope := ⟨rfl, rfl, rfl, by decide +kernel, rfl, by decide +kernel, by decide +kernel⟩
  have n0 : PySem.W.findIn K (.ref (He.ga K "NoMonoid")) "what" = some none := k.f _ (by simp)
  have n1 : PySem.W.findIn K (.ref (He.ga K "NoMonoid")) "place" = some none := k.f _ (by simp)
  have o : FnOk P w K mg base CX0 1 (He.fAd K d_NoMonoid_init.at_) fd ["self", "what", "place"] (Lf.spIni2 (He.ga K "NoMonoid") "what" "place") := Lf.ini2_ok k.c.o n0 n1 F sc
  have b : L2.Binds K fd ["self", "what", "place"] [] := F.bindsN fun _ _ _ _ _ _ us hl => match us, hl with | [_, _, _], _ => rfl
  have g : mg "NoMonoid" = some (.ref (He.ga K "NoMonoid")) := T.gl 2 "NoMonoid" rfl
  exact ⟨g, k.c, n0, n1, _, fd, k.i, k.t, o, b⟩
end
end K12

set_option Elab.async false
set_option linter.all false
set_option maxRecDepth 100000
set_option maxHeartbeats 8000000
namespace K12
open PySem PySem.Spec PyProof.Rows L2 Lf
/-- numbers as values -/
abbrev nv (i : Nat) : V := .int (i : Nat)

/-- the rows at r: lists -/
structure RowsL (K : PySem.W.Frag) (H : Hp) (r : Addr) (rows : List (List Nat)) : Prop where
  ex : ∃ as : List Addr, SqL K H r (as.map V.ref) ∧ as.length = rows.length ∧ ∀ (i : Nat) a row, as[i]? = some a → rows[i]? = some row → SqL K H a (row.map nv)
/-- .. tuples -/
structure RowsT (K : PySem.W.Frag) (H : Hp) (r : Addr) (rows : List (List Nat)) : Prop where
  ex : ∃ as : List Addr, SqT K H r (as.map V.ref) ∧ as.length = rows.length ∧ ∀ (i : Nat) a row, as[i]? = some a → rows[i]? = some row → SqT K H a (row.map nv)
theorem RowsL.same {K : PySem.W.Frag} {H H' : Hp} {r : Addr} {rows : List (List Nat)} (h : RowsL K H r rows) (e : Same H H') : RowsL K H' r rows := by
  obtain ⟨as, a, b, c⟩ := h.ex
  exact ⟨as, L2.Same.seq e a, b, fun i x row h1 h2 => L2.Same.seq e (c i x row h1 h2)⟩
theorem RowsT.same {K : PySem.W.Frag} {H H' : Hp} {r : Addr} {rows : List (List Nat)} (h : RowsT K H r rows) (e : Same H H') : RowsT K H' r rows := by
  obtain ⟨as, a, b, c⟩ := h.ex
  exact ⟨as, Lf.SqT.same e a, b, fun i x row h1 h2 => Lf.SqT.same e (c i x row h1 h2)⟩
theorem seq_dec {lo hi : Int} {n : Nat} (a : lo ≤ (n : Int)) (b : (n : Int) ≤ hi) : (decide (lo ≤ (n : Int)) && decide ((n : Int) ≤ hi)) = true := by
  rw [decide_eq_true a, decide_eq_true b]
  rfl
theorem btw_nv {i n : Nat} (h : i < n) : btw 0 ((n : Int) - 1) (some ((i : Nat) : Int)) = true := by
  show (decide ((0 : Int) ≤ (i : Nat)) && decide (((i : Nat) : Int) ≤ (n : Int) - 1)) = true
  rw [decide_eq_true (by omega), decide_eq_true (by omega)]
  rfl
theorem all_true {n : Nat} : (List.replicate n true).all id = true := by
  rw [List.all_eq_true]
  intro x hx
  exact (List.mem_replicate.mp hx).2
/-- the form of a table -/
def Form (rows : List (List Nat)) (w : Nat) : Prop := 1 ≤ rows.length ∧ rows.length ≤ 2000 ∧ 1 ≤ w ∧ w ≤ 6 ∧ ∀ row ∈ rows, row.length = w ∧ ∀ t ∈ row, t < rows.length
/-- what a row holds: its numbers (none: no number), or it is no row -/
abbrev RowD := Option (List (Option Int))
def RowV (K : PySem.W.Frag) (H : Hp) (v : V) : RowD → Prop
  | none => SeqK K H v none
  | some os => ∃ ys, SeqK K H v (some ys) ∧ Paired (NumK K H) ys os
def TabV (K : PySem.W.Frag) (H : Hp) (x : V) : Option (List RowD) → Prop
  | none => SeqK K H x none
  | some rs => ∃ vs, SeqK K H x (some vs) ∧ Paired (RowV K H) vs rs
theorem RowV.same {K : PySem.W.Frag} {H H' : Hp} (e : Same H H') {v : V} {r : RowD} (h : RowV K H v r) : RowV K H' v r := by
  cases r with
  | none => exact SeqK.same e h
  | some os =>
    obtain ⟨ys, h2, h3⟩ := h
    exact ⟨ys, h2.same e, h3.mono fun _ _ z => z.same e⟩
theorem TabV.same {K : PySem.W.Frag} {H H' : Hp} (e : Same H H') {v : V} {r : Option (List RowD)} (h : TabV K H v r) : TabV K H' v r := by
  cases r with
  | none => exact SeqK.same e h
  | some os =>
    obtain ⟨vs, h2, h3⟩ := h
    exact ⟨vs, h2.same e, h3.mono fun _ _ z => z.same e⟩
/-- whether a row has the form, n rows, the first one r0 -/
def rowOk (n : Nat) (r0 : RowD) : RowD → Bool
  | none => false
  | some os => (decide (1 ≤ (os.length : Int)) && decide ((os.length : Int) ≤ 6)) && decide (r0.map List.length = some os.length) && os.all (btw 0 ((n : Int) - 1))
/-- the error that is told -/
def Bad (K : PySem.W.Frag) (H : Hp) (E : XK) (what : Str) (i : Int) : Prop := ∀ d H', H d = none → Same H H' → H' d = some (.xd [("place", .int i), ("what", .str what)]) → E (.ref (He.ga K "NoMonoid")) (some d) H'
theorem Bad.same {K : PySem.W.Frag} {H H2 : Hp} {E : XK} {what : Str} {i : Int} (h : Bad K H E what i) (s : Same H H2) : Bad K H2 E what i := fun d H' nd sd hd => h d H' (nil_of s nd) (s.trans sd) hd
def lenOk (rs : List RowD) : Bool := decide (1 ≤ (rs.length : Int)) && decide ((rs.length : Int) ≤ 2000)
def spForm (K : PySem.W.Frag) : Sp := fun vs H Q E => ∃ x t, vs = [x] ∧ TabV K H x t ∧ ((∀ rs, t = some rs → lenOk rs = false) → Bad K H E "form" (-1)) ∧
  ∀ rs, t = some rs → lenOk rs = true → ((∀ (i : Nat) r, rs[i]? = some r → rowOk rs.length (rs.getD 0 none) r = true) → ∀ H', Same H H' → Q .non H') ∧
    ∀ (i : Nat) r, rs[i]? = some r → (∀ (j : Nat) r', j < i → rs[j]? = some r' → rowOk rs.length (rs.getD 0 none) r' = true) → rowOk rs.length (rs.getD 0 none) r = false → Bad K H E "form" (i : Nat)
abbrev rLenS (K : PySem.W.Frag) : List V → Hp → VK → Prop := fun xs H Q => ∃ p ys, xs = [V.ref p] ∧ (SqL K H p ys ∨ SqT K H p ys) ∧ Q (V.int ys.length) H
abbrev teForm (K : PySem.W.Frag) : TE := fun σ H Q => (tCons (tVar 3) (tCons (tC (.int 0)) (tCons (tOp (rI0 fun i j => .int (i - j)) (tCB (rLenS K) (tCons (tVar 0) tNil)) (tC (.int 1))) tNil))) σ H fun vs H1 => spBtw K vs H1 Q E0
abbrev rIxA (K : PySem.W.Frag) : V → V → Hp → VK → Prop := fun o i H Q => ∃ (p : Addr) (xs : List V) (j : Nat) (v : V), o = .ref p ∧ i = .int (j : Nat) ∧ (SqL K H p xs ∨ SqT K H p xs) ∧ xs[j]? = some v ∧ Q v H
theorem rowOk_some {n : Nat} {r0 : RowD} {os : List (Option Int)} : rowOk n r0 (some os) = ((decide (1 ≤ (os.length : Int)) && decide ((os.length : Int) ≤ 6)) && decide (r0.map List.length = some os.length) && os.all (btw 0 ((n : Int) - 1))) := rfl
section
variable {P : Program} {w : World} {K : PySem.W.Frag} {mg : Str → Option Value} {base : Heap}
theorem scForm : FnScope ["right", "place", "row", "entry"] ["right"] (defScope s_check_form) := ⟨rfl, rfl, rfl, by decide +kernel, rfl, by decide +kernel, by decide +kernel⟩
theorem ok_form {f : Addr} {fd : FuncData} {q : Str} (F : FunD K "_check_form" q (defArgs s_check_form) (defBody s_check_form) (defScope s_check_form) [] [] f fd) (T : Txt P w K mg base)
    (EM : Ini2 P w K mg base "NoMonoid" "what" "place")
    (DS : Def P w K mg base CX0 1 "is_sequence" ["thing", "least", "most"] (spSeq K)) (DB : Def P w K mg base CX0 2 "is_between" ["thing", "least", "most"] (spBtw K)) :
    FnOk P w K mg base (L2.CX P w) 3 f fd ["right"] (spForm K) := by
  obtain ⟨tM, gM⟩ := T.it 29 "MOST_SIZE" 2000 rfl
  obtain ⟨tL, gL⟩ := T.st 30 "LETTERS" "abcdef" rfl
  have zE : mg "enumerate" = none := T.fr 35 "enumerate" rfl
  have zn : mg "len" = none := T.fr 38 "len" rfl
  have za : mg "all" = none := T.fr 33 "all" rfl
  refine F.ok scForm (fun vs H Q E h => ?_) (fun cdv A outer s H vs Q E hr h => ?_)
  · obtain ⟨x, t, rfl, _⟩ := h
    rfl
  · obtain ⟨x, t, rfl, tv, bad0, h⟩ := h
    have r1 : Room 1 _ := hr.mono (by decide)
    refine ⟨_, pss_cons (ps_if (pt_not (pt_val (pe_def DS r1 pass0 rfl (pa_cons (pv 0) (pa_cons pe_int (pa_cons (pe_gint rfl gM) pa_nil)))))) (pss_one (ps_raise rfl (takes_of rfl rfl rfl rfl) (pmk_ini2 EM hr rfl pe_str (pe_un un_neg pe_int)))) pss_nil)
      (pss_one (ps_for (passes_of rfl) rfl (pi_enumA rfl zE (pv 0)) (pg_tup rfl (pgs_cons (pg_name (i := 1) scForm.nd rfl (.inl rfl)) (pgs_cons (pg_name (i := 2) scForm.nd rfl (.inl rfl)) pgs_nil)))
        (pss_cons (ps_if (PW.pt (pw_or (pt_not (pt_val (pe_def DS r1 pass0 rfl (pa_cons (pv 2) (pa_cons pe_int (pa_cons (pe_callB call_len_str rfl zn boot_len (pa_cons (pe_gstr rfl gL) pa_nil)) pa_nil))))))
            (pw_or1 (pt_cmpR op_ne (pe_callB call_len_seq rfl zn boot_len (pa_cons (pv 2) pa_nil)) (pe_callB call_len_seq rfl zn boot_len (pa_cons (pe_ix ix_seq (pv 0) pe_int (fun _ _ => rfl)) pa_nil)) (nomark _))))) (pss_one (ps_raise rfl (takes_of rfl rfl rfl rfl) (pmk_ini2 EM hr rfl pe_str (pv 1)))) pss_nil)
        (pss_one (ps_if (pt_not (pt_val (pe_callB (cr_all rfl) rfl za (by decide +kernel) (pa_cons (PE.or (pe_lc (own := [("entry", 3)]) (g := gName 3) (te := teForm K) (by rfl) scForm.nd (pi_list (pv 2)) (blkOk_by (own := [("entry", 3)]) (N := ["right", "place", "row", "entry"]) (sc := defScope s_check_form) (by decide +kernel)) (fun _ _ _ _ _ => pg_name (i := 3) scForm.nd rfl (Or.inl rfl)) (fun _ _ _ _ _ => pts_nil)
            (fun _ _ _ _ _ => by exact pe_def DB hr pass0 rfl (pa_cons (pv 3) (pa_cons pe_int (pa_cons (pe_op op_sub (pe_callB call_len_seq rfl zn boot_len (pa_cons (pv 0) pa_nil)) pe_int) pa_nil))))) (pe_lc (own := [("entry", 3)]) (g := gName 3) (te := teForm K) (by rfl) scForm.nd (pi_tup (pv 2)) (blkOk_by (own := [("entry", 3)]) (N := ["right", "place", "row", "entry"]) (sc := defScope s_check_form) (by decide +kernel)) (fun _ _ _ _ _ => pg_name (i := 3) scForm.nd rfl (Or.inl rfl)) (fun _ _ _ _ _ => pts_nil)
            (fun _ _ _ _ _ => by exact pe_def DB hr pass0 rfl (pa_cons (pv 3) (pa_cons pe_int (pa_cons (pe_op op_sub (pe_callB call_len_seq rfl zn boot_len (pa_cons (pv 0) pa_nil)) pe_int) pa_nil)))))) pa_nil)))) (pss_one (ps_raise rfl (takes_of rfl rfl rfl rfl) (pmk_ini2 EM hr rfl pe_str (pv 1)))) pss_nil))))), ?_⟩
    cases t with
    | none =>
      have tv' : SeqK K H x none := tv
      exact ⟨_, rfl, x, none, 1, 2000, rfl, tv', fun H1 s1 => ⟨_, rfl, ifT rfl ⟨_, rfl, fun d H' nd sd hd => bad0 (fun _ z => nomatch z) d H' (nil_of s1 nd) (s1.trans sd) hd⟩⟩⟩
    | some rs =>
    obtain ⟨xs, sq, pr⟩ := tv
    have lp := pr.length
    refine ⟨_, rfl, x, some xs, 1, 2000, rfl, sq, fun H1 s1 => ⟨_, rfl, ?_⟩⟩
    have eL : inLen 1 2000 (some xs) = lenOk rs := by
      show (decide (1 ≤ (xs.length : Int)) && decide ((xs.length : Int) ≤ 2000)) = _
      rw [lp]
      rfl
    rw [eL]
    cases hl : lenOk rs with
    | false => exact ifT rfl ⟨_, rfl, fun d H' nd sd hd => bad0 (fun _ z => by cases z; exact hl) d H' (nil_of s1 nd) (s1.trans sd) hd⟩
    | true =>
    refine ifF rfl ?_
    obtain ⟨good, bad⟩ := h rs rfl hl
    obtain ⟨l1, l2⟩ := Bool.and_eq_true_iff.mp hl
    have l1' : 1 ≤ rs.length := by have := of_decide_eq_true l1; omega
    have l2' : rs.length ≤ 2000 := by have := of_decide_eq_true l2; omega
    obtain ⟨r, rfl, sq'⟩ := sq.len
    have bad' : ∀ {Hn : Hp} {i : Nat} {r' : RowD}, Same H Hn → rs[i]? = some r' → (∀ (j : Nat) r', j < i → rs[j]? = some r' → rowOk rs.length (rs.getD 0 none) r' = true) → rowOk rs.length (rs.getD 0 none) r' = false → ∀ d H', Hn d = none → Same Hn H' → H' d = some (.xd [("place", .int (i : Nat)), ("what", .str "form")]) → E (.ref (He.ga K "NoMonoid")) (some d) H' := fun sn hi pre no d H' nd sd hd => bad _ _ hi pre no d H' (nil_of sn nd) (sn.trans sd) hd
    refine ⟨_, rfl, r, xs, rfl, for_enum sq' (fun i σ H2 => ∃ v1 v2 : Option V, σ = [some (.ref r), v1, v2, none] ∧ Same H H2 ∧ ∀ (j : Nat) r', j < i → rs[j]? = some r' → rowOk rs.length (rs.getD 0 none) r' = true) ⟨none, none, rfl, s1, fun _ _ z => absurd z (Nat.not_lt_zero _)⟩ (fun i σ H2 _ ⟨_, _, _, s, _⟩ => s) ?_ ?_⟩
    · rintro i v σ H2 ⟨v1, v2, rfl, s2, pre⟩ hv T' nT
      obtain ⟨r', hr', rv⟩ := pair_get pr hv
      have hi : i < rs.length := get_lt hr'
      refine ⟨T', _, rfl, SqT.of upd_same, rfl, _, _, rfl, _, _, rfl, rfl, ?_⟩
      have s3 := s2.trans (same_upd (o := .tup [.int (i : Nat), v]) nT)
      generalize L2.upd H2 T' (.tup [.int (i : Nat), v]) = H3 at s3 ⊢
      have next : rowOk rs.length (rs.getD 0 none) r' = true → ∀ (j : Nat) r2, j < i + 1 → rs[j]? = some r2 → rowOk rs.length (rs.getD 0 none) r2 = true := fun ok j r2 hj h2 => by
        by_cases z : j < i
        · exact pre j r2 z h2
        · rw [show j = i by omega, hr'] at h2
          cases h2
          exact ok
      cases r' with
      | none =>
        have rv' : SeqK K H v none := rv
        refine ⟨_, rfl, _, rfl, (by decide +kernel), v, none, 1, 6, rfl, rv'.same s3, fun H4 s4 => ⟨_, rfl, ?_⟩⟩
        exact ifT rfl ⟨_, rfl, bad' (s3.trans s4) hr' pre rfl⟩
      | some os =>
        obtain ⟨ys, sa, pn⟩ := rv
        refine ⟨_, rfl, _, rfl, (by decide +kernel), v, some ys, 1, 6, rfl, sa.same s3, fun H4 s4 => ⟨_, rfl, ?_⟩⟩
        have s5 := s3.trans s4
        obtain ⟨a, rfl, sl5⟩ := (sa.same s5).len
        have ly := pn.length
        show (if (!(decide (1 ≤ (ys.length : Int)) && decide ((ys.length : Int) ≤ 6))) = true then _ else _)
        rw [ly]
        cases h6 : decide (1 ≤ (os.length : Int)) && decide ((os.length : Int) ≤ 6) with
        | false => exact ifT rfl ⟨_, rfl, bad' s5 hr' pre (by rw [rowOk_some, h6]; rfl)⟩
        | true =>
        refine ifF rfl ?_
        -- the first row
        obtain ⟨r0, hr0⟩ := lt_get (show 0 < rs.length by omega)
        obtain ⟨v0, hv0, rv0⟩ : ∃ v0, xs[0]? = some v0 ∧ RowV K H v0 r0 := by
          obtain ⟨v0, hv0⟩ := lt_get (show 0 < xs.length by omega)
          obtain ⟨r1, e1, e2⟩ := pair_get pr hv0
          rw [hr0] at e1
          cases e1
          exact ⟨v0, hv0, e2⟩
        have eg : rs.getD 0 none = r0 := by rw [List.getD_eq_getElem?_getD, hr0]; rfl
        have n0 : ∃ os0, r0 = some os0 := by
          cases r0 with
          | some os0 => exact ⟨_, rfl⟩
          | none =>
            by_cases z : i = 0
            · rw [z, hr0] at hr'; cases hr'
            · have := pre 0 none (by omega) hr0
              cases this
        obtain ⟨os0, rfl⟩ := n0
        obtain ⟨ys0, sa0, pn0⟩ := rv0
        obtain ⟨a0, rfl, sl0⟩ := (sa0.same s5).len
        have ly0 := pn0.length
        refine ⟨_, rfl, a, ys, rfl, sl5, _, rfl, ?_⟩
        have ix0 : ∀ {Q : VK}, Q (.ref a0) H4 → rIx K (.ref r) (.int 0) H4 Q := fun {Q} k => by
          rcases sq' with z | z
          · exact .inl ⟨r, xs, 0, _, rfl, rfl, L2.Same.seq s5 z, atI_nat (j := 0) hv0, k⟩
          · exact .inr (.inl ⟨r, xs, 0, _, rfl, rfl, Lf.SqT.same s5 z, atI_nat (j := 0) hv0, k⟩)
        refine ix0 ⟨a0, ys0, rfl, sl0, rfl, _, rfl, ?_⟩
        have eR : rowOk rs.length (rs.getD 0 none) (some os) = (decide ((ys.length : Int) = (ys0.length : Int)) && os.all (btw 0 ((rs.length : Int) - 1))) := by
          rw [rowOk_some, h6, eg, ly, ly0, Bool.true_and]
          congr 1
          refine decide_eq_decide.mpr ⟨fun z => ?_, fun z => ?_⟩
          · have : os0.length = os.length := Option.some.inj z
            omega
          · show some os0.length = some os.length
            rw [show os0.length = os.length by omega]
        by_cases h7' : ys.length = ys0.length
        case neg =>
          have h7 : decide ((ys.length : Int) = (ys0.length : Int)) = false := decide_eq_false (by omega)
          exact ifT (by simp; omega) ⟨_, rfl, bad' s5 hr' pre (by rw [eR, h7]; rfl)⟩
        have h7 : decide ((ys.length : Int) = (ys0.length : Int)) = true := decide_eq_true (by omega)
        refine ifF (by simp [h7']) ?_
        rcases sl5 with sl5 | sl5
        · refine .inl ⟨_, rfl, a, rfl, ⟨_, sl5⟩, fun D nD => ?_⟩
          refine lc_list (K := K) (a := a) (xs := ys) (fun j Hc => But D H4 Hc ∧ Hc D = some (.lst ((os.take j).map fun o => V.bl (btw 0 ((rs.length : Int) - 1) o)))) ⟨But.upd, upd_same⟩ (fun j Hc _ ⟨bc, _⟩ => L2.Same.seq (Same.but (L2.Same.refl _) nD bc) sl5) (fun j z Hc hz ⟨bc, hD⟩ => ?_) (fun Hc ⟨bc, hD⟩ => ?_)
          · obtain ⟨oz, hoz, nz⟩ := pair_get pn hz
            refine ⟨rfl, yesT ?_⟩
            have sc := s5.trans (Same.but (L2.Same.refl _) nD bc)
            have sqc : SqL K Hc r xs ∨ SqT K Hc r xs := by
              rcases sq' with z | z
              · exact .inl (L2.Same.seq sc z)
              · exact .inr (Lf.SqT.same sc z)
            refine ⟨_, rfl, _, rfl, r, xs, rfl, sqc, _, 1, rfl, rfl, z, oz, 0, _, rfl, nz.same sc, ?_⟩
            rw [lp]
            refine ⟨_, hD, ?_, But.trans bc But.upd, ?_⟩
            · rw [List.length_map, List.length_take]
              have := of_decide_eq_true (Bool.and_eq_true_iff.mp h6).2
              show min j os.length < 16777216
              omega
            · rw [upd_same, take_snoc hoz, List.map_append]
              rfl
          · rw [ly, List.take_length] at hD
            have sc := s5.trans (Same.but (L2.Same.refl _) nD bc)
            refine ⟨D, os.map (btw 0 ((rs.length : Int) - 1)), rfl, SqL.of (by rw [List.map_map]; exact hD), ?_⟩
            have ea : (os.map (btw 0 ((rs.length : Int) - 1))).all id = os.all (btw 0 ((rs.length : Int) - 1)) := by
              rw [List.all_map]
              rfl
            rw [ea]
            cases h8 : os.all (btw 0 ((rs.length : Int) - 1)) with
            | false => exact ⟨_, rfl, ifT rfl ⟨_, rfl, bad' sc hr' pre (by rw [eR, h7, h8]; rfl)⟩⟩
            | true =>
              exact ⟨_, rfl, ifF rfl ⟨_, _, rfl, sc, next (by rw [eR, h7, h8]; rfl)⟩⟩
        · refine .inr ⟨_, rfl, a, rfl, ⟨_, sl5⟩, fun D nD => ?_⟩
          refine lc_tup (K := K) (a := a) (xs := ys) (fun j Hc => But D H4 Hc ∧ Hc D = some (.lst ((os.take j).map fun o => V.bl (btw 0 ((rs.length : Int) - 1) o)))) ⟨But.upd, upd_same⟩ (fun j Hc _ ⟨bc, _⟩ => Lf.SqT.same (Same.but (L2.Same.refl _) nD bc) sl5) (fun j z Hc hz ⟨bc, hD⟩ => ?_) (fun Hc ⟨bc, hD⟩ => ?_)
          · obtain ⟨oz, hoz, nz⟩ := pair_get pn hz
            refine ⟨rfl, yesT ?_⟩
            have sc := s5.trans (Same.but (L2.Same.refl _) nD bc)
            have sqc : SqL K Hc r xs ∨ SqT K Hc r xs := by
              rcases sq' with z | z
              · exact .inl (L2.Same.seq sc z)
              · exact .inr (Lf.SqT.same sc z)
            refine ⟨_, rfl, _, rfl, r, xs, rfl, sqc, _, 1, rfl, rfl, z, oz, 0, _, rfl, nz.same sc, ?_⟩
            rw [lp]
            refine ⟨_, hD, ?_, But.trans bc But.upd, ?_⟩
            · rw [List.length_map, List.length_take]
              have := of_decide_eq_true (Bool.and_eq_true_iff.mp h6).2
              show min j os.length < 16777216
              omega
            · rw [upd_same, take_snoc hoz, List.map_append]
              rfl
          · rw [ly, List.take_length] at hD
            have sc := s5.trans (Same.but (L2.Same.refl _) nD bc)
            refine ⟨D, os.map (btw 0 ((rs.length : Int) - 1)), rfl, SqL.of (by rw [List.map_map]; exact hD), ?_⟩
            have ea : (os.map (btw 0 ((rs.length : Int) - 1))).all id = os.all (btw 0 ((rs.length : Int) - 1)) := by
              rw [List.all_map]
              rfl
            rw [ea]
            cases h8 : os.all (btw 0 ((rs.length : Int) - 1)) with
            | false => exact ⟨_, rfl, ifT rfl ⟨_, rfl, bad' sc hr' pre (by rw [eR, h7, h8]; rfl)⟩⟩
            | true =>
              exact ⟨_, rfl, ifF rfl ⟨_, _, rfl, sc, next (by rw [eR, h7, h8]; rfl)⟩⟩
    · rintro σ H2 ⟨v1, v2, rfl, s2, all⟩
      refine good (fun i r' hi => all i r' ?_ hi) _ s2
      rw [lp]
      exact get_lt hi
end
end K12

set_option Elab.async false
set_option linter.all false
set_option maxRecDepth 100000
set_option maxHeartbeats 8000000
namespace K12
open PySem PySem.Spec PyProof.Rows L2 Lf
/-- how the elements are made: a tuple of None and pairs -/
structure MadeT (K : PySem.W.Frag) (H : Hp) (t : Addr) (m : List (Nat × Nat)) : Prop where
  ex : ∃ ps : List Addr, SqT K H t (.non :: ps.map V.ref) ∧ ps.length = m.length ∧ ∀ (k : Nat) a p, ps[k]? = some a → m[k]? = some p → SqT K H a [nv p.1, nv p.2]
theorem MadeT.same {K : PySem.W.Frag} {H H' : Hp} {t : Addr} {m : List (Nat × Nat)} (h : MadeT K H t m) (e : Same H H') : MadeT K H' t m := by
  obtain ⟨ps, a, b, c⟩ := h.ex
  exact ⟨ps, Lf.SqT.same e a, b, fun k x p h1 h2 => Lf.SqT.same e (c k x p h1 h2)⟩
/-- .. the list that grows -/
def MadeL (H : Hp) (M : Addr) (m : List (Nat × Nat)) : Prop := ∃ ps : List Addr, H M = some (.lst (.non :: ps.map V.ref)) ∧ ps.length = m.length ∧ ∀ (k : Nat) a p, ps[k]? = some a → m[k]? = some p → H a = some (.tup [nv p.1, nv p.2])
theorem MadeL.same {H H' : Hp} {M : Addr} {m : List (Nat × Nat)} (h : MadeL H M m) (e : Same H H') : MadeL H' M m := by
  obtain ⟨ps, a, b, c⟩ := h
  exact ⟨ps, e _ _ a, b, fun k x p h1 h2 => e _ _ (c k x p h1 h2)⟩
def spMade (K : PySem.W.Frag) : Sp := fun vs H Q E => ∃ r rows, vs = [.ref r] ∧ RowsT K H r rows ∧ rows.length ≤ 2000 ∧ (∀ row ∈ rows, row.length ≤ 6 ∧ ∀ t ∈ row, t < rows.length) ∧ (∀ m, Mon.madeTab 0 rows [] = some m → ∀ t H', Same H H' → MadeT K H' t m → Q (.ref t) H') ∧
  ∀ i m', i < rows.length → Mon.madeTab 0 (rows.take i) [] = some m' → Mon.madeTab 0 (rows.take (i + 1)) [] = none → Bad K H E "order" (i : Nat)
theorem len_grow {rows : List (List Nat)} {m m' : List (Nat × Nat)} {i : Nat} (h : Mon.madeTab 0 rows [] = some m) (h' : Mon.madeTab 0 (rows.take i) [] = some m') : m'.length ≤ m.length := by
  have e := List.take_append_drop i rows
  rw [← e, Mon.madeTab_app, h', Option.bind_some] at h
  obtain ⟨x, hx, _⟩ := Mon.madeTab_ok h
  rw [hx, List.length_append]
  omega
theorem len_growR {row : List Nat} {m m2 m' : List (Nat × Nat)} {i c : Nat} (h : Mon.madeRow i 0 row m = some m2) (h' : Mon.madeRow i 0 (row.take c) m = some m') : m'.length ≤ m2.length := by
  have e := List.take_append_drop c row
  rw [← e, Mon.madeRow_app, h', Option.bind_some] at h
  obtain ⟨x, hx, _⟩ := Mon.madeRow_ok h
  rw [hx, List.length_append]
  omega
theorem row_none {i : Nat} {row : List Nat} {m m' : List (Nat × Nat)} {c : Nat} (h : Mon.madeRow i 0 (row.take c) m = some m') (n : Mon.madeRow i 0 (row.take (c + 1)) m = none) : Mon.madeRow i 0 row m = none := by
  rw [← List.take_append_drop (c + 1) row, Mon.madeRow_app, n]
  rfl
theorem take_snoc' {α : Type} {l : List α} {i : Nat} {x : α} (h : l[i]? = some x) : l.take (i + 1) = l.take i ++ [x] := take_snoc h
section
variable {P : Program} {w : World} {K : PySem.W.Frag} {mg : Str → Option Value} {base : Heap}
theorem scMade : FnScope ["right", "made", "number", "row", "letter", "reached"] ["right"] (defScope s_made_by) := ⟨rfl, rfl, rfl, by decide +kernel, rfl, by decide +kernel, by decide +kernel⟩
theorem ok_made {f : Addr} {fd : FuncData} {q : Str} (F : FunD K "_made_by" q (defArgs s_made_by) (defBody s_made_by) (defScope s_made_by) [] [] f fd) (T : Txt P w K mg base) (EM : Ini2 P w K mg base "NoMonoid" "what" "place") :
    FnOk P w K mg base (L2.CX P w) 3 f fd ["right"] (spMade K) := by
  have zE : mg "enumerate" = none := T.fr 35 "enumerate" rfl
  have zn : mg "len" = none := T.fr 38 "len" rfl
  have zt : mg "tuple" = none := T.fr 41 "tuple" rfl
  refine F.ok scMade (fun vs H Q E h => ?_) (fun cdv A outer s H vs Q E hr h => ?_)
  · obtain ⟨r, rows, rfl, _⟩ := h
    rfl
  · obtain ⟨r, rows, rfl, R, n2, ent, good, bad⟩ := h
    refine ⟨_, pss_cons (ps_set (i := 1) scMade.nd rfl (.inl rfl) (pe_lst (pa_cons pe_non pa_nil)))
      (pss_cons (ps_for (passes_of rfl) rfl (pi_enumA rfl zE (pv 0)) (pg_tup rfl (pgs_cons (pg_name (i := 2) scMade.nd rfl (.inl rfl)) (pgs_cons (pg_name (i := 3) scMade.nd rfl (.inl rfl)) pgs_nil)))
        (pss_cons (ps_if (pt_cmpR op_ge (pv 2) (pe_callB call_len_seq rfl zn boot_len (pa_cons (pv 1) pa_nil)) (nomark _)) (pss_one (ps_raise rfl (takes_of rfl rfl rfl rfl) (pmk_ini2 EM hr rfl pe_str (pv 2)))) pss_nil)
        (pss_one (ps_for (passes_of rfl) rfl (pi_enumA rfl zE (pv 3)) (pg_tup rfl (pgs_cons (pg_name (i := 4) scMade.nd rfl (.inl rfl)) (pgs_cons (pg_name (i := 5) scMade.nd rfl (.inl rfl)) pgs_nil)))
          (pss_cons (ps_if (pt_cmpR op_gt (pv 5) (pe_callB call_len_seq rfl zn boot_len (pa_cons (pv 1) pa_nil)) (nomark _)) (pss_one (ps_raise rfl (takes_of rfl rfl rfl rfl) (pmk_ini2 EM hr rfl pe_str (pv 2)))) pss_nil)
          (pss_one (ps_if (pt_cmpR op_eq (pv 5) (pe_callB call_len_seq rfl zn boot_len (pa_cons (pv 1) pa_nil)) (nomark _))
            (pss_one (ps_expr (pe_bm PySem.F.plainAttrs_list PySem.F.slot_list_append PySem.F.type_list_append mt_append (pv 1) (pa_cons (pe_tup (pa_cons (pv 2) (pa_cons (pv 4) pa_nil))) pa_nil)))) pss_nil)))))))
      (PSs.nox (pss_one (ps_ret (pe_callTy call_tuple_of rfl zt PyProof.Rows.boot_tuple (pa_cons (pv 1) pa_nil)))))), ?_⟩
    obtain ⟨as, sr, la, srow⟩ := R.ex
    have ln : (as.map V.ref).length = rows.length := by rw [List.length_map, la]
    have bad' : ∀ {Hn : Hp} {i : Nat} {m' : List (Nat × Nat)}, Same H Hn → i < rows.length → Mon.madeTab 0 (rows.take i) [] = some m' → Mon.madeTab 0 (rows.take (i + 1)) [] = none → ∀ d H', Hn d = none → Same Hn H' → H' d = some (.xd [("place", .int (i : Nat)), ("what", .str "order")]) → E (.ref (He.ga K "NoMonoid")) (some d) H' := fun sn hi a b d H' nd sd hd => bad _ _ hi a b d H' (nil_of sn nd) (sn.trans sd) hd
    refine ⟨(by show 1 ≤ sizeLine; decide), fun M nM => ?_⟩
    have s1 := same_upd (o := .lst [V.non]) nM
    have m1 : MadeL (L2.upd H M (.lst [V.non])) M [] := ⟨[], upd_same, rfl, fun k a p h => by simp at h⟩
    generalize L2.upd H M (.lst [V.non]) = H1 at s1 m1 ⊢
    refine ⟨_, rfl, r, as.map V.ref, rfl, for_enum (H0 := H) (.inr sr) (fun i σ H2 => ∃ v2 v3 v4 v5 : Option V, σ = [some (.ref r), some (.ref M), v2, v3, v4, v5] ∧ Same H H2 ∧ ∃ m', Mon.madeTab 0 (rows.take i) [] = some m' ∧ MadeL H2 M m' ∧ m'.length ≤ 2000) ⟨none, none, none, none, rfl, s1, [], by simp [Mon.madeTab], m1, by decide⟩ (fun i σ H2 _ ⟨_, _, _, _, _, s, _⟩ => s) ?_ ?_⟩
    · rintro i y σ H2 ⟨v2, v3, v4, v5, rfl, s2, m', hm', ml, b'⟩ hy T' nT
      obtain ⟨a, ha, rfl⟩ := map_get hy
      have hi2 : i < rows.length := by have := get_lt ha; omega
      obtain ⟨row, hrow⟩ := lt_get hi2
      have sa := srow i a row ha hrow
      obtain ⟨w6, en⟩ := ent row (List.mem_of_getElem? hrow)
      have next : Mon.madeTab 0 (rows.take (i + 1)) [] = if m'.length + 1 ≤ i then none else Mon.madeRow i 0 row m' := by
        rw [take_snoc' hrow, Mon.madeTab_snoc, hm', Option.bind_some, List.length_take, Nat.min_eq_left (Nat.le_of_lt hi2), Nat.zero_add]
      refine ⟨T', _, rfl, SqT.of upd_same, rfl, _, _, rfl, _, _, rfl, rfl, ?_⟩
      have sT := same_upd (o := .tup [.int (i : Nat), .ref a]) nT
      have s3 := s2.trans sT
      have ml3 := ml.same sT
      generalize L2.upd H2 T' (.tup [.int (i : Nat), .ref a]) = H3 at s3 ml3 ⊢
      clear sT ml nT s2
      obtain ⟨ps3, hM3, lp3, _⟩ := id ml3
      have len3 : (V.non :: ps3.map V.ref).length = m'.length + 1 := by rw [List.length_cons, List.length_map, lp3]
      refine ⟨_, rfl, _, rfl, M, _, rfl, .inl (SqL.of hM3), _, _, rfl, rfl, _, rfl, ?_⟩
      rw [len3]
      by_cases c1 : m'.length + 1 ≤ i
      · refine ifT (decide_eq_true (by omega)) ⟨_, rfl, bad' s3 hi2 hm' (by rw [next, if_pos c1])⟩
      refine ifF (decide_eq_false (by omega)) ?_
      rw [if_neg c1] at next
      refine ⟨_, rfl, a, row.map nv, rfl, for_enum (H0 := H) (.inr sa) (fun c σ H4 => ∃ v4 v5 : Option V, σ = [some (.ref r), some (.ref M), some (nv i), some (.ref a), v4, v5] ∧ Same H H4 ∧ ∃ m4, Mon.madeRow i 0 (row.take c) m' = some m4 ∧ MadeL H4 M m4 ∧ m4.length ≤ 2000) ⟨_, _, rfl, s3, m', by simp [Mon.madeRow], ml3, b'⟩ (fun j σ H4 _ ⟨_, _, _, s, _⟩ => s) ?_ ?_⟩
      · rintro c x σ H4 ⟨v4, v5, rfl, s4, m4, hm4, ml4, b4⟩ hy2 T2 nT2
        obtain ⟨t, ht, rfl⟩ := map_get hy2
        have tn := en t (List.mem_of_getElem? ht)
        have cl := get_lt ht
        have nx : Mon.madeRow i 0 (row.take (c + 1)) m' = if m4.length + 1 < t then none else if t = m4.length + 1 then some (m4 ++ [(i, c)]) else some m4 := by
          rw [take_snoc' ht, Mon.madeRow_snoc, hm4, Option.bind_some, List.length_take, Nat.min_eq_left (Nat.le_of_lt cl), Nat.zero_add]
        refine ⟨T2, _, rfl, SqT.of upd_same, rfl, _, _, rfl, _, _, rfl, rfl, ?_⟩
        have sT := same_upd (o := .tup [.int (c : Nat), nv t]) nT2
        have s5 := s4.trans sT
        have ml5 := ml4.same sT
        generalize L2.upd H4 T2 (.tup [.int (c : Nat), nv t]) = H5 at s5 ml5 ⊢
        clear sT ml4 nT2 s4
        obtain ⟨ps, hM, lp, pp⟩ := id ml5
        have len : (V.non :: ps.map V.ref).length = m4.length + 1 := by rw [List.length_cons, List.length_map, lp]
        refine ⟨_, rfl, _, rfl, M, _, rfl, .inl (SqL.of hM), _, _, rfl, rfl, _, rfl, ?_⟩
        rw [len]
        by_cases c2 : m4.length + 1 < t
        · refine ifT (decide_eq_true (by omega)) ⟨_, rfl, bad' s5 hi2 hm' (by rw [next]; exact row_none hm4 (by rw [nx, if_pos c2]))⟩
        refine ifF (decide_eq_false (by omega)) ?_
        rw [if_neg c2] at nx
        refine ⟨_, rfl, _, rfl, M, _, rfl, .inl (SqL.of hM), rfl, _, rfl, ?_⟩
        rw [len]
        by_cases ct : t = m4.length + 1
        case neg =>
          rw [if_neg ct] at nx
          refine ifF (by simp; omega) ⟨_, _, rfl, s5, m4, nx, ml5, b4⟩
        rw [if_pos ct] at nx
        refine ifT (by simp; omega) ?_
        refine ⟨_, rfl, .inl ⟨rfl, _, SqL.of hM⟩, _, rfl, _, rfl, (by show 2 ≤ sizeLine; decide), fun N nN => ?_⟩
        have u6 := same_upd (o := .tup [nv i, nv c]) nN
        have hN : L2.upd H5 N (.tup [nv i, nv c]) N = some (.tup [nv i, nv c]) := upd_same
        have s6 := s5.trans u6
        have hM6 := u6 _ _ hM
        have pp6 : ∀ (k : Nat) a p, ps[k]? = some a → m4[k]? = some p → L2.upd H5 N (.tup [nv i, nv c]) a = some (.tup [nv p.1, nv p.2]) := fun k a p h1 h2 => u6 _ _ (pp k a p h1 h2)
        have nMN : N ≠ M := fun z => by rw [z, hM] at nN; cases nN
        generalize L2.upd H5 N (.tup [nv i, nv c]) = H6 at s6 hM6 pp6 hN ⊢
        refine ⟨M, _, _, rfl, rfl, hM6, by rw [len]; show m4.length + 1 < 16777216; omega, _, _, rfl, fun b o e => ?_, _, nx, ⟨ps ++ [N], ?_, by simp [lp], fun k a p h1 h2 => ?_⟩, by rw [List.length_append, List.length_singleton]; omega⟩
        · rw [upd_ne (ne_of_none e nM)]
          exact s6 _ _ e
        · rw [upd_same]
          simp
        · by_cases hk : k < ps.length
          · rw [List.getElem?_append_left hk] at h1
            rw [List.getElem?_append_left (by omega)] at h2
            have := pp6 k a p h1 h2
            rw [upd_ne (fun z => by rw [z, hM6] at this; cases this)]
            exact this
          · have hk2 : k = ps.length := by
              have := get_lt h1
              rw [List.length_append, List.length_singleton] at this
              omega
            rw [hk2, List.getElem?_append_right (Nat.le_refl _), Nat.sub_self] at h1
            rw [hk2, lp, List.getElem?_append_right (Nat.le_refl _), Nat.sub_self] at h2
            cases h1
            cases h2
            rw [upd_ne nMN]
            exact hN
      · rintro σ H4 ⟨v4, v5, rfl, s4, m4, hm4, ml4, b4⟩
        rw [List.length_map, List.take_length] at hm4
        exact ⟨_, _, _, _, rfl, s4, m4, by rw [next]; exact hm4, ml4, b4⟩
    · rintro σ H2 ⟨v2, v3, v4, v5, rfl, s2, m', hm', ⟨ps, hM, lp, pp⟩, _⟩
      rw [ln, List.take_length] at hm'
      refine ⟨_, rfl, M, _, rfl, .inl ⟨SqL.of hM, fun t nt => ?_⟩⟩
      have u3 := same_upd (o := .tup (V.non :: ps.map V.ref)) nt
      exact good m' hm' t _ (s2.trans u3) ⟨ps, SqT.of upd_same, lp, fun k a p h1 h2 => SqT.of (u3 _ _ (pp k a p h1 h2))⟩
end
end K12

set_option Elab.async false
set_option linter.all false
set_option maxRecDepth 100000
set_option maxHeartbeats 8000000
namespace K12
open PySem PySem.Spec PyProof.Rows L2 Lf
theorem sIx1 {n : Nat} : HT.sIx (n + 1) 0 (some 1) = 1 := by
  unfold HT.sIx
  simp
theorem cut1 {x : V} {r : List V} : cutV (x :: r) (some 1) none = r := by
  unfold cutV
  rw [List.length_cons, sIx1]
  simp [HT.sIx]
def spLeft (K : PySem.W.Frag) : Sp := fun vs H Q _ => ∃ r t rows m, vs = [.ref r, .ref t] ∧ RowsT K H r rows ∧ MadeT K H t m ∧ rows ≠ [] ∧ m.length ≤ 2000 ∧ (∀ (k : Nat) p, m[k]? = some p → p.1 < k + 1 ∧ ∀ row ∈ rows, p.2 < row.length) ∧
  (∀ (i k : Nat) l, (Mon.leftTab rows (m.take i))[k]? = some l → l.length ≤ 2000 ∧ ∀ x ∈ l, x < rows.length) ∧ ∀ q H', Same H H' → RowsT K H' q (Mon.leftTab rows m) → Q (.ref q) H'
abbrev teLeft (K : PySem.W.Frag) : TE := tOp (rIxT K) (tOp (rIxT K) (tVar 0) (tVar 5)) (tVar 4)
/-- rows[x][c] -/
theorem ix2 {K : PySem.W.Frag} {H : Hp} {r : Addr} {as : List Addr} {rows : List (List Nat)} (sr : SqT K H r (as.map V.ref)) (la : as.length = rows.length) (srow : ∀ (i : Nat) a row, as[i]? = some a → rows[i]? = some row → SqT K H a (row.map nv)) {x c : Nat} (hx : x < rows.length) (hc : ∀ row ∈ rows, c < row.length) {Q : VK}
    (k : Q (nv ((rows.getD x []).getD c 0)) H) : rIxT K (.ref r) (nv x) H fun y H' => rIxT K y (nv c) H' Q := by
  obtain ⟨a, ha⟩ := lt_get (show x < as.length by omega)
  obtain ⟨row, hrow⟩ := lt_get hx
  obtain ⟨t, ht⟩ := lt_get (hc row (List.mem_of_getElem? hrow))
  rw [Mon.getD_of hrow, Mon.getD_of ht] at k
  exact ⟨r, as.map V.ref, _, .ref a, rfl, rfl, sr, atI_nat (get_map ha), a, row.map nv, _, nv t, rfl, rfl, srow x a row ha hrow, atI_nat (get_map ht), k⟩
section
variable {P : Program} {w : World} {K : PySem.W.Frag} {mg : Str → Option Value} {base : Heap}
theorem scLeft : FnScope ["right", "made", "table", "before", "letter", "number"] ["right", "made"] (defScope s_left_table) := ⟨rfl, rfl, rfl, by decide +kernel, rfl, by decide +kernel, by decide +kernel⟩
theorem ok_left {f : Addr} {fd : FuncData} {q : Str} (F : FunD K "_left_table" q (defArgs s_left_table) (defBody s_left_table) (defScope s_left_table) [] [] f fd) (T : Txt P w K mg base) :
    FnOk P w K mg base CX0 1 f fd ["right", "made"] (spLeft K) := by
  have zt : mg "tuple" = none := T.fr 41 "tuple" rfl
  refine F.ok scLeft (fun vs H Q E h => ?_) (fun cdv A outer s H vs Q E hr h => ?_)
  · obtain ⟨r, t, rows, m, rfl, _⟩ := h
    rfl
  · obtain ⟨r, t, rows, m, rfl, R, M, ne, lm, hm, hL, k⟩ := h
    refine ⟨_, PSs.nox (pss_cons (ps_set (i := 2) scLeft.nd rfl (.inl rfl) (pe_lst (pa_cons (pe_ix ix_tup (pv 0) pe_int (fun _ _ => rfl)) pa_nil)))
      (pss_cons (ps_for PassesOwn.never rfl (pi_tup (pe_slice sl_tup (pv 1) (po_some pe_int) po_none)) (pg_tup rfl (pgs_cons (pg_name (i := 3) scLeft.nd rfl (.inl rfl)) (pgs_cons (pg_name (i := 4) scLeft.nd rfl (.inr rfl)) pgs_nil)))
        (pss_one (ps_expr (pe_bm PySem.F.plainAttrs_list PySem.F.slot_list_append PySem.F.type_list_append mt_append (pv 2) (pa_cons (pe_callTy call_tuple_of rfl zt PyProof.Rows.boot_tuple
          (pa_cons (pe_lc (own := [("number", 5)]) (g := gName 5) (te := teLeft K) (by rfl) scLeft.nd (pi_tup (pe_ix ix_list (pv 2) (pv 3) (fun _ _ => rfl))) (blkOk_by (own := [("number", 5)]) (N := ["right", "made", "table", "before", "letter", "number"]) (sc := defScope s_left_table) (by decide +kernel)) (fun _ _ _ _ _ => pg_name (i := 5) scLeft.nd rfl (Or.inl rfl)) (fun _ _ _ _ _ => pts_nil)
            (fun _ _ _ _ _ => by exact pe_ix ix_tup (pe_ix ix_tup (pv 0) (pv 5) (fun _ _ => rfl)) (pv 4) (fun _ _ => rfl))) pa_nil)) pa_nil)))))
      (pss_one (ps_ret (pe_callTy call_tuple_of rfl zt PyProof.Rows.boot_tuple (pa_cons (pv 2) pa_nil)))))), ?_⟩
    obtain ⟨as, sr, la, srow⟩ := R.ex
    obtain ⟨ps, sm, lp, sp⟩ := M.ex
    have n0 : 0 < rows.length := List.length_pos_iff.mpr ne
    obtain ⟨a0, ha0⟩ := lt_get (show 0 < as.length by omega)
    obtain ⟨row0, hrow0⟩ := lt_get n0
    refine ⟨_, rfl, r, as.map V.ref, 0, .ref a0, rfl, rfl, sr, atI_nat (j := 0) (get_map ha0), (by show 1 ≤ sizeLine; decide), fun B nB => ?_⟩
    have s1 := same_upd (o := .lst [V.ref a0]) nB
    have hB1 : L2.upd H B (.lst [V.ref a0]) B = some (.lst ([a0].map V.ref)) := upd_same
    generalize L2.upd H B (.lst [V.ref a0]) = H1 at s1 hB1 ⊢
    refine ⟨_, rfl, 1, rfl, t, _, rfl, Lf.SqT.same s1 sm, ?_, fun S nS => ⟨S, rfl, ⟨_, SqT.of upd_same⟩, ?_⟩⟩
    · rw [List.length_cons, sIx1]
      rintro ⟨z, _⟩
      exact absurd z (by decide)
    rw [cut1]
    have u2 := same_upd (o := .tup (ps.map V.ref)) nS
    have hS : L2.upd H1 S (.tup (ps.map V.ref)) S = some (.tup (ps.map V.ref)) := upd_same
    have s2 := s1.trans u2
    have hB2 := u2 _ _ hB1
    have nSB : S ≠ B := fun z => by rw [z, hB1] at nS; cases nS
    generalize L2.upd H1 S (.tup (ps.map V.ref)) = H2 at s2 hS hB2 ⊢
    clear u2 s1 hB1 nS
    have lps : (ps.map V.ref).length = m.length := by rw [List.length_map, lp]
    refine for_tup (K := K) (a := S) (xs := ps.map V.ref) (fun i σ Hn => ∃ v3 v4 : Option V, σ = [some (.ref r), some (.ref t), some (.ref B), v3, v4, none] ∧ Same H Hn ∧ Hn S = some (.tup (ps.map V.ref)) ∧ ∃ bs : List Addr, Hn B = some (.lst (bs.map V.ref)) ∧ bs.length = (Mon.leftTab rows (m.take i)).length ∧
        ∀ (j : Nat) b l, bs[j]? = some b → (Mon.leftTab rows (m.take i))[j]? = some l → SqT K H b (l.map nv) ∨ Hn b = some (.tup (l.map nv)))
      ⟨none, none, rfl, s2, hS, [a0], hB2, rfl, fun j b l h1 h2 => ?_⟩ (fun i σ Hn _ ⟨_, _, _, _, h, _⟩ => SqT.of h) (fun i x σ Hn hx ⟨v3, v4, eσ, sn, hSn, bs, hBn, lb, pb⟩ => ?_) (fun σ Hn ⟨v3, v4, eσ, sn, hSn, bs, hBn, lb, pb⟩ => ?_)
    · cases j with
      | zero =>
        cases h1
        have e : row0 = l := by
          have : Mon.leftTab rows (m.take 0) = [rows.getD 0 []] := rfl
          rw [this, Mon.getD_of hrow0] at h2
          exact Option.some.inj h2
        rw [← e]
        exact .inl (srow 0 a0 row0 ha0 hrow0)
      | succ j => simp at h1
    · subst eσ
      obtain ⟨pa, hpa, rfl⟩ := map_get hx
      obtain ⟨p, hp⟩ := lt_get (show i < m.length by have := get_lt hpa; omega)
      obtain ⟨b1, c1⟩ := hm i p hp
      have eL : Mon.leftTab rows (m.take (i + 1)) = Mon.leftStep rows (Mon.leftTab rows (m.take i)) p := by rw [(Mon.take_cons hp).2.1, Mon.left_snoc]
      have lL : (Mon.leftTab rows (m.take i)).length = i + 1 := by rw [Mon.left_len, (Mon.take_cons hp).2.2]
      obtain ⟨b, hb⟩ := lt_get (show p.1 < bs.length by omega)
      obtain ⟨l, hl⟩ := lt_get (show p.1 < (Mon.leftTab rows (m.take i)).length by omega)
      obtain ⟨ll, lx⟩ := hL i p.1 l hl
      have sb : SqT K Hn b (l.map nv) := by
        rcases pb _ b l hb hl with z | z
        · exact Lf.SqT.same sn z
        · exact SqT.of z
      refine ⟨pa, _, rfl, Lf.SqT.same sn (sp i pa p hpa hp), rfl, _, _, rfl, _, _, rfl, rfl, ?_⟩
      refine ⟨_, rfl, .inl ⟨rfl, _, SqL.of hBn⟩, _, rfl, _, rfl, B, bs.map V.ref, _, .ref b, rfl, rfl, SqL.of hBn, atI_nat (get_map hb), b, rfl, ⟨_, sb⟩, fun D nD => ?_⟩
      refine lc_tup (K := K) (a := b) (xs := l.map nv) (fun j Hc => But D Hn Hc ∧ Hc D = some (.lst ((l.take j).map fun x => nv ((rows.getD x []).getD p.2 0)))) ⟨But.upd, upd_same⟩ (fun j Hc _ ⟨bc, _⟩ => Lf.SqT.same (Same.but (L2.Same.refl _) nD bc) sb) (fun j z Hc hz ⟨bc, hD⟩ => ?_) (fun Hc ⟨bc, hD⟩ => ?_)
      · obtain ⟨x, hxx, rfl⟩ := map_get hz
        refine ⟨rfl, yesT ?_⟩
        have sc := sn.trans (Same.but (L2.Same.refl _) nD bc)
        have xl := lx x (List.mem_of_getElem? hxx)
        obtain ⟨a, ha⟩ := lt_get (show x < as.length by omega)
        obtain ⟨row, hrow⟩ := lt_get xl
        obtain ⟨e, he⟩ := lt_get (c1 row (List.mem_of_getElem? hrow))
        refine ⟨_, rfl, _, rfl, r, as.map V.ref, _, .ref a, rfl, rfl, Lf.SqT.same sc sr, atI_nat (get_map ha), _, rfl, a, row.map nv, _, nv e, rfl, rfl, Lf.SqT.same sc (srow x a row ha hrow), atI_nat (get_map he), ?_⟩
        refine ⟨_, hD, ?_, But.trans bc But.upd, ?_⟩
        · rw [List.length_map, List.length_take]
          have := get_lt hxx
          show min j l.length < 16777216
          omega
        · rw [upd_same, take_snoc hxx, List.map_append, List.map_cons, List.map_nil, Mon.getD_of hrow, Mon.getD_of he]
      · rw [List.length_map, List.take_length] at hD
        have sc := Same.but (L2.Same.refl _) nD bc
        refine ⟨D, _, rfl, .inl ⟨SqL.of hD, fun N nN => ?_⟩⟩
        have u3 := sc.trans (same_upd (o := .tup (l.map fun x => nv ((rows.getD x []).getD p.2 0))) nN)
        have hN : L2.upd Hc N (.tup (l.map fun x => nv ((rows.getD x []).getD p.2 0))) N = some (.tup (l.map fun x => nv ((rows.getD x []).getD p.2 0))) := upd_same
        generalize L2.upd Hc N (.tup (l.map fun x => nv ((rows.getD x []).getD p.2 0))) = H3 at u3 hN ⊢
        have hB3 := u3 _ _ hBn
        have nNB : N ≠ B := fun z => by rw [z, hB3] at hN; cases hN
        refine ⟨B, _, _, rfl, rfl, hB3, by rw [List.length_map, lb, lL]; have := get_lt hp; show i + 1 < 16777216; omega, _, _, rfl, fun c o e => ?_, by rw [upd_ne nSB]; exact u3 _ _ hSn, bs ++ [N], by rw [upd_same]; simp, by rw [eL, Mon.leftStep, List.length_append, List.length_append, lb]; rfl, fun j c l2 h1 h2 => ?_⟩
        · rw [upd_ne (ne_of_none e nB)]
          exact (sn.trans u3) _ _ e
        · rw [eL, Mon.leftStep] at h2
          by_cases hj : j < bs.length
          · rw [List.getElem?_append_left hj] at h1
            rw [List.getElem?_append_left (by omega)] at h2
            rcases pb j c l2 h1 h2 with z | z
            · exact .inl z
            · have z3 := u3 _ _ z
              exact .inr (by rw [upd_ne (fun y => by rw [y, hB3] at z3; cases z3)]; exact z3)
          · have hj2 : j = bs.length := by
              have := get_lt h1
              rw [List.length_append, List.length_singleton] at this
              omega
            rw [hj2, List.getElem?_append_right (Nat.le_refl _), Nat.sub_self] at h1
            rw [hj2, lb, List.getElem?_append_right (Nat.le_refl _), Nat.sub_self] at h2
            cases h1
            cases h2
            refine .inr ?_
            rw [upd_ne nNB, hN, Mon.getD_of hl, List.map_map]
            rfl
    · subst eσ
      rw [lps, List.take_length] at lb pb
      refine ⟨_, rfl, B, _, rfl, .inl ⟨SqL.of hBn, fun N nN => ?_⟩⟩
      have u3 := same_upd (o := .tup (bs.map V.ref)) nN
      exact k N _ (sn.trans u3) ⟨bs, SqT.of upd_same, lb, fun j b l h1 h2 => (pb j b l h1 h2).elim (fun z => Lf.SqT.same (sn.trans u3) z) fun z => SqT.of (u3 _ _ z)⟩
end
end K12

set_option Elab.async false
set_option linter.all false
set_option maxRecDepth 100000
set_option maxHeartbeats 2000000
/-! Tuples of numbers, and rows of them, as data: equal, in, index. -/
namespace Lf
open PySem PySem.Spec PyProof.Rows L2
def dN (i : Nat) : PyData := .int ((i : Nat) : Int)
def dI (x : List Nat) : PyData := .tuple (x.map dN)
theorem all_lay {k : Nat} : ∀ {ds : List PyData}, (∀ d ∈ ds, d.canLay0 = true ∧ d.depth ≤ k) → PyData.canLayAll0 ds = true ∧ PyData.depthAll ds ≤ k
  | [], _ => by simp [PyData.canLayAll0, PyData.depthAll]
  | d :: ds, h => by
    obtain ⟨a, b⟩ := all_lay fun e he => h e (List.mem_cons_of_mem _ he)
    obtain ⟨c, e⟩ := h d List.mem_cons_self
    refine ⟨by simp [PyData.canLayAll0, a, c], ?_⟩
    rw [PyData.depthAll]
    omega
theorem tup_lay {k : Nat} {ds : List PyData} (h : ∀ d ∈ ds, d.canLay0 = true ∧ d.depth ≤ k) : (PyData.tuple ds).canLay0 = true ∧ (PyData.tuple ds).depth ≤ k + 1 := by
  obtain ⟨a, b⟩ := all_lay h
  refine ⟨by rw [PyData.canLay0]; exact a, ?_⟩
  rw [PyData.depth]
  omega
theorem lst_lay {k : Nat} {ds : List PyData} (h : ∀ d ∈ ds, d.canLay0 = true ∧ d.depth ≤ k) : (PyData.list ds).canLay0 = true ∧ (PyData.list ds).depth ≤ k + 1 := by
  obtain ⟨a, b⟩ := all_lay h
  refine ⟨by rw [PyData.canLay0]; exact a, ?_⟩
  rw [PyData.depth]
  omega
theorem sh_lay {d : PyData} {k : Nat} (h : d.canLay0 = true ∧ d.depth ≤ k) (hk : k ≤ 64) : SeqAt.shaped d = true := by
  unfold SeqAt.shaped
  rw [h.1, decide_eq_true (by omega)]
  rfl
theorem dN_lay (i : Nat) : (dN i).canLay0 = true ∧ (dN i).depth ≤ 0 := by simp [dN, PyData.canLay0, PyData.depth]
theorem dI_lay (x : List Nat) : (dI x).canLay0 = true ∧ (dI x).depth ≤ 0 + 1 := tup_lay fun d hd => by
  obtain ⟨i, _, rfl⟩ := List.mem_map.mp hd
  exact dN_lay i
theorem dI_sh (x : List Nat) : SeqAt.shaped (dI x) = true := sh_lay (dI_lay x) (by decide)
theorem rows_sh (l : List (List Nat)) : SeqAt.shaped (.list (l.map dI)) = true := sh_lay (lst_lay fun d hd => by
  obtain ⟨i, _, rfl⟩ := List.mem_map.mp hd
  exact dI_lay i) (by decide)
theorem trows_sh (l : List (List Nat)) : SeqAt.shaped (.tuple (l.map dI)) = true := sh_lay (tup_lay fun d hd => by
  obtain ⟨i, _, rfl⟩ := List.mem_map.mp hd
  exact dI_lay i) (by decide)
theorem ints_sh (l : List Nat) : SeqAt.shaped (.list (l.map dN)) = true := sh_lay (lst_lay fun d hd => by
  obtain ⟨i, _, rfl⟩ := List.mem_map.mp hd
  exact dN_lay i) (by decide)
theorem dI_eqv (x y : List Nat) : PyData.eqv (dI x) (dI y) = decide (x = y) := by
  have e : ∀ l : List Nat, l.map dN = (l.map fun i => ((i : Nat) : Int)).map PyData.int := fun l => by rw [List.map_map]; rfl
  unfold dI
  rw [PyData.eqv, e, e, PySem.W.ked_eqvAll]
  refine decide_eq_decide.mpr ⟨fun h => ?_, fun h => by rw [h]⟩
  exact List.map_inj_right (fun a b h => by omega) |>.mp h
section
variable {K : PySem.W.Frag} {H : Hp}
theorem dpN : ∀ {x : List Nat}, DpAll K H (x.map fun i => V.int (i : Nat)) (x.map dN)
  | [] => .nil
  | i :: x => .cons (.int _) dpN
theorem dpI {a : Addr} {x : List Nat} (h : SqT K H a (x.map fun i => V.int (i : Nat))) : Dp K H (.ref a) (dI x) := .tup h dpN
theorem dpR : ∀ {as : List Addr} {rows : List (List Nat)}, as.length = rows.length → (∀ (j : Nat) a x, as[j]? = some a → rows[j]? = some x → SqT K H a (x.map fun i => V.int (i : Nat))) → DpAll K H (as.map V.ref) (rows.map dI)
  | [], [], _, _ => .nil
  | a :: as, x :: rows, l, h => .cons (dpI (h 0 a x rfl rfl)) (dpR (by simpa using l) fun j b y h1 h2 => h (j + 1) b y h1 h2)
theorem any_dI {l : List (List Nat)} {x : List Nat} : ((l.map dI).any fun z => PyData.eqv z (dI x)) = decide (x ∈ l) := by
  rw [List.any_map]
  by_cases h : x ∈ l
  · rw [decide_eq_true h, List.any_eq_true]
    exact ⟨x, h, by show PyData.eqv (dI x) (dI x) = true; rw [dI_eqv]; simp⟩
  · rw [decide_eq_false h, List.any_eq_false]
    intro y hy e
    have : PyData.eqv (dI y) (dI x) = true := e
    rw [dI_eqv] at this
    exact h (of_decide_eq_true this ▸ hy)
/-- for l.index(x): x stands at j and nowhere else -/
theorem index_pre {l : List (List Nat)} {x : List Nat} {j : Nat} (nd : l.Nodup) (hj : l[j]? = some x) : (l.map dI)[j]? = some (dI x) ∧ PyData.eqv (dI x) (dI x) = true ∧ ∀ (k : Nat) z, k < j → (l.map dI)[k]? = some z → PyData.eqv z (dI x) = false := by
  refine ⟨by rw [List.getElem?_map, hj]; rfl, by rw [dI_eqv]; simp, fun k z kj hz => ?_⟩
  rw [List.getElem?_map] at hz
  obtain ⟨y, hy, rfl⟩ := Option.map_eq_some_iff.mp hz
  rw [dI_eqv]
  refine decide_eq_false fun e => ?_
  subst e
  have := (List.getElem?_inj (List.getElem?_eq_some_iff.mp hy).1 nd).mp (hy.trans hj.symm)
  omega
theorem in_dI {p c : Addr} {l : List (List Nat)} {x : List Nat} {Q : VK} (hl : Dp K H (.ref p) (.list (l.map dI))) (hx : Dp K H (.ref c) (dI x)) (q : Q (.bl (decide (x ∈ l))) H) : rInD K (.ref c) (.ref p) H Q :=
  ⟨dI x, l.map dI, hx, hl, dI_sh x, rows_sh l, by rw [any_dI]; exact q⟩
theorem ne_dI {a b : V} {d : PyData} {Q : VK} (ha : Dp K H a d) (hb : Dp K H b d) (sh : SeqAt.shaped d = true) (q : Q (.bl false) H) : rNeD K a b H Q :=
  ⟨d, d, ha, hb, sh, sh, by rw [SeqAt.eqv_refl _ (SeqAt.canLay_of_shaped sh)]; exact q⟩
theorem eq_dI {a b : V} {d : PyData} {Q : VK} (ha : Dp K H a d) (hb : Dp K H b d) (sh : SeqAt.shaped d = true) (q : Q (.bl true) H) : rEqD K a b H Q :=
  ⟨d, d, ha, hb, sh, sh, by rw [SeqAt.eqv_refl _ (SeqAt.canLay_of_shaped sh)]; exact q⟩
end
end Lf

set_option Elab.async false
set_option linter.all false
set_option maxRecDepth 100000
set_option maxHeartbeats 8000000
namespace K12
open PySem PySem.Spec PyProof.Rows L2 Lf
/-- a tuple of numbers as data -/
abbrev nd (l : List Nat) : PyData := .tuple (l.map fun i => .int (i : Nat))
theorem nd_all {K : PySem.W.Frag} {H : Hp} : ∀ {l : List Nat}, DpAll K H (l.map nv) (l.map fun i => PyData.int (i : Nat))
  | [] => .nil
  | i :: r => .cons (.int _) (nd_all (l := r))
theorem nd_shape (l : List Nat) : SeqAt.shaped (nd l) = true := by
  have all : ∀ l : List Nat, PyData.canLayAll0 (l.map fun i => PyData.int (i : Nat)) = true ∧ PyData.depthAll (l.map fun i => PyData.int (i : Nat)) = 0 := by
    intro l
    induction l with
    | nil => simp [PyData.canLayAll0, PyData.depthAll]
    | cons i r ih => simp [PyData.canLayAll0, PyData.depthAll, PyData.canLay0, PyData.depth, ih.1, ih.2]
  unfold SeqAt.shaped
  simp [PyData.canLay0, PyData.depth, (all l).1, (all l).2]
theorem nd_eqv (x y : List Nat) : PyData.eqv (nd x) (nd y) = decide (x = y) := dI_eqv x y
/-- tuples of numbers, unlike or not -/
theorem nd_cmp {K : PySem.W.Frag} {H : Hp} {a b : Addr} {l m : List Nat} {Q : VK} (qa : SqT K H a (l.map nv)) (qb : SqT K H b (m.map nv)) (k : Q (.bl (!decide (l = m))) H) : rNeD K (.ref a) (.ref b) H Q := by
  refine ⟨_, _, .tup qa nd_all, .tup qb nd_all, nd_shape l, nd_shape m, ?_⟩
  rw [nd_eqv]
  exact k
/-- the product at row i and letter c goes together -/
def gAt (rows L : List (List Nat)) (i c : Nat) : Prop := ∀ row t li lt, rows[i]? = some row → row[c]? = some t → L[i]? = some li → L[t]? = some lt → lt = li.map fun x => (rows.getD x []).getD c 0
def gRow (rows L : List (List Nat)) (i : Nat) : Prop := ∀ c, gAt rows L i c
def spProds (K : PySem.W.Frag) : Sp := fun vs H Q E => ∃ r q rows L, vs = [.ref r, .ref q] ∧ RowsT K H r rows ∧ RowsT K H q L ∧ L.length = rows.length ∧
  (∀ (i : Nat) row (c t : Nat) li, rows[i]? = some row → row[c]? = some t → L[i]? = some li → (∀ row' ∈ rows, c < row'.length) ∧ li.length ≤ 2000 ∧ (∀ x ∈ li, x < rows.length) ∧ t < rows.length) ∧
  ((∀ i, gRow rows L i) → ∀ H', Same H H' → Q .non H') ∧ ∀ i, i < rows.length → (∀ j, j < i → gRow rows L j) → ¬ gRow rows L i → Bad K H E "product" (i : Nat)
abbrev teProd (K : PySem.W.Frag) : TE := tOp (rIxT K) (tOp (rIxT K) (tVar 0) (tVar 6)) (tVar 4)
section
variable {P : Program} {w : World} {K : PySem.W.Frag} {mg : Str → Option Value} {base : Heap}
theorem scProds : FnScope ["right", "left", "number", "row", "letter", "reached", "begun"] ["right", "left"] (defScope s_check_products) := ⟨rfl, rfl, rfl, by decide +kernel, rfl, by decide +kernel, by decide +kernel⟩
theorem ok_prods {f : Addr} {fd : FuncData} {q : Str} (F : FunD K "_check_products" q (defArgs s_check_products) (defBody s_check_products) (defScope s_check_products) [] [] f fd) (T : Txt P w K mg base) (EM : Ini2 P w K mg base "NoMonoid" "what" "place") :
    FnOk P w K mg base (L2.CX P w) 3 f fd ["right", "left"] (spProds K) := by
  have zE : mg "enumerate" = none := T.fr 35 "enumerate" rfl
  have zt : mg "tuple" = none := T.fr 41 "tuple" rfl
  refine F.ok scProds (fun vs H Q E h => ?_) (fun cdv A outer s H vs Q E hr h => ?_)
  · obtain ⟨r, q, rows, L, rfl, _⟩ := h
    rfl
  · obtain ⟨r, q, rows, L, rfl, R, RL, eL, ok, good, bad⟩ := h
    have hu : Room 1 _ := hr.mono (by decide)
    refine ⟨_, pss_one (ps_for (passes_of rfl) rfl (pi_enumA rfl zE (pv 0)) (pg_tup rfl (pgs_cons (pg_name (i := 2) scProds.nd rfl (.inl rfl)) (pgs_cons (pg_name (i := 3) scProds.nd rfl (.inl rfl)) pgs_nil)))
      (pss_one (ps_for (passes_of rfl) rfl (pi_enumA rfl zE (pv 3)) (pg_tup rfl (pgs_cons (pg_name (i := 4) scProds.nd rfl (.inr rfl)) (pgs_cons (pg_name (i := 5) scProds.nd rfl (.inl rfl)) pgs_nil)))
        (pss_one (ps_if (pt_cmpR (op_neD hr.units) (pe_ix ix_tup (pv 1) (pv 5) (fun _ _ => rfl)) (pe_callTy call_tuple_of rfl zt PyProof.Rows.boot_tuple
          (pa_cons (pe_lc (own := [("begun", 6)]) (g := gName 6) (te := teProd K) (by rfl) scProds.nd (pi_tup (pe_ix ix_tup (pv 1) (pv 2) (fun _ _ => rfl))) (blkOk_by (own := [("begun", 6)]) (N := ["right", "left", "number", "row", "letter", "reached", "begun"]) (sc := defScope s_check_products) (by decide +kernel)) (fun _ _ _ _ _ => pg_name (i := 6) scProds.nd rfl (Or.inl rfl)) (fun _ _ _ _ _ => pts_nil)
            (fun _ _ _ _ _ => by exact pe_ix ix_tup (pe_ix ix_tup (pv 0) (pv 6) (fun _ _ => rfl)) (pv 4) (fun _ _ => rfl))) pa_nil)) (nomark _)) (pss_one (ps_raise rfl (takes_of rfl rfl rfl rfl) (pmk_ini2 EM hr rfl pe_str (pv 2)))) pss_nil))))), ?_⟩
    obtain ⟨as, sr, la, srow⟩ := R.ex
    obtain ⟨bs, sq, lb, sl⟩ := RL.ex
    have ln : (as.map V.ref).length = rows.length := by rw [List.length_map, la]
    have bad' : ∀ {Hn : Hp} {i : Nat}, Same H Hn → i < rows.length → (∀ j, j < i → gRow rows L j) → ¬ gRow rows L i → ∀ d H', Hn d = none → Same Hn H' → H' d = some (.xd [("place", .int (i : Nat)), ("what", .str "product")]) → E (.ref (He.ga K "NoMonoid")) (some d) H' := fun sn hi pre no d H' nd sd hd => bad _ hi pre no d H' (nil_of sn nd) (sn.trans sd) hd
    refine ⟨_, rfl, r, as.map V.ref, rfl, for_enum (H0 := H) (.inr sr) (fun i σ H2 => ∃ v2 v3 v4 v5 : Option V, σ = [some (.ref r), some (.ref q), v2, v3, v4, v5, none] ∧ Same H H2 ∧ ∀ j, j < i → gRow rows L j) ⟨none, none, none, none, rfl, L2.Same.refl _, fun j hj => absurd hj (Nat.not_lt_zero _)⟩ (fun i σ H2 _ ⟨_, _, _, _, _, s, _⟩ => s) ?_ ?_⟩
    · rintro i y σ H2 ⟨v2, v3, v4, v5, rfl, s2, pre⟩ hy T' nT
      obtain ⟨a, ha, rfl⟩ := map_get hy
      have hi2 : i < rows.length := by have := get_lt ha; omega
      obtain ⟨row, hrow⟩ := lt_get hi2
      have sa := srow i a row ha hrow
      refine ⟨T', _, rfl, SqT.of upd_same, rfl, _, _, rfl, _, _, rfl, rfl, ?_⟩
      have s3 := s2.trans (same_upd (o := .tup [.int (i : Nat), .ref a]) nT)
      generalize L2.upd H2 T' (.tup [.int (i : Nat), .ref a]) = H3 at s3 ⊢
      refine ⟨_, rfl, a, row.map nv, rfl, for_enum (H0 := H) (.inr sa) (fun c σ H4 => ∃ v4 v5 : Option V, σ = [some (.ref r), some (.ref q), some (nv i), some (.ref a), v4, v5, none] ∧ Same H H4 ∧ ∀ c', c' < c → gAt rows L i c') ⟨_, _, rfl, s3, fun j hj => absurd hj (Nat.not_lt_zero _)⟩ (fun j σ H4 _ ⟨_, _, _, s, _⟩ => s) ?_ ?_⟩
      · rintro c x σ H4 ⟨v4, v5, rfl, s4, prec⟩ hy2 T2 nT2
        obtain ⟨t, ht, rfl⟩ := map_get hy2
        obtain ⟨li, hli⟩ := lt_get (show i < L.length by omega)
        obtain ⟨cw, l2, lx, tl⟩ := ok i row c t li hrow ht hli
        obtain ⟨bt, hbt⟩ := lt_get (show t < bs.length by omega)
        obtain ⟨lt, hlt⟩ := lt_get (show t < L.length by omega)
        obtain ⟨bi, hbi⟩ := lt_get (show i < bs.length by omega)
        refine ⟨T2, _, rfl, SqT.of upd_same, rfl, _, _, rfl, _, _, rfl, rfl, ?_⟩
        have s5 := s4.trans (same_upd (o := .tup [.int (c : Nat), nv t]) nT2)
        generalize L2.upd H4 T2 (.tup [.int (c : Nat), nv t]) = H5 at s5 ⊢
        have sb := Lf.SqT.same s5 (sl i bi li hbi hli)
        refine ⟨_, rfl, _, rfl, q, bs.map V.ref, _, .ref bt, rfl, rfl, Lf.SqT.same s5 sq, atI_nat (get_map hbt), ?_⟩
        refine ⟨_, rfl, _, rfl, q, bs.map V.ref, _, .ref bi, rfl, rfl, Lf.SqT.same s5 sq, atI_nat (get_map hbi), bi, rfl, ⟨_, sb⟩, fun D nD => ?_⟩
        refine lc_tup (K := K) (a := bi) (xs := li.map nv) (fun j Hc => But D H5 Hc ∧ Hc D = some (.lst ((li.take j).map fun x => nv ((rows.getD x []).getD c 0)))) ⟨But.upd, upd_same⟩ (fun j Hc _ ⟨bc, _⟩ => Lf.SqT.same (Same.but (L2.Same.refl _) nD bc) sb) (fun j z Hc hz ⟨bc, hD⟩ => ?_) (fun Hc ⟨bc, hD⟩ => ?_)
        · obtain ⟨x, hxx, rfl⟩ := map_get hz
          refine ⟨rfl, yesT ?_⟩
          have sc := s5.trans (Same.but (L2.Same.refl _) nD bc)
          have xl := lx x (List.mem_of_getElem? hxx)
          obtain ⟨a', ha'⟩ := lt_get (show x < as.length by omega)
          obtain ⟨row', hrow'⟩ := lt_get xl
          obtain ⟨e, he⟩ := lt_get (cw row' (List.mem_of_getElem? hrow'))
          refine ⟨_, rfl, _, rfl, r, as.map V.ref, _, .ref a', rfl, rfl, Lf.SqT.same sc sr, atI_nat (get_map ha'), _, rfl, a', row'.map nv, _, nv e, rfl, rfl, Lf.SqT.same sc (srow x a' row' ha' hrow'), atI_nat (get_map he), ?_⟩
          refine ⟨_, hD, ?_, But.trans bc But.upd, ?_⟩
          · rw [List.length_map, List.length_take]
            have := get_lt hxx
            show min j li.length < 16777216
            omega
          · rw [upd_same, take_snoc hxx, List.map_append, List.map_cons, List.map_nil, Mon.getD_of hrow', Mon.getD_of he]
        · rw [List.length_map, List.take_length] at hD
          have sc := Same.but (L2.Same.refl _) nD bc
          refine ⟨D, _, rfl, .inl ⟨SqL.of hD, fun N nN => ?_⟩⟩
          have u6 := sc.trans (same_upd (o := .tup (li.map fun x => nv ((rows.getD x []).getD c 0))) nN)
          have s6 := s5.trans u6
          have e6 : (li.map fun x => nv ((rows.getD x []).getD c 0)) = (li.map fun x => (rows.getD x []).getD c 0).map nv := by rw [List.map_map]; rfl
          refine nd_cmp (l := lt) (m := li.map fun x => (rows.getD x []).getD c 0) (Lf.SqT.same s6 (sl t bt lt hbt hlt)) (SqT.of (by rw [upd_same, e6])) ⟨_, rfl, ?_⟩
          have one : lt = (li.map fun x => (rows.getD x []).getD c 0) ↔ gAt rows L i c := ⟨fun z row' t' li' lt' g1 g2 g3 g4 => by
            rw [hrow] at g1
            cases g1
            rw [ht] at g2
            cases g2
            rw [hli] at g3
            cases g3
            rw [hlt] at g4
            cases g4
            exact z, fun z => z row t li lt hrow ht hli hlt⟩
          by_cases hg : gAt rows L i c
          · refine ifF (by rw [decide_eq_true (one.mpr hg)]; rfl) ⟨_, _, rfl, s6, fun c' hc' => ?_⟩
            by_cases z : c' < c
            · exact prec c' z
            · rw [show c' = c by omega]
              exact hg
          · refine ifT (by rw [decide_eq_false (fun z => hg (one.mp z))]; rfl) ⟨_, rfl, ?_⟩
            exact bad' s6 hi2 pre fun z => hg (z c)
      · rintro σ H4 ⟨v4, v5, rfl, s4, all⟩
        refine ⟨_, _, _, _, rfl, s4, fun j hj => ?_⟩
        by_cases z : j < i
        · exact pre j z
        · rw [show j = i by omega]
          intro c row' t li lt g1 g2
          rw [hrow] at g1
          cases g1
          exact all c (by rw [List.length_map]; exact get_lt g2) row t li lt hrow g2
    · rintro σ H2 ⟨v2, v3, v4, v5, rfl, s2, all⟩
      refine good (fun i c row t li lt g1 => ?_) _ s2
      exact all i (by rw [ln]; exact get_lt g1) c row t li lt g1
end
end K12

set_option Elab.async false
set_option linter.all false
set_option maxRecDepth 100000
set_option maxHeartbeats 8000000
namespace K12
open PySem PySem.Spec PyProof.Rows L2 Lf
theorem SqT.but {K : PySem.W.Frag} {H H' : Hp} {p a C dx : Addr} {fs : List (Str × V)} {xs : List V} (hp : H p = some (.ins C dx fs)) (b : But p H H') (h : SqT K H a xs) : SqT K H' a xs := by
  rcases h with (h | ⟨o, h⟩) | h
  · exact .inl (.inl (b _ _ (fun z => by rw [z, hp] at h; cases h) h))
  · exact .inl (.inr ⟨o, b _ _ (fun z => by rw [z, hp] at h; cases h) h⟩)
  · exact .inr h
theorem RowsT.but {K : PySem.W.Frag} {H H' : Hp} {p r C dx : Addr} {fs : List (Str × V)} {rows : List (List Nat)} (hp : H p = some (.ins C dx fs)) (b : But p H H') (h : RowsT K H r rows) : RowsT K H' r rows := by
  obtain ⟨as, h1, h2, h3⟩ := h.ex
  exact ⟨as, SqT.but hp b h1, h2, fun i x row g1 g2 => SqT.but hp b (h3 i x row g1 g2)⟩
theorem MadeT.but {K : PySem.W.Frag} {H H' : Hp} {p r C dx : Addr} {fs : List (Str × V)} {m : List (Nat × Nat)} (hp : H p = some (.ins C dx fs)) (b : But p H H') (h : MadeT K H r m) : MadeT K H' r m := by
  obtain ⟨as, h1, h2, h3⟩ := h.ex
  exact ⟨as, SqT.but hp b h1, h2, fun i x row g1 g2 => SqT.but hp b (h3 i x row g1 g2)⟩
/-- a table by which products are sought -/
structure Acc0 (rows : List (List Nat)) (wd : Nat) (m : List (Nat × Nat)) : Prop where
  form : Form rows wd
  made : Mon.madeTab 0 rows [] = some m
  len : m.length + 1 = rows.length
theorem Acc0.left {rows : List (List Nat)} {wd : Nat} {m : List (Nat × Nat)} (A : Acc0 rows wd m) (i : Nat) : ∀ l ∈ Mon.leftTab rows (m.take i), l.length = wd ∧ ∀ x ∈ l, x < rows.length := by
  obtain ⟨f1, f2, w1, w6, fr⟩ := A.form
  have r0 : (rows.getD 0 []).length = wd ∧ ∀ x ∈ rows.getD 0 [], x < rows.length := by
    obtain ⟨row, h⟩ := lt_get (show 0 < rows.length by omega)
    rw [Mon.getD_of h]
    exact fr row (List.mem_of_getElem? h)
  have mk : ∀ p ∈ m, p.2 < wd := fun p hp => by
    obtain ⟨k, hk⟩ := List.getElem?_of_mem hp
    obtain ⟨_, row, h1, h2⟩ := Mon.madeTab_lt A.made hk
    have := get_lt h2
    rw [(fr row (List.mem_of_getElem? h1)).1] at this
    exact this
  induction i with
  | zero =>
    intro l hl
    rw [List.take_zero] at hl
    have : Mon.leftTab rows [] = [rows.getD 0 []] := rfl
    rw [this, List.mem_singleton] at hl
    rw [hl]
    exact r0
  | succ i ih =>
    by_cases hi : i < m.length
    case neg =>
      rw [List.take_of_length_le (by omega), ← List.take_of_length_le (show m.length ≤ i by omega)]
      exact ih
    obtain ⟨p, hp⟩ := lt_get hi
    rw [take_snoc hp, Mon.left_snoc]
    intro l hl
    rcases List.mem_append.mp hl with h | h
    · exact ih l h
    · rw [List.mem_singleton] at h
      rw [h]
      have lt := (Mon.madeTab_lt A.made hp).1
      obtain ⟨l0, h0⟩ := lt_get (show p.1 < (Mon.leftTab rows (m.take i)).length by rw [Mon.left_len, List.length_take]; omega)
      rw [Mon.getD_of h0]
      obtain ⟨a, b⟩ := ih l0 (List.mem_of_getElem? h0)
      refine ⟨by rw [List.length_map]; exact a, fun x hx => ?_⟩
      obtain ⟨y, hy, rfl⟩ := List.mem_map.mp hx
      obtain ⟨row, hrow⟩ := lt_get (b y hy)
      have fo := fr row (List.mem_of_getElem? hrow)
      obtain ⟨e, he⟩ := lt_get (show p.2 < row.length by rw [fo.1]; exact mk p (List.mem_of_getElem? hp))
      rw [Mon.getD_of hrow, Mon.getD_of he]
      exact fo.2 e (List.mem_of_getElem? he)
/-- a Monoid -/
structure Mo (K : PySem.W.Frag) (H : Hp) (x : Addr) (rows : List (List Nat)) (m : List (Nat × Nat)) : Prop where
  ex : ∃ dx t u v, H x = some (.ins (He.ga K "Monoid") dx [("right", .ref t), ("_made", .ref u), ("_left", .ref v)]) ∧ RowsT K H t rows ∧ MadeT K H u m ∧ RowsT K H v (Mon.leftTab rows m)
theorem Mo.same {K : PySem.W.Frag} {H H' : Hp} {x : Addr} {rows : List (List Nat)} {m : List (Nat × Nat)} (h : Mo K H x rows m) (e : Same H H') : Mo K H' x rows m := by
  obtain ⟨dx, t, u, v, a, b, c, d⟩ := h.ex
  exact ⟨dx, t, u, v, e _ _ a, b.same e, c.same e, d.same e⟩
/-- rows as data -/
def tabD (rows : List (List Nat)) : List RowD := rows.map fun row => some (row.map fun t => some ((t : Nat) : Int))
theorem nums {K : PySem.W.Frag} {H : Hp} : ∀ (row : List Nat), Paired (NumK K H) (row.map nv) (row.map fun t => some ((t : Nat) : Int))
  | [] => .nil
  | t :: r => .cons (.int _) (nums r)
theorem row_v {K : PySem.W.Frag} {H : Hp} {a : Addr} {row : List Nat} (h : SqL K H a (row.map nv) ∨ SqT K H a (row.map nv)) : RowV K H (.ref a) (some (row.map fun t => some ((t : Nat) : Int))) := by
  rcases h with h | h
  · exact ⟨_, .lst h, nums row⟩
  · exact ⟨_, .tup h, nums row⟩
/-- rows, each a list or a tuple, in a list or a tuple -/
structure RowsA (K : PySem.W.Frag) (H : Hp) (r : Addr) (rows : List (List Nat)) : Prop where
  ex : ∃ as : List Addr, (SqL K H r (as.map V.ref) ∨ SqT K H r (as.map V.ref)) ∧ as.length = rows.length ∧ ∀ (i : Nat) a row, as[i]? = some a → rows[i]? = some row → SqL K H a (row.map nv) ∨ SqT K H a (row.map nv)
theorem sq_same {K : PySem.W.Frag} {H H' : Hp} {r : Addr} {xs : List V} (s : Same H H') (h : SqL K H r xs ∨ SqT K H r xs) : SqL K H' r xs ∨ SqT K H' r xs := by
  rcases h with h | h
  · exact .inl (L2.Same.seq s h)
  · exact .inr (Lf.SqT.same s h)
theorem RowsA.same {K : PySem.W.Frag} {H H' : Hp} {r : Addr} {rows : List (List Nat)} (h : RowsA K H r rows) (e : Same H H') : RowsA K H' r rows := by
  obtain ⟨as, a, b, c⟩ := h.ex
  exact ⟨as, sq_same e a, b, fun i x row h1 h2 => sq_same e (c i x row h1 h2)⟩
theorem RowsL.a {K : PySem.W.Frag} {H : Hp} {r : Addr} {rows : List (List Nat)} (h : RowsL K H r rows) : RowsA K H r rows := by
  obtain ⟨as, a, b, c⟩ := h.ex
  exact ⟨as, .inl a, b, fun i x row h1 h2 => .inl (c i x row h1 h2)⟩
theorem RowsT.a {K : PySem.W.Frag} {H : Hp} {r : Addr} {rows : List (List Nat)} (h : RowsT K H r rows) : RowsA K H r rows := by
  obtain ⟨as, a, b, c⟩ := h.ex
  exact ⟨as, .inr a, b, fun i x row h1 h2 => .inr (c i x row h1 h2)⟩
theorem sqT_upd {K : PySem.W.Frag} {H : Hp} {D u : Addr} {l : List V} {o : HO} {xs : List V} (h : SqT K H u xs) (hD : H D = some (.lst l)) : SqT K (upd H D o) u xs := by
  rcases h with (h | ⟨o', h⟩) | h
  · exact .inl (.inl (by rw [upd_ne (fun z => by rw [z, hD] at h; cases h)]; exact h))
  · exact .inl (.inr ⟨o', by rw [upd_ne (fun z => by rw [z, hD] at h; cases h)]; exact h⟩)
  · exact .inr h
theorem pair_of {α β : Type} {F : α → β → Prop} : ∀ {as : List α} {bs : List β}, as.length = bs.length → (∀ (i : Nat) a b, as[i]? = some a → bs[i]? = some b → F a b) → Paired F as bs
  | [], [], _, _ => .nil
  | a :: as, b :: bs, e, h => .cons (h 0 a b rfl rfl) (pair_of (by simpa using e) fun i x y h1 h2 => h (i + 1) x y h1 h2)
  | [], _ :: _, e, _ => by cases e
  | _ :: _, [], e, _ => by cases e
theorem RowsA.tab {K : PySem.W.Frag} {H : Hp} {r : Addr} {rows : List (List Nat)} (h : RowsA K H r rows) : TabV K H (.ref r) (some (tabD rows)) := by
  obtain ⟨as, a, b, c⟩ := h.ex
  have sq : SeqK K H (.ref r) (some (as.map V.ref)) := by
    rcases a with a | a
    · exact .lst a
    · exact .tup a
  refine ⟨_, sq, pair_of (by rw [List.length_map, tabD, List.length_map, b]) fun i x y h1 h2 => ?_⟩
  obtain ⟨u, hu, rfl⟩ := map_get h1
  obtain ⟨row, hr, rfl⟩ := map_get h2
  exact row_v (c i u row hu hr)
theorem Form.ok {rows : List (List Nat)} {wd : Nat} (F : Form rows wd) : lenOk (tabD rows) = true ∧ ∀ (i : Nat) r, (tabD rows)[i]? = some r → rowOk (tabD rows).length ((tabD rows).getD 0 none) r = true := by
  obtain ⟨f1, f2, w1, w6, fr⟩ := F
  have l : (tabD rows).length = rows.length := List.length_map _
  refine ⟨by rw [lenOk, l, decide_eq_true (by omega), decide_eq_true (by omega)]; rfl, fun i r h => ?_⟩
  obtain ⟨row, hr, rfl⟩ := map_get h
  obtain ⟨row0, h0⟩ := lt_get (show 0 < rows.length by omega)
  have g0 : (tabD rows).getD 0 none = some (row0.map fun t => some ((t : Nat) : Int)) := by
    rw [List.getD_eq_getElem?_getD]
    unfold tabD
    rw [get_map h0]
    rfl
  have a := fr row (List.mem_of_getElem? hr)
  have b := fr row0 (List.mem_of_getElem? h0)
  rw [rowOk_some, g0, l, List.length_map, decide_eq_true (show (1 : Int) ≤ (row.length : Nat) by omega), decide_eq_true (show ((row.length : Nat) : Int) ≤ 6 by omega), decide_eq_true (by show some (List.length _) = _; rw [List.length_map, a.1, b.1])]
  show List.all _ _ = true
  rw [List.all_eq_true]
  intro x hx
  obtain ⟨t, ht, rfl⟩ := List.mem_map.mp hx
  exact btw_nv (a.2 t ht)
/-- a table in order is told whole -/
theorem made_len {rows : List (List Nat)} {wd : Nat} {m : List (Nat × Nat)} (F : Form rows wd) (h : Mon.madeTab 0 rows [] = some m) : m.length + 1 = rows.length := by
  obtain ⟨f1, _, _, _, fr⟩ := F
  obtain ⟨row, hr⟩ := lt_get (show rows.length - 1 < rows.length by omega)
  obtain ⟨m', a1, a2, m2, a3, a4⟩ := Mon.madeTab_at h hr
  have up : m'.length ≤ m.length := len_grow h a1
  have lo : m.length < rows.length := by
    by_cases z : m.length = 0
    · omega
    · obtain ⟨p, hp⟩ := lt_get (show m.length - 1 < m.length by omega)
      obtain ⟨_, r2, b1, b2⟩ := Mon.madeTab_lt h hp
      have := (fr r2 (List.mem_of_getElem? b1)).2 _ (List.mem_of_getElem? b2)
      omega
  omega
/-- the error that is told where the object at p is under way -/
def BadB (K : PySem.W.Frag) (H : Hp) (p : Addr) (E : XK) (what : Str) (i : Int) : Prop := ∀ d H', H d = none → But p H H' → H' d = some (.xd [("place", .int i), ("what", .str what)]) → E (.ref (He.ga K "NoMonoid")) (some d) H'
def spMon (K : PySem.W.Frag) : Sp := fun vs H Q E => ∃ p x dx, vs = [.ref p, x] ∧ H p = some (.ins (He.ga K "Monoid") dx []) ∧
  ((∃ t, TabV K H x t ∧ (∀ rs, t = some rs → lenOk rs = false) ∧ BadB K H p E "form" (-1)) ∨
   (∃ (rs : List RowD) (i : Nat) (r : RowD), TabV K H x (some rs) ∧ lenOk rs = true ∧ rs[i]? = some r ∧ (∀ (j : Nat) r', j < i → rs[j]? = some r' → rowOk rs.length (rs.getD 0 none) r' = true) ∧ rowOk rs.length (rs.getD 0 none) r = false ∧ BadB K H p E "form" (i : Nat)) ∨
   (∃ r rows wd, x = .ref r ∧ RowsA K H r rows ∧ Form rows wd ∧
     (∀ i m', i < rows.length → Mon.madeTab 0 (rows.take i) [] = some m' → Mon.madeTab 0 (rows.take (i + 1)) [] = none → BadB K H p E "order" (i : Nat)) ∧
     ∀ m, Mon.madeTab 0 rows [] = some m → ((∀ i, gRow rows (Mon.leftTab rows m) i) → ∀ H', But p H H' → Mo K H' p rows m → Q .non H') ∧
       ∀ i, i < rows.length → (∀ j, j < i → gRow rows (Mon.leftTab rows m) j) → ¬ gRow rows (Mon.leftTab rows m) i → BadB K H p E "product" (i : Nat)))
abbrev rTup (K : PySem.W.Frag) : List V → Hp → VK → Prop := fun xs H Q => ∃ p ys, xs = [V.ref p] ∧ ((SqL K H p ys ∧ ∀ (l : Addr), H l = none → Q (V.ref l) (L2.upd H l (HO.tup ys))) ∨ SqT K H p ys ∧ Q (V.ref p) H)
theorem tt_more {K : PySem.W.Frag} {H1 : Hp} {rows : List (List Nat)} (n2 : rows.length ≤ 2000) (i : Nat) (Hc H2 : Hp) (D : Addr) (us : List Addr) (u : Addr) (row : List Nat) (nD : H1 D = none) (bc : But D H1 Hc) (s2 : Same Hc H2) (lu : us.length = i) (hD : Hc D = some (.lst (us.map V.ref))) (pu : ∀ (j : Nat) u row, us[j]? = some u → rows[j]? = some row → SqT K Hc u (row.map nv)) (hrow : rows[i]? = some row) (su : SqT K H2 u (row.map nv)) :
    ∃ acc, H2 D = some (.lst acc) ∧ acc.length < sizeLine ∧ (But D H1 (L2.upd H2 D (.lst (acc ++ [.ref u]))) ∧ ∃ us : List Addr, us.length = i + 1 ∧ L2.upd H2 D (.lst (acc ++ [.ref u])) D = some (.lst (us.map V.ref)) ∧ ∀ (j : Nat) u' row, us[j]? = some u' → rows[j]? = some row → SqT K (L2.upd H2 D (.lst (acc ++ [.ref u]))) u' (row.map nv)) := by
  have i2 := get_lt hrow
  have hD2 := s2 _ _ hD
  refine ⟨_, hD2, by rw [List.length_map, lu]; show i < 16777216; omega, But.trans (bc.trans (But.of s2)) But.upd, us ++ [u], by rw [List.length_append, lu]; rfl, by rw [upd_same, List.map_append]; rfl, fun j v rw' h1 h2 => ?_⟩
  refine sqT_upd ?_ hD2
  by_cases hj : j < us.length
  · rw [List.getElem?_append_left hj] at h1
    exact Lf.SqT.same s2 (pu j v rw' h1 h2)
  · have hj2 : j = us.length := by
      have := get_lt h1
      rw [List.length_append, List.length_singleton] at this
      omega
    rw [hj2, List.getElem?_append_right (Nat.le_refl _), Nat.sub_self] at h1
    cases h1
    rw [hj2, lu, hrow] at h2
    cases h2
    exact su
abbrev teTT (K : PySem.W.Frag) : TE := tCB (rTup K) (tCons (fun σ H Q => tLc (iList K (tVar 1)) (gName 2) tYes (tCB (rTup K) (tCons (tVar 2) tNil)) [2] σ H Q ∨ tLc (iTup K (tVar 1)) (gName 2) tYes (tCB (rTup K) (tCons (tVar 2) tNil)) [2] σ H Q) tNil)
/-- tuple([tuple(row) for row in right]) -/
theorem tt_ok {K : PySem.W.Frag} {H : Hp} {p : V} {r : Addr} {rows : List (List Nat)} {Q : VK} (R : RowsA K H r rows) (n2 : rows.length ≤ 2000) (k : ∀ t H', H t = none → Same H H' → RowsT K H' t rows → Q (.ref t) H') : teTT K [some p, some (.ref r), none] H Q := by
  obtain ⟨as, sr, la, srow⟩ := R.ex
  rcases sr with sr | sr
  · refine .inl ⟨_, rfl, r, rfl, ⟨_, sr⟩, fun D nD => ?_⟩
    refine lc_list (K := K) (a := r) (xs := as.map V.ref) (fun i Hc => But D H Hc ∧ ∃ us : List Addr, us.length = i ∧ Hc D = some (.lst (us.map V.ref)) ∧ ∀ (j : Nat) u row, us[j]? = some u → rows[j]? = some row → SqT K Hc u (row.map nv)) ⟨But.upd, [], rfl, upd_same, fun j u row h => by simp at h⟩ (fun i Hc _ ⟨bc, _⟩ => L2.Same.seq (Same.but (L2.Same.refl _) nD bc) sr) (fun i z Hc hz ⟨bc, us, lu, hD, pu⟩ => ?_) (fun Hc ⟨bc, us, lu, hD, pu⟩ => ?_)
    · obtain ⟨a, ha, rfl⟩ := map_get hz
      obtain ⟨row, hrow⟩ := lt_get (show i < rows.length by have := get_lt ha; omega)
      have sc := Same.but (L2.Same.refl _) nD bc
      have i2 := get_lt hrow
      refine ⟨rfl, yesT ?_⟩
      rcases srow i a row ha hrow with sa | sa
      · refine ⟨_, rfl, a, row.map nv, rfl, .inl ⟨L2.Same.seq sc sa, fun u nu => ?_⟩⟩
        have u2 := same_upd (o := .tup (row.map nv)) nu
        exact tt_more n2 i Hc _ D us u row nD bc u2 lu hD pu hrow (SqT.of upd_same)
      · refine ⟨_, rfl, a, row.map nv, rfl, .inr ⟨Lf.SqT.same sc sa, ?_⟩⟩
        exact tt_more n2 i Hc _ D us a row nD bc (L2.Same.refl _) lu hD pu hrow (Lf.SqT.same sc sa)
    rw [List.length_map, la] at lu
    have sc := Same.but (L2.Same.refl _) nD bc
    refine ⟨D, _, rfl, .inl ⟨SqL.of hD, fun t nt => ?_⟩⟩
    have u2 := same_upd (o := .tup (us.map V.ref)) nt
    exact k t _ (nil_of sc nt) (sc.trans u2) ⟨us, SqT.of upd_same, lu, fun j u row h1 h2 => Lf.SqT.same u2 (pu j u row h1 h2)⟩
  · refine .inr ⟨_, rfl, r, rfl, ⟨_, sr⟩, fun D nD => ?_⟩
    refine lc_tup (K := K) (a := r) (xs := as.map V.ref) (fun i Hc => But D H Hc ∧ ∃ us : List Addr, us.length = i ∧ Hc D = some (.lst (us.map V.ref)) ∧ ∀ (j : Nat) u row, us[j]? = some u → rows[j]? = some row → SqT K Hc u (row.map nv)) ⟨But.upd, [], rfl, upd_same, fun j u row h => by simp at h⟩ (fun i Hc _ ⟨bc, _⟩ => Lf.SqT.same (Same.but (L2.Same.refl _) nD bc) sr) (fun i z Hc hz ⟨bc, us, lu, hD, pu⟩ => ?_) (fun Hc ⟨bc, us, lu, hD, pu⟩ => ?_)
    · obtain ⟨a, ha, rfl⟩ := map_get hz
      obtain ⟨row, hrow⟩ := lt_get (show i < rows.length by have := get_lt ha; omega)
      have sc := Same.but (L2.Same.refl _) nD bc
      have i2 := get_lt hrow
      refine ⟨rfl, yesT ?_⟩
      rcases srow i a row ha hrow with sa | sa
      · refine ⟨_, rfl, a, row.map nv, rfl, .inl ⟨L2.Same.seq sc sa, fun u nu => ?_⟩⟩
        have u2 := same_upd (o := .tup (row.map nv)) nu
        exact tt_more n2 i Hc _ D us u row nD bc u2 lu hD pu hrow (SqT.of upd_same)
      · refine ⟨_, rfl, a, row.map nv, rfl, .inr ⟨Lf.SqT.same sc sa, ?_⟩⟩
        exact tt_more n2 i Hc _ D us a row nD bc (L2.Same.refl _) lu hD pu hrow (Lf.SqT.same sc sa)
    rw [List.length_map, la] at lu
    have sc := Same.but (L2.Same.refl _) nD bc
    refine ⟨D, _, rfl, .inl ⟨SqL.of hD, fun t nt => ?_⟩⟩
    have u2 := same_upd (o := .tup (us.map V.ref)) nt
    exact k t _ (nil_of sc nt) (sc.trans u2) ⟨us, SqT.of upd_same, lu, fun j u row h1 h2 => Lf.SqT.same u2 (pu j u row h1 h2)⟩
def tTT (K : PySem.W.Frag) : TE := fun σ H Q => ∃ (p : V) (r : Addr) (rows : List (List Nat)), σ = [some p, some (.ref r), none] ∧ RowsA K H r rows ∧ rows.length ≤ 2000 ∧ ∀ t H', H t = none → Same H H' → RowsT K H' t rows → Q (.ref t) H'
theorem tt_imp {K : PySem.W.Frag} : ∀ σ H Q, tTT K σ H Q → teTT K σ H Q := fun σ H Q ⟨p, r, rows, e, R, n2, k⟩ => by
  subst e
  exact tt_ok R n2 k
section
variable {P : Program} {w : World} {K : PySem.W.Frag} {mg : Str → Option Value} {base : Heap}
theorem scMon : FnScope ["self", "right", "row"] ["self", "right"] (defScope s_Monoid_init) := ⟨rfl, rfl, rfl, by decide +kernel, rfl, by decide +kernel, by decide +kernel⟩
theorem ok_mon {f : Addr} {fd : FuncData} {q : Str} (F : FunD K "__init__" q (defArgs s_Monoid_init) (defBody s_Monoid_init) (defScope s_Monoid_init) [] [] f fd) (T : Txt P w K mg base)
    (DF : Def P w K mg base (L2.CX P w) 3 "_check_form" ["right"] (spForm K)) (DM : Def P w K mg base (L2.CX P w) 3 "_made_by" ["right"] (spMade K)) (DL : Def P w K mg base CX0 1 "_left_table" ["right", "made"] (spLeft K)) (DP : Def P w K mg base (L2.CX P w) 3 "_check_products" ["right", "left"] (spProds K)) :
    FnOk P w K mg base (L2.CX P w) 4 f fd ["self", "right"] (spMon K) := by
  have zt : mg "tuple" = none := T.fr 41 "tuple" rfl
  have cl : L2.Cls K (He.ga K "Monoid") := He.cls_ok (T.d.fact 43 (f := .cls "Monoid") rfl)
  have n1 : NoAttr K (He.ga K "Monoid") "right" := He.noat_ok (T.d.fact 51 (f := .noat "Monoid" "right") rfl)
  have n2 : NoAttr K (He.ga K "Monoid") "_made" := He.noat_ok (T.d.fact 52 (f := .noat "Monoid" "_made") rfl)
  have n3 : NoAttr K (He.ga K "Monoid") "_left" := He.noat_ok (T.d.fact 53 (f := .noat "Monoid" "_left") rfl)
  refine F.ok scMon (fun vs H Q E h => ?_) (fun cdv A outer s H vs Q E hr h => ?_)
  · obtain ⟨p, x, dx, rfl, _⟩ := h
    rfl
  · obtain ⟨p, x, dx, rfl, hp, h⟩ := h
    have r1 : Room 1 _ := hr.mono (by decide)
    refine ⟨_, (pss_cons (ps_expr (pe_def DF hr (passes_call (E := E) (takes_of rfl rfl rfl rfl) fun _ _ _ _ z => z) rfl (pa_cons (pv 1) pa_nil)))
      (pss_cons (ps_fld (pv 0) (PE.imp (t' := tTT K) (pe_callTy call_tuple_of rfl zt PyProof.Rows.boot_tuple (pa_cons (PE.or (pe_lc (own := [("row", 2)]) (g := gName 2) (te := tCB (rTup K) (tCons (tVar 2) tNil)) (by rfl) scMon.nd (pi_list (pv 1)) (blkOk_by (own := [("row", 2)]) (N := ["self", "right", "row"]) (sc := defScope s_Monoid_init) (by decide +kernel)) (fun _ _ _ _ _ => pg_name (i := 2) scMon.nd rfl (Or.inl rfl)) (fun _ _ _ _ _ => pts_nil)
        (fun _ _ _ _ _ => by exact pe_callTy call_tuple_of rfl zt PyProof.Rows.boot_tuple (pa_cons (pv 2) pa_nil)))
        (pe_lc (own := [("row", 2)]) (g := gName 2) (te := tCB (rTup K) (tCons (tVar 2) tNil)) (by rfl) scMon.nd (pi_tup (pv 1)) (blkOk_by (own := [("row", 2)]) (N := ["self", "right", "row"]) (sc := defScope s_Monoid_init) (by decide +kernel)) (fun _ _ _ _ _ => pg_name (i := 2) scMon.nd rfl (Or.inl rfl)) (fun _ _ _ _ _ => pts_nil)
        (fun _ _ _ _ _ => by exact pe_callTy call_tuple_of rfl zt PyProof.Rows.boot_tuple (pa_cons (pv 2) pa_nil)))) pa_nil)) tt_imp) rfl)
      (pss_cons (ps_fld (pv 0) (pe_def DM hr (passes_call (E := E) (takes_of rfl rfl rfl rfl) fun _ _ _ _ z => z) rfl (pa_cons (pe_fld (pv 0) rfl) pa_nil)) rfl)
      (pss_cons (ps_fld (pv 0) (pe_def DL r1 pass0 rfl (pa_cons (pe_fld (pv 0) rfl) (pa_cons (pe_fld (pv 0) rfl) pa_nil))) rfl)
      (pss_one (ps_expr (pe_def DP hr (passes_call (E := E) (takes_of rfl rfl rfl rfl) fun _ _ _ _ z => z) rfl (pa_cons (pe_fld (pv 0) rfl) (pa_cons (pe_fld (pv 0) rfl) pa_nil))))))))), ?_⟩
    have toB : ∀ {what : Str} {i : Int}, BadB K H p E what i → Bad K H E what i := fun b d H' nd sd hd => b d H' nd (But.of sd) hd
    rcases h with ⟨t, tv, bl, bad⟩ | ⟨rs, i, r, tv, lo, hi, pre, no, bad⟩ | ⟨r, rows, wd, rfl, R, FO, ordr, rest⟩
    · exact ⟨_, rfl, x, t, rfl, tv, fun _ => toB bad, fun rs er ok => by rw [bl rs er] at ok; cases ok⟩
    · refine ⟨_, rfl, x, some rs, rfl, tv, (fun z => by rw [z rs rfl] at lo; cases lo), fun rs' er ok => ?_⟩
      cases er
      refine ⟨(fun all => by rw [all i r hi] at no; cases no), fun i' r' hi' pre' no' => ?_⟩
      rcases Nat.lt_trichotomy i i' with z | z | z
      · rw [pre' i r z hi] at no; cases no
      · exact z ▸ toB bad
      · rw [pre i' r' z hi'] at no'; cases no'
    obtain ⟨fo1, fo2⟩ := FO.ok
    obtain ⟨f1, f2, w1, w6, frow⟩ := id FO
    refine ⟨_, rfl, .ref r, _, rfl, R.tab, (fun z => by rw [z _ rfl] at fo1; cases fo1), fun rs ers _ => ?_⟩
    cases ers
    refine ⟨fun _ H1 s1 => ?_, (fun i r hi _ no => by rw [fo2 i r hi] at no; cases no)⟩
    refine ⟨_, r, rows, rfl, R.same s1, f2, fun t H2 nt s2' Rt => ?_⟩
    have s2 := s1.trans s2'
    have hp1 := hp
    have hp2 := s2 _ _ hp1
    have b0 : But p H H2 := But.of s2
    refine ⟨_, rfl, p, _, dx, [], rfl, hp2, cl, n1, (by show 0 < 1000; decide), ?_⟩
    have Rt3 : RowsT K (L2.upd H2 p (.ins (He.ga K "Monoid") dx [("right", V.ref t)])) t rows := RowsT.but hp2 But.upd Rt
    have b3 : But p H (L2.upd H2 p (.ins (He.ga K "Monoid") dx [("right", V.ref t)])) := b0.trans But.upd
    have hp3 : L2.upd H2 p (.ins (He.ga K "Monoid") dx [("right", V.ref t)]) p = some (.ins (He.ga K "Monoid") dx [("right", V.ref t)]) := upd_same
    show tSeq _ _ _ _ (L2.upd H2 p (.ins (He.ga K "Monoid") dx [("right", V.ref t)]))
    generalize L2.upd H2 p (.ins (He.ga K "Monoid") dx [("right", V.ref t)]) = H3 at Rt3 b3 hp3 ⊢
    clear Rt b0 hp2 s2 nt hp1 s1 R s2'
    refine ⟨_, rfl, p, _, dx, _, _, rfl, hp3, cl, n1, rfl, t, rows, rfl, Rt3, f2, (fun row hr => ⟨by rw [(frow row hr).1]; exact w6, (frow row hr).2⟩), fun m hm u H4 s4 Mu => ?_, fun i m' hi a1 a2 d H' nd sd hd => ordr i m' hi a1 a2 d H' (b3.nil (fun z => by rw [z, hp3] at nd; cases nd) nd) (b3.trans (But.of sd)) hd⟩
    obtain ⟨k, bad⟩ := rest m hm
    have AC : Acc0 rows wd m := ⟨FO, hm, made_len FO hm⟩
    have hp4 := s4 _ _ hp3
    refine ⟨_, rfl, p, _, dx, _, rfl, hp4, cl, n2, (by show 1 < 1000; decide), ?_⟩
    have b4 : But p H (L2.upd H4 p (.ins (He.ga K "Monoid") dx [("right", V.ref t), ("_made", V.ref u)])) := (b3.trans (But.of s4)).trans But.upd
    have Rt5 : RowsT K (L2.upd H4 p (.ins (He.ga K "Monoid") dx [("right", V.ref t), ("_made", V.ref u)])) t rows := RowsT.but hp4 But.upd (Rt3.same s4)
    have Mu5 : MadeT K (L2.upd H4 p (.ins (He.ga K "Monoid") dx [("right", V.ref t), ("_made", V.ref u)])) u m := MadeT.but hp4 But.upd Mu
    have hp5 : L2.upd H4 p (.ins (He.ga K "Monoid") dx [("right", V.ref t), ("_made", V.ref u)]) p = some (.ins (He.ga K "Monoid") dx [("right", V.ref t), ("_made", V.ref u)]) := upd_same
    show tSeq _ _ _ _ (L2.upd H4 p (.ins (He.ga K "Monoid") dx [("right", V.ref t), ("_made", V.ref u)]))
    generalize L2.upd H4 p (.ins (He.ga K "Monoid") dx [("right", V.ref t), ("_made", V.ref u)]) = H5 at Rt5 Mu5 b4 hp5 ⊢
    clear Rt3 Mu s4 hp4 b3 hp3
    refine ⟨_, rfl, p, _, dx, _, _, rfl, hp5, cl, n1, rfl, _, rfl, p, _, dx, _, _, rfl, hp5, cl, n2, rfl, t, u, rows, m, rfl, Rt5, Mu5, List.ne_nil_of_length_pos (by omega), by have := AC.len; omega, fun k p hp => ?_, fun i k l h => ?_, fun v H6 s6 Lv => ?_⟩
    · obtain ⟨a, row, b, c⟩ := Mon.madeTab_lt AC.made hp
      refine ⟨a, fun row' h => ?_⟩
      have := get_lt c
      rw [(frow row (List.mem_of_getElem? b)).1] at this
      rw [(frow row' h).1]
      exact this
    · obtain ⟨a, b⟩ := AC.left i l (List.mem_of_getElem? h)
      exact ⟨by omega, b⟩
    have hp6 := s6 _ _ hp5
    refine ⟨_, rfl, p, _, dx, _, rfl, hp6, cl, n3, (by show 2 < 1000; decide), ?_⟩
    have b6 : But p H (L2.upd H6 p (.ins (He.ga K "Monoid") dx [("right", V.ref t), ("_made", V.ref u), ("_left", V.ref v)])) := (b4.trans (But.of s6)).trans But.upd
    have Rt7 : RowsT K (L2.upd H6 p (.ins (He.ga K "Monoid") dx [("right", V.ref t), ("_made", V.ref u), ("_left", V.ref v)])) t rows := RowsT.but hp6 But.upd (Rt5.same s6)
    have Mu7 : MadeT K (L2.upd H6 p (.ins (He.ga K "Monoid") dx [("right", V.ref t), ("_made", V.ref u), ("_left", V.ref v)])) u m := MadeT.but hp6 But.upd (Mu5.same s6)
    have Lv7 : RowsT K (L2.upd H6 p (.ins (He.ga K "Monoid") dx [("right", V.ref t), ("_made", V.ref u), ("_left", V.ref v)])) v (Mon.leftTab rows m) := RowsT.but hp6 But.upd Lv
    have hp7 : L2.upd H6 p (.ins (He.ga K "Monoid") dx [("right", V.ref t), ("_made", V.ref u), ("_left", V.ref v)]) p = some (.ins (He.ga K "Monoid") dx [("right", V.ref t), ("_made", V.ref u), ("_left", V.ref v)]) := upd_same
    show Ends.nx _ _ (L2.upd H6 p (.ins (He.ga K "Monoid") dx [("right", V.ref t), ("_made", V.ref u), ("_left", V.ref v)]))
    generalize L2.upd H6 p (.ins (He.ga K "Monoid") dx [("right", V.ref t), ("_made", V.ref u), ("_left", V.ref v)]) = H7 at Rt7 Mu7 Lv7 b6 hp7 ⊢
    have lL : (Mon.leftTab rows m).length = rows.length := by rw [Mon.left_len, AC.len]
    have left' : ∀ (k : Nat) l, (Mon.leftTab rows m)[k]? = some l → l.length = wd ∧ ∀ x ∈ l, x < rows.length := fun k l h => AC.left m.length l (by rw [List.take_length]; exact List.mem_of_getElem? h)
    refine ⟨_, rfl, p, _, dx, _, _, rfl, hp7, cl, n1, rfl, _, rfl, p, _, dx, _, _, rfl, hp7, cl, n3, rfl, t, v, rows, Mon.leftTab rows m, rfl, Rt7, Lv7, lL, fun i row c x li h1 h2 h3 => ?_, fun gd H8 s8 => ?_, fun i hi pre no d H' nd sd hd => ?_⟩
    · obtain ⟨fr, fx⟩ := frow row (List.mem_of_getElem? h1)
      obtain ⟨la', lb'⟩ := left' i li h3
      have hx := fx x (List.mem_of_getElem? h2)
      refine ⟨fun row' h => ?_, by omega, lb', hx⟩
      have := get_lt h2
      rw [(frow row' h).1]
      omega
    · exact k gd H8 (b6.trans (But.of s8)) ⟨dx, t, u, v, s8 _ _ hp7, Rt7.same s8, Mu7.same s8, Lv7.same s8⟩
    · refine bad i hi pre no d H' ?_ (b6.trans (But.of sd)) hd
      exact b6.nil (fun z => by rw [z, hp7] at nd; cases nd) nd
end
end K12

set_option Elab.async false
set_option linter.all false
set_option maxRecDepth 100000
set_option maxHeartbeats 8000000
namespace K12
open PySem PySem.Spec PyProof.Rows L2 Lf
/-- how a table is told: none, or what and where -/
inductive Vd (t : Option (List RowD)) : Option (Str × Int) → Prop
  | len (h : ∀ rs, t = some rs → lenOk rs = false) : Vd t (some ("form", -1))
  | row {rs : List RowD} {i : Nat} {r : RowD} (e : t = some rs) (l : lenOk rs = true) (hi : rs[i]? = some r) (pre : ∀ (j : Nat) r', j < i → rs[j]? = some r' → rowOk rs.length (rs.getD 0 none) r' = true) (no : rowOk rs.length (rs.getD 0 none) r = false) : Vd t (some ("form", (i : Nat)))
  | ord {rows : List (List Nat)} {wd i : Nat} {m' : List (Nat × Nat)} (e : t = some (tabD rows)) (F : Form rows wd) (hi : i < rows.length) (a : Mon.madeTab 0 (rows.take i) [] = some m') (b : Mon.madeTab 0 (rows.take (i + 1)) [] = none) : Vd t (some ("order", (i : Nat)))
  | prod {rows : List (List Nat)} {wd i : Nat} {m : List (Nat × Nat)} (e : t = some (tabD rows)) (F : Form rows wd) (a : Mon.madeTab 0 rows [] = some m) (hi : i < rows.length) (pre : ∀ j, j < i → gRow rows (Mon.leftTab rows m) j) (no : ¬ gRow rows (Mon.leftTab rows m) i) : Vd t (some ("product", (i : Nat)))
  | ok {rows : List (List Nat)} {wd : Nat} {m : List (Nat × Nat)} (e : t = some (tabD rows)) (F : Form rows wd) (a : Mon.madeTab 0 rows [] = some m) (g : ∀ i, gRow rows (Mon.leftTab rows m) i) : Vd t none
theorem nums_inv {K : PySem.W.Frag} {H : Hp} : ∀ {row : List Nat} {ys : List V}, Paired (NumK K H) ys (row.map fun t => some ((t : Nat) : Int)) → ys = row.map nv
  | [], _, h => by cases h; rfl
  | t :: r, _, h => by
    cases h with
    | cons a b =>
      rw [nums_inv b]
      cases a
      rfl
/-- a table of numbers is one of rows -/
theorem rows_of {K : PySem.W.Frag} {H : Hp} {x : V} {rows : List (List Nat)} (h : TabV K H x (some (tabD rows))) : ∃ r, x = .ref r ∧ RowsA K H r rows := by
  obtain ⟨vs, sq, pr⟩ := h
  obtain ⟨r, rfl, sr⟩ := sq.len
  have key : ∀ {rows : List (List Nat)} {vs : List V}, Paired (RowV K H) vs (tabD rows) → ∃ as : List Addr, vs = as.map V.ref ∧ as.length = rows.length ∧ ∀ (i : Nat) a row, as[i]? = some a → rows[i]? = some row → SqL K H a (row.map nv) ∨ SqT K H a (row.map nv) := by
    intro rows
    induction rows with
    | nil => intro vs h; cases h; exact ⟨[], rfl, rfl, fun i a row h => by simp at h⟩
    | cons row rest ih =>
      intro vs h
      cases h with
      | cons a b =>
        obtain ⟨as, e, l, p⟩ := ih b
        obtain ⟨ys, sy, pn⟩ := a
        obtain ⟨u, rfl, su⟩ := sy.len
        rw [nums_inv pn] at su
        refine ⟨u :: as, by rw [e]; rfl, by rw [List.length_cons, List.length_cons, l], fun i a row' h1 h2 => ?_⟩
        cases i with
        | zero => cases h1; cases h2; exact su
        | succ i => exact p i a row' (by simpa using h1) (by simpa using h2)
  obtain ⟨as, rfl, la, p⟩ := key pr
  exact ⟨r, rfl, as, sr, la, p⟩
/-- what is told: None, or a pair -/
def Told (H : Hp) (v : Option (Str × Int)) (Q : VK) : Prop := (v = none → ∀ H', Same H H' → Q .non H') ∧ ∀ w i, v = some (w, i) → ∀ p H', H p = none → Same H H' → H' p = some (.tup [.str w, .int i]) → Q (.ref p) H'
def spHeard (K : PySem.W.Frag) : Sp := fun vs H Q _ => ∃ x t v, vs = [x] ∧ TabV K H x t ∧ Vd t v ∧ Told H v Q
/-- Monoid(x), by how it is told -/
theorem mon_vd {K : PySem.W.Frag} {H : Hp} {x : V} {p dx : Addr} {t : Option (List RowD)} {v : Option (Str × Int)} {W : Hp → Prop} {E : XK} (tv : TabV K H x t) (vd : Vd t v) (np : H p = none) (ndx : H dx = none) (xdx : dx ≠ p)
    (good : v = none → ∀ H' rows m, t = some (tabD rows) → Mon.madeTab 0 rows [] = some m → Same H H' → Mo K H' p rows m → W H') (bad : ∀ w i, v = some (w, i) → ∀ d H', H d = none → Same H H' → H' d = some (.xd [("place", .int i), ("what", .str w)]) → E (.ref (He.ga K "NoMonoid")) (some d) H') :
    spMon K [.ref p, x] (L2.upd (L2.upd H dx (.own p)) p (.ins (He.ga K "Monoid") dx [])) (fun u H2 => u = .non ∧ W H2) E := by
  have u1 := same_upd (o := .own p) ndx
  have np1 : L2.upd H dx (.own p) p = none := by rw [upd_ne (Ne.symm xdx)]; exact np
  have u2 := u1.trans (same_upd (o := .ins (He.ga K "Monoid") dx []) np1)
  have bb : ∀ {w : Str} {i : Int}, v = some (w, i) → BadB K (L2.upd (L2.upd H dx (.own p)) p (.ins (He.ga K "Monoid") dx [])) p E w i := fun e d H' nd b hd => bad _ _ e d H' (nil_of u2 nd) (fun c o q => b _ _ (ne_of_none q np) (u2 _ _ q)) hd
  refine ⟨p, x, dx, rfl, upd_same, ?_⟩
  cases vd with
  | len h => exact .inl ⟨t, tv.same u2, h, bb rfl⟩
  | row e l hi pre no => subst e; exact .inr (.inl ⟨_, _, _, tv.same u2, l, hi, pre, no, bb rfl⟩)
  | @ord rows wd i m' e F hi a b =>
    subst e
    obtain ⟨r, rfl, R⟩ := rows_of (tv.same u2)
    refine .inr (.inr ⟨r, rows, wd, rfl, R, F, fun j m2 hj a2 b2 => ?_, fun m hm => ?_⟩)
    · have : i = j := by
        have up : ∀ {k l : Nat}, Mon.madeTab 0 (rows.take (k + 1)) [] = none → k < l → Mon.madeTab 0 (rows.take l) [] = none := fun {k l} h hl => by
          rw [show rows.take l = rows.take (k + 1) ++ (rows.take l).drop (k + 1) by
            rw [show rows.take (k + 1) = (rows.take l).take (k + 1) by rw [List.take_take, Nat.min_eq_left (by omega)], List.take_append_drop]]
          rw [Mon.madeTab_app, h]
          rfl
        rcases Nat.lt_trichotomy i j with z | z | z
        · rw [up b z] at a2; cases a2
        · exact z
        · rw [up b2 z] at a; cases a
      subst this
      exact bb rfl
    · exfalso
      rw [← List.take_append_drop (i + 1) rows, Mon.madeTab_app, b] at hm
      cases hm
  | @prod rows wd i m e F a hi pre no =>
    subst e
    obtain ⟨r, rfl, R⟩ := rows_of (tv.same u2)
    refine .inr (.inr ⟨r, rows, wd, rfl, R, F, fun j m2 hj a2 b2 => ?_, fun m2 hm => ?_⟩)
    · exfalso
      rw [← List.take_append_drop (j + 1) rows, Mon.madeTab_app, b2] at a
      cases a
    · rw [a] at hm
      cases hm
      refine ⟨fun g => absurd (g i) no, fun j hj pre' no' => ?_⟩
      rcases Nat.lt_trichotomy i j with z | z | z
      · exact absurd (pre' i z) no
      · subst z; exact bb rfl
      · exact absurd (pre j z) no'
  | @ok rows wd m e F a g =>
    subst e
    obtain ⟨r, rfl, R⟩ := rows_of (tv.same u2)
    refine .inr (.inr ⟨r, rows, wd, rfl, R, F, fun j m2 hj a2 b2 => ?_, fun m2 hm => ?_⟩)
    · exfalso
      rw [← List.take_append_drop (j + 1) rows, Mon.madeTab_app, b2] at a
      cases a
    · rw [a] at hm
      cases hm
      exact ⟨fun _ H' b mo => ⟨rfl, good rfl H' rows m rfl a (fun c o q => b _ _ (ne_of_none q np) (u2 _ _ q)) mo⟩, fun j _ _ no => absurd (g j) no⟩
/-- what stands behind the clause -/
def tsM (K : PySem.W.Frag) (j : Nat) : Addr → Value → Option Addr → TS := fun a cls d D σ H =>
  cls = .ref (He.ga K "NoMonoid") ∧ σ[j]? = some (some (.ref a)) ∧ ∃ (dd : Addr) (what : Str) (i : Int), d = some dd ∧ H dd = some (.xd [("place", .int i), ("what", .str what)]) ∧ ∀ t, H t = none → D.rt (.ref t) (upd H t (.tup [.str what, .int i]))
section
variable {P : Program} {w : World} {K : PySem.W.Frag} {mg : Str → Option Value} {base : Heap}
theorem scHeard : FnScope ["_law_right_here", "e"] ["_law_right_here"] (defScope s_L_heard) := ⟨rfl, rfl, rfl, by decide +kernel, rfl, by decide +kernel, by decide +kernel⟩
theorem ok_heard {f : Addr} {fd : FuncData} {q : Str} (F : FunD K "_law_heard" q (defArgs s_L_heard) (defBody s_L_heard) (defScope s_L_heard) [] [] f fd) (T : Txt P w K mg base)
    {fm : Addr} {fdm : FuncData} (mM : Mk K (He.ga K "Monoid") fm) (FM : FnOk P w K mg base (L2.CX P w) 4 fm fdm ["self", "right"] (spMon K)) (bM : Binds K fdm ["self", "right"] []) :
    FnOk P w K mg base CX0 6 f fd ["_law_right_here"] (spHeard K) := by
  have IM := er_NoMonoid T
  have x1 : PySem.W.exmOne K (.ref (He.ga K "NoMonoid")) (.ref (He.ga K "NoMonoid")) = some true := He.exm_ok (T.d.fact 59 (f := .exm "NoMonoid" "NoMonoid" true) rfl)
  refine F.ok scHeard (fun vs H Q E h => ?_) (fun cdv A outer s H vs Q E hr h => ?_)
  · obtain ⟨x, t, v, rfl, _⟩ := h
    rfl
  · obtain ⟨x, t, v, rfl, tv, vd, k1, k2⟩ := h
    refine ⟨_, PSs.nox (pss_cons (ps_tryA (X := (cxOf CX0 P w K mg base ["_law_right_here", "e"] q (defScope s_L_heard) f cdv A outer s H E).nox)
      (l := [(.ref (He.ga K "NoMonoid"), some 1, tsM K 1), (.ref (He.ga K "FoldError"), none, fun _ _ _ => fun D _ H => D.rt (.str "other") H)])
      rfl rfl scHeard.nd LamX.takes0 (fun W pn xe tk _ => pss_one (ps_expr (pe_make mM FM hr rfl (T.gl 3 "Monoid" rfl) bM .nil (passes_call (E := fun cls d H => ∀ σ, W cls d σ H) tk fun _ _ _ _ z => z _) (pa_cons (pv 0) pa_nil))))
      (.as (i := 1) ⟨rfl, by decide +kernel, .inl IM.g⟩ rfl rfl (fun a o cls d pn z fl => ?s1)
      (.plain ⟨rfl, by decide +kernel, .inl (T.gl 0 "FoldError" rfl)⟩ (fun a o cls d pn _ _ => pss_one (ps_ret pe_str)) .nil)))
      (pss_one (ps_ret pe_non))), ?fin⟩
    case s1 =>
      refine pss_some fun D σ H' h' => ?_
      obtain ⟨rfl, h2, dd, what, i, rfl, hdd, k⟩ := h'
      exact ⟨_, pss_one (ps_ret (pe_tup (pa_cons (pe_xf (X := (cxOf CX0 P w K mg base ["_law_right_here", "e"] q (defScope s_L_heard) f cdv A outer s H E).nox) IM.c.x IM.no z fl (pv 1)) (pa_cons (pe_xf (X := (cxOf CX0 P w K mg base ["_law_right_here", "e"] q (defScope s_L_heard) f cdv A outer s H E).nox) IM.c.x IM.no2 z fl (pv 1)) pa_nil)))),
        ⟨_, h2, rfl, rfl, dd, _, _, rfl, hdd, rfl, _, h2, rfl, rfl, dd, _, _, rfl, hdd, rfl, (by show 2 ≤ sizeLine; decide), fun t ht => k t ht⟩⟩
    case fin =>
      refine ⟨_, rfl, fun p dx np ndx xdx => ?_⟩
      refine mon_vd tv vd np ndx xdx (fun e H' rows m _ _ sm _ => k1 e H' sm) (fun w' i e d H' nd sd hd => ?_)
      intro σ ln
      exact ⟨true, x1, fun _ a na => ⟨rfl, List.getElem?_set_self (by rw [ln]; exact Nat.lt_succ_self 1), d, w', i, rfl, hd, fun t nt => k2 w' i e t _ (nil_of sd nt) (sd.trans (same_upd nt)) upd_same⟩, fun z => nomatch z⟩
end
end K12

set_option Elab.async false
set_option linter.all false
set_option maxRecDepth 100000
set_option maxHeartbeats 8000000
namespace K12
open PySem PySem.Spec PyProof.Rows L2 Lf
theorem flat_nv (l : List Nat) : (l.map nv).all flatV = true := by
  rw [List.all_eq_true]
  intro x hx
  obtain ⟨y, _, rfl⟩ := List.mem_map.mp hx
  rfl
theorem eq_nv (a b : Nat) : eqV (nv a) (nv b) = decide (a = b) := by
  show (((a : Nat) : Int) == ((b : Nat) : Int)) = decide (a = b)
  by_cases h : a = b
  · subst h
    simp
  · rw [decide_eq_false h]
    exact beq_false_of_ne fun z => h (by omega)
theorem in_nv {x : Nat} {l : List Nat} : inV (nv x) (l.map nv) = decide (x ∈ l) := by
  unfold inV
  rw [List.any_map]
  induction l with
  | nil => rfl
  | cons y r ih =>
    rw [List.any_cons, ih]
    show (eqV (nv y) (nv x) || _) = _
    rw [eq_nv]
    by_cases h : y = x
    · subst h
      simp
    · by_cases h2 : x ∈ r <;> simp [h, h2, Ne.symm h]
abbrev NOr : List Str := ["_law_right_here", "_law_met", "_law_number", "_law_row", "_law_other"]
def spOrd (K : PySem.W.Frag) : Sp := fun vs H Q _ => ∃ r rows wd, vs = [.ref r] ∧ RowsA K H r rows ∧ Form rows wd ∧ (∀ m, Mon.madeTab 0 rows [] = some m → ∀ H', Same H H' → Q .non H') ∧
  ∀ i m', i < rows.length → Mon.madeTab 0 (rows.take i) [] = some m' → Mon.madeTab 0 (rows.take (i + 1)) [] = none → ∀ H', Same H H' → Q (.int ((i : Nat) : Int)) H'
section
variable {P : Program} {w : World} {K : PySem.W.Frag} {mg : Str → Option Value} {base : Heap}
theorem scOrd : FnScope NOr ["_law_right_here"] (defScope s_L_order_due) := ⟨rfl, rfl, rfl, by decide +kernel, rfl, by decide +kernel, by decide +kernel⟩
theorem ok_ord {f : Addr} {fd : FuncData} {q : Str} (F : FunD K "_law_order_due" q (defArgs s_L_order_due) (defBody s_L_order_due) (defScope s_L_order_due) [] [] f fd) (T : Txt P w K mg base) :
    FnOk P w K mg base CX0 1 f fd ["_law_right_here"] (spOrd K) := by
  have zE : mg "enumerate" = none := T.fr 35 "enumerate" rfl
  have zn : mg "len" = none := T.fr 38 "len" rfl
  refine F.ok scOrd (fun vs H Q E h => ?_) (fun cdv A outer s H vs Q E hr h => ?_)
  · obtain ⟨r, rows, wd, rfl, _⟩ := h
    rfl
  · obtain ⟨r, rows, wd, rfl, R, FO, good, bad⟩ := h
    refine ⟨_, PSs.nox (pss_cons (ps_set (i := 1) scOrd.nd rfl (.inl rfl) (pe_lst (pa_cons pe_int pa_nil)))
      (pss_cons (ps_for PassesOwn.never rfl (pi_enumA rfl zE (pv 0)) (pg_tup rfl (pgs_cons (pg_name (i := 2) scOrd.nd rfl (.inl rfl)) (pgs_cons (pg_name (i := 3) scOrd.nd rfl (.inl rfl)) pgs_nil)))
        (pss_cons (ps_if (pt_cmpR op_notIn_seq (pv 2) (pv 1) (by rfl)) (pss_one (ps_ret (pv 2))) pss_nil)
        (pss_one (ps_for PassesOwn.never rfl (pi_seq (pv 3)) (pg_name (i := 4) scOrd.nd rfl (.inl rfl))
          (pss_one (ps_if (pt_cmpR op_notIn_seq (pv 4) (pv 1) (by rfl))
            (pss_cons (ps_if (pt_cmpR op_ne (pv 4) (pe_callB call_len_seq rfl zn boot_len (pa_cons (pv 1) pa_nil)) (nomark _)) (pss_one (ps_ret (pv 2))) pss_nil)
            (pss_one (ps_expr (pe_bm PySem.F.plainAttrs_list PySem.F.slot_list_append PySem.F.type_list_append mt_append (pv 1) (pa_cons (pv 4) pa_nil))))) pss_nil))))))
      (pss_one (ps_ret pe_non)))), ?_⟩
    obtain ⟨as, sr, la, srow⟩ := R.ex
    obtain ⟨f1, f2, w1, w6, frow⟩ := id FO
    have ln : (as.map V.ref).length = rows.length := by rw [List.length_map, la]
    refine ⟨(by show 1 ≤ sizeLine; decide), fun M nM => ?_⟩
    have s1 := same_upd (o := .lst [V.int 0]) nM
    have m1 : L2.upd H M (.lst [V.int 0]) M = some (.lst ((List.range 1).map nv)) := upd_same
    generalize L2.upd H M (.lst [V.int 0]) = H1 at s1 m1 ⊢
    refine ⟨_, rfl, r, as.map V.ref, rfl, for_enum (H0 := H) sr (fun i σ H2 => ∃ v2 v3 v4 : Option V, σ = [some (.ref r), some (.ref M), v2, v3, v4] ∧ Same H H2 ∧ ∃ m', Mon.madeTab 0 (rows.take i) [] = some m' ∧ H2 M = some (.lst ((List.range (m'.length + 1)).map nv)) ∧ m'.length ≤ 2000) ⟨none, none, none, rfl, s1, [], by simp [Mon.madeTab], m1, by decide⟩ (fun i σ H2 _ ⟨_, _, _, _, s, _⟩ => s) ?_ ?_⟩
    · rintro i y σ H2 ⟨v2, v3, v4, rfl, s2, m', hm', ml, b'⟩ hy T' nT
      obtain ⟨a, ha, rfl⟩ := map_get hy
      have hi2 : i < rows.length := by have := get_lt ha; omega
      obtain ⟨row, hrow⟩ := lt_get hi2
      have sa := srow i a row ha hrow
      obtain ⟨wr, en⟩ := frow row (List.mem_of_getElem? hrow)
      have next : Mon.madeTab 0 (rows.take (i + 1)) [] = if m'.length + 1 ≤ i then none else Mon.madeRow i 0 row m' := by
        rw [take_snoc' hrow, Mon.madeTab_snoc, hm', Option.bind_some, List.length_take, Nat.min_eq_left (Nat.le_of_lt hi2), Nat.zero_add]
      refine ⟨T', _, rfl, SqT.of upd_same, rfl, _, _, rfl, _, _, rfl, rfl, ?_⟩
      have sT := same_upd (o := .tup [.int (i : Nat), .ref a]) nT
      have s3 := s2.trans sT
      have ml3 := sT _ _ ml
      generalize L2.upd H2 T' (.tup [.int (i : Nat), .ref a]) = H3 at s3 ml3 ⊢
      clear sT ml nT s2
      refine ⟨_, rfl, _, rfl, M, _, rfl, .inl (SqL.of ml3), rfl, flat_nv _, _, rfl, ?_⟩
      rw [in_nv]
      by_cases c1 : m'.length + 1 ≤ i
      · refine ifT (by rw [decide_eq_false (by rw [List.mem_range]; omega)]; rfl) ⟨_, rfl, ?_⟩
        exact bad i m' hi2 hm' (by rw [next, if_pos c1]) _ s3
      refine ifF (by rw [decide_eq_true (by rw [List.mem_range]; omega)]; rfl) ?_
      rw [if_neg c1] at next
      refine ⟨_, rfl, a, rfl, for_seqS (H0 := H) (xs := row.map nv) sa (fun c σ H4 => ∃ v4 : Option V, σ = [some (.ref r), some (.ref M), some (nv i), some (.ref a), v4] ∧ Same H H4 ∧ ∃ m4, Mon.madeRow i 0 (row.take c) m' = some m4 ∧ H4 M = some (.lst ((List.range (m4.length + 1)).map nv)) ∧ m4.length ≤ 2000) ⟨_, rfl, s3, m', by simp [Mon.madeRow], ml3, b'⟩ (fun j σ H4 _ ⟨_, _, s, _⟩ => s) ?_ ?_⟩
      · rintro c x σ H4 hy2 ⟨v4, rfl, s4, m4, hm4, ml4, b4⟩
        obtain ⟨t, ht, rfl⟩ := map_get hy2
        have tn := en t (List.mem_of_getElem? ht)
        have cl := get_lt ht
        have nx : Mon.madeRow i 0 (row.take (c + 1)) m' = if m4.length + 1 < t then none else if t = m4.length + 1 then some (m4 ++ [(i, c)]) else some m4 := by
          rw [take_snoc' ht, Mon.madeRow_snoc, hm4, Option.bind_some, List.length_take, Nat.min_eq_left (Nat.le_of_lt cl), Nat.zero_add]
        refine ⟨_, rfl, _, rfl, M, _, rfl, .inl (SqL.of ml4), rfl, flat_nv _, _, rfl, ?_⟩
        rw [in_nv]
        by_cases c2 : t < m4.length + 1
        · rw [if_neg (by omega), if_neg (by omega)] at nx
          exact ifF (by rw [decide_eq_true (List.mem_range.mpr c2)]; rfl) ⟨_, rfl, s4, m4, nx, ml4, b4⟩
        refine ifT (by rw [decide_eq_false (fun z => c2 (List.mem_range.mp z))]; rfl) ?_
        refine ⟨_, rfl, _, rfl, M, _, rfl, .inl (SqL.of ml4), rfl, _, rfl, ?_⟩
        rw [List.length_map, List.length_range]
        by_cases c3 : t = m4.length + 1
        case neg =>
          refine ifT (by simp; omega) ⟨_, rfl, ?_⟩
          exact bad i m' hi2 hm' (by rw [next]; exact row_none hm4 (by rw [nx, if_pos (by omega)])) _ s4
        rw [if_neg (by omega), if_pos c3] at nx
        refine ifF (by simp; omega) ?_
        refine ⟨_, rfl, .inl ⟨rfl, _, SqL.of ml4⟩, _, rfl, M, _, _, rfl, rfl, ml4, by rw [List.length_map, List.length_range]; show m4.length + 1 < 16777216; omega, ?_⟩
        refine ⟨_, rfl, fun b o e => ?_, _, nx, ?_, by rw [List.length_append, List.length_singleton]; omega⟩
        · rw [upd_ne (ne_of_none e nM)]
          exact s4 _ _ e
        · rw [upd_same, List.length_append, List.length_singleton, List.range_succ (n := m4.length + 1), List.map_append, c3]
          rfl
      · rintro σ H4 ⟨v4, rfl, s4, m4, hm4, ml4, b4⟩
        rw [List.length_map, List.take_length] at hm4
        exact ⟨_, _, _, rfl, s4, m4, by rw [next]; exact hm4, ml4, b4⟩
    · rintro σ H2 ⟨v2, v3, v4, rfl, s2, m', hm', _⟩
      rw [ln, List.take_length] at hm'
      exact good m' hm' _ s2
end
end K12

set_option Elab.async false
set_option linter.all false
set_option maxRecDepth 100000
set_option maxHeartbeats 8000000
namespace K12
open PySem PySem.Spec PyProof.Rows L2 Lf
/-- what is told of a thing of which it is told whether it is an int is told of bool, too -/
theorem kit_bool {n : String} {b : Bool} (h : kitB n "int" = some b) : ∃ c, kitB n "bool" = some c := by
  unfold kitB at h ⊢
  by_cases z : (Value.type n == Value.type "bool") = true
  · rw [if_pos z]; exact ⟨_, rfl⟩
  · rw [if_neg z, if_pos (by decide +kernel)]
    by_cases y : (Value.type n == Value.type "int") = true
    · have e : n = "int" := by
        have := beq_iff_eq.mp y
        injection this
      subst e
      exact ⟨false, by decide +kernel⟩
    · rw [if_neg y, if_pos (by decide +kernel)] at h
      cases e : PySem.fastBuiltinMro n with
      | none => rw [e] at h; cases h
      | some l => exact ⟨_, rfl⟩
abbrev NFo : List Str := ["_law_right_here", "_law_place", "_law_row", "_law_number"]
def spFd (K : PySem.W.Frag) : Sp := fun vs H Q _ => ∃ x t, vs = [x] ∧ TabV K H x t ∧ ((∀ rs, t = some rs → lenOk rs = false) → ∀ H', Same H H' → Q (.int (-1)) H') ∧
  ∀ rs, t = some rs → lenOk rs = true → ((∀ (i : Nat) r, rs[i]? = some r → rowOk rs.length (rs.getD 0 none) r = true) → ∀ H', Same H H' → Q .non H') ∧
    ∀ (i : Nat) r, rs[i]? = some r → (∀ (j : Nat) r', j < i → rs[j]? = some r' → rowOk rs.length (rs.getD 0 none) r' = true) → rowOk rs.length (rs.getD 0 none) r = false → ∀ H', Same H H' → Q (.int ((i : Nat) : Int)) H'
theorem chain_len {K : PySem.W.Frag} {lo hi : Int} {σ : L2.St} {H : Hp} {j : Nat} {a : Addr} {xs : List V} {A : Bool → Hp → Prop} (hv : σ[j]? = some (some (.ref a))) (sq : SqL K H a xs ∨ SqT K H a xs) (k : A (decide (lo ≤ (xs.length : Int)) && decide ((xs.length : Int) ≤ hi)) H) :
    tTest (tChain (rI0 fun i j => .bl (decide (i ≤ j))) (rI0 fun i j => .bl (decide (i ≤ j))) (tC (.int lo)) (tCB (rLenS K) (tCons (tVar j) tNil)) (tC (.int hi))) σ H A := by
  refine ⟨_, hv, a, xs, rfl, sq, _, _, rfl, rfl, _, rfl, ?_⟩
  refine ite2 (fun c => ⟨_, _, rfl, rfl, _, rfl, ?_⟩) (fun c => ⟨_, rfl, ?_⟩)
  · rw [c] at k
    exact k
  · have z : decide (lo ≤ (xs.length : Int)) = false := by
      cases h : decide (lo ≤ (xs.length : Int)) with
      | true => exact absurd h c
      | false => rfl
    rw [z] at k
    exact k
section
variable {P : Program} {w : World} {K : PySem.W.Frag} {mg : Str → Option Value} {base : Heap}
theorem scFd : FnScope NFo ["_law_right_here"] (defScope s_L_form_due) := ⟨rfl, rfl, rfl, by decide +kernel, rfl, by decide +kernel, by decide +kernel⟩
theorem ok_fd {f : Addr} {fd : FuncData} {q : Str} (F : FunD K "_law_form_due" q (defArgs s_L_form_due) (defBody s_L_form_due) (defScope s_L_form_due) [] [] f fd) (T : Txt P w K mg base) :
    FnOk P w K mg base CX0 1 f fd ["_law_right_here"] (spFd K) := by
  have zE : mg "enumerate" = none := T.fr 35 "enumerate" rfl
  have zI : mg "isinstance" = none := T.fr 37 "isinstance" rfl
  have zn : mg "len" = none := T.fr 38 "len" rfl
  have zl : mg "list" = none := T.fr 39 "list" rfl
  have zt : mg "tuple" = none := T.fr 41 "tuple" rfl
  have zi : mg "int" = none := T.fr 36 "int" rfl
  have zb : mg "bool" = none := T.fr 34 "bool" rfl
  refine F.ok scFd (fun vs H Q E h => ?_) (fun cdv A outer s H vs Q E hr h => ?_)
  · obtain ⟨x, t, rfl, _⟩ := h
    rfl
  · obtain ⟨x, t, rfl, tv, bad0, h⟩ := h
    refine ⟨_, PSs.nox (pss_cons (ps_if (PW.pt (pw_or (pt_not (pt_val (pe_callB call_isiT rfl zI PyProof.Rows.boot_isinstance (pa_cons (pv 0) (pa_cons (pe_tup (pa_cons (pe_bltn (v := .ty "list") rfl zl PyProof.Rows.boot_list rfl) (pa_cons (pe_bltn (v := .ty "tuple") rfl zt PyProof.Rows.boot_tuple rfl) pa_nil))) pa_nil)))))
          (pw_or1 (pt_not (pt_chain op_le op_le pe_int (pe_callB call_len_seq rfl zn boot_len (pa_cons (pv 0) pa_nil)) pe_int))))) (pss_one (ps_ret (pe_un un_neg pe_int))) pss_nil)
      (pss_cons (ps_for PassesOwn.never rfl (pi_enumA rfl zE (pv 0)) (pg_tup rfl (pgs_cons (pg_name (i := 1) scFd.nd rfl (.inl rfl)) (pgs_cons (pg_name (i := 2) scFd.nd rfl (.inl rfl)) pgs_nil)))
        (pss_cons (ps_if (PW.pt (pw_or (pt_not (pt_val (pe_callB call_isiT rfl zI PyProof.Rows.boot_isinstance (pa_cons (pv 2) (pa_cons (pe_tup (pa_cons (pe_bltn (v := .ty "list") rfl zl PyProof.Rows.boot_list rfl) (pa_cons (pe_bltn (v := .ty "tuple") rfl zt PyProof.Rows.boot_tuple rfl) pa_nil))) pa_nil)))))
            (pw_or (pt_not (pt_chain op_le op_le pe_int (pe_callB call_len_seq rfl zn boot_len (pa_cons (pv 2) pa_nil)) pe_int))
            (pw_or1 (pt_cmpR op_ne (pe_callB call_len_seq rfl zn boot_len (pa_cons (pv 2) pa_nil)) (pe_callB call_len_seq rfl zn boot_len (pa_cons (pe_ix ix_seq (pv 0) pe_int (fun _ _ => rfl)) pa_nil)) (nomark _)))))) (pss_one (ps_ret (pv 1))) pss_nil)
        (pss_one (ps_for PassesOwn.never rfl (pi_seq (pv 2)) (pg_name (i := 3) scFd.nd rfl (.inl rfl))
          (pss_one (ps_if (PW.pt (pw_or (pt_val (pe_callB call_isi rfl zI PyProof.Rows.boot_isinstance (pa_cons (pv 3) (pa_cons (pe_bltn (v := .ty "bool") rfl zb PyProof.Rows.boot_bool rfl) pa_nil))))
              (pw_or (pt_not (pt_val (pe_callB call_isi rfl zI PyProof.Rows.boot_isinstance (pa_cons (pv 3) (pa_cons (pe_bltn (v := .ty "int") rfl zi PyProof.Rows.boot_int rfl) pa_nil)))))
              (pw_or1 (pt_not (pt_chain op_le op_lt pe_int (pv 3) (pe_callB call_len_seq rfl zn boot_len (pa_cons (pv 0) pa_nil)))))))) (pss_one (ps_ret (pv 1))) pss_nil))))))
      (pss_one (ps_ret pe_non)))), ?_⟩
    refine ⟨_, rfl, (by show 2 ≤ sizeLine; decide), fun tp ntp => ?_⟩
    have stp := same_upd (o := .tup [.ty "list", .ty "tuple"]) ntp
    cases t with
    | none =>
      have tv' : SeqK K (L2.upd H tp (.tup [.ty "list", .ty "tuple"])) x none := SeqK.same stp tv
      obtain ⟨n, ty, ka⟩ := tv'.ty
      exact ⟨x, tp, _, _, _, _, rfl, upd_same, .cons (.ty _) (.cons (.ty _) .nil), ty, ka, _, rfl, ifT rfl ⟨1, rfl, bad0 (fun _ z => nomatch z) _ stp⟩⟩
    | some rs =>
    obtain ⟨xs, sq, pr⟩ := tv
    have lp := pr.length
    have sq1 := sq.same stp
    obtain ⟨n, ty, ka⟩ := sq1.ty
    refine ⟨x, tp, _, _, _, _, rfl, upd_same, .cons (.ty _) (.cons (.ty _) .nil), ty, ka, _, rfl, ifF rfl ?_⟩
    obtain ⟨r, rfl, sr1⟩ := sq1.len
    obtain ⟨_, er, sr⟩ := sq.len
    cases er
    generalize L2.upd H tp (.tup [.ty "list", .ty "tuple"]) = H1 at stp sr1 ⊢
    refine chain_len rfl sr1 ?_
    have eL : (decide ((1 : Int) ≤ (xs.length : Int)) && decide ((xs.length : Int) ≤ 2000)) = lenOk rs := by rw [lp]; rfl
    rw [eL]
    cases hl : lenOk rs with
    | false => exact ifT rfl ⟨1, rfl, bad0 (fun _ z => by cases z; exact hl) _ stp⟩
    | true =>
    refine ifF rfl ?_
    obtain ⟨good, bad⟩ := h rs rfl hl
    obtain ⟨l1, l2⟩ := Bool.and_eq_true_iff.mp hl
    have l1' : 1 ≤ rs.length := by have := of_decide_eq_true l1; omega
    have l2' : rs.length ≤ 2000 := by have := of_decide_eq_true l2; omega
    refine ⟨_, rfl, r, xs, rfl, for_enum (H0 := H) sr (fun i σ H2 => ∃ v1 v2 v3 : Option V, σ = [some (.ref r), v1, v2, v3] ∧ Same H H2 ∧ ∀ (j : Nat) r', j < i → rs[j]? = some r' → rowOk rs.length (rs.getD 0 none) r' = true) ⟨none, none, none, rfl, stp, fun _ _ z => absurd z (Nat.not_lt_zero _)⟩ (fun i σ H2 _ ⟨_, _, _, _, s, _⟩ => s) ?_ ?_⟩
    · rintro i v σ H2 ⟨v1, v2, v3, rfl, s2, pre⟩ hv T' nT
      obtain ⟨r', hr', rv⟩ := pair_get pr hv
      have hi : i < rs.length := get_lt hr'
      refine ⟨T', _, rfl, SqT.of upd_same, rfl, _, _, rfl, _, _, rfl, rfl, ?_⟩
      have s3 := s2.trans (same_upd (o := .tup [.int (i : Nat), v]) nT)
      generalize L2.upd H2 T' (.tup [.int (i : Nat), v]) = H3 at s3 ⊢
      have next : rowOk rs.length (rs.getD 0 none) r' = true → ∀ (j : Nat) r2, j < i + 1 → rs[j]? = some r2 → rowOk rs.length (rs.getD 0 none) r2 = true := fun ok j r2 hj h2 => by
        by_cases z : j < i
        · exact pre j r2 z h2
        · rw [show j = i by omega, hr'] at h2
          cases h2
          exact ok
      refine ⟨_, rfl, (by show 2 ≤ sizeLine; decide), fun tq ntq => ?_⟩
      have s4 := s3.trans (same_upd (o := .tup [.ty "list", .ty "tuple"]) ntq)
      have htq : L2.upd H3 tq (.tup [.ty "list", .ty "tuple"]) tq = some (.tup [.ty "list", .ty "tuple"]) := upd_same
      generalize L2.upd H3 tq (.tup [.ty "list", .ty "tuple"]) = H4 at s4 htq ⊢
      cases r' with
      | none =>
        have rv' : SeqK K H4 v none := SeqK.same s4 rv
        obtain ⟨n', ty', ka'⟩ := rv'.ty
        exact ⟨v, tq, _, _, _, _, rfl, htq, .cons (.ty _) (.cons (.ty _) .nil), ty', ka', _, rfl, ifT rfl ⟨_, rfl, bad i none hr' pre rfl _ s4⟩⟩
      | some os =>
      obtain ⟨ys, sa, pn⟩ := rv
      have ly := pn.length
      have sa4 := sa.same s4
      obtain ⟨n', ty', ka'⟩ := sa4.ty
      refine ⟨v, tq, _, _, _, _, rfl, htq, .cons (.ty _) (.cons (.ty _) .nil), ty', ka', _, rfl, ifF rfl ?_⟩
      obtain ⟨a, rfl, sl4⟩ := sa4.len
      obtain ⟨_, ea, sl0⟩ := sa.len
      cases ea
      refine chain_len rfl sl4 ?_
      rw [ly]
      cases h6 : decide ((1 : Int) ≤ (os.length : Int)) && decide ((os.length : Int) ≤ 6) with
      | false => exact ifT rfl ⟨_, rfl, bad i _ hr' pre (by rw [rowOk_some, h6]; rfl) _ s4⟩
      | true =>
      refine ifF rfl ?_
      obtain ⟨r0, hr0⟩ := lt_get (show 0 < rs.length by omega)
      obtain ⟨v0, hv0, rv0⟩ : ∃ v0, xs[0]? = some v0 ∧ RowV K H v0 r0 := by
        obtain ⟨v0, hv0⟩ := lt_get (show 0 < xs.length by omega)
        obtain ⟨r1, e1, e2⟩ := pair_get pr hv0
        rw [hr0] at e1
        cases e1
        exact ⟨v0, hv0, e2⟩
      have eg : rs.getD 0 none = r0 := by rw [List.getD_eq_getElem?_getD, hr0]; rfl
      have n0 : ∃ os0, r0 = some os0 := by
        cases r0 with
        | some os0 => exact ⟨_, rfl⟩
        | none =>
          by_cases z : i = 0
          · rw [z, hr0] at hr'; cases hr'
          · have := pre 0 none (by omega) hr0
            cases this
      obtain ⟨os0, rfl⟩ := n0
      obtain ⟨ys0, sa0, pn0⟩ := rv0
      obtain ⟨a0, rfl, sl04⟩ := (sa0.same s4).len
      have ly0 := pn0.length
      refine ⟨_, rfl, a, ys, rfl, sl4, _, rfl, ?_⟩
      have ix0 : ∀ {Q : VK}, Q (.ref a0) H4 → rIx K (.ref r) (.int 0) H4 Q := fun {Q} k => by
        rcases sq_same s4 sr with z | z
        · exact .inl ⟨r, xs, 0, _, rfl, rfl, z, atI_nat (j := 0) hv0, k⟩
        · exact .inr (.inl ⟨r, xs, 0, _, rfl, rfl, z, atI_nat (j := 0) hv0, k⟩)
      refine ix0 ⟨a0, ys0, rfl, sl04, rfl, _, rfl, ?_⟩
      have eR : rowOk rs.length (rs.getD 0 none) (some os) = (decide ((ys.length : Int) = (ys0.length : Int)) && os.all (btw 0 ((rs.length : Int) - 1))) := by
        rw [rowOk_some, h6, eg, ly, ly0, Bool.true_and]
        congr 1
        refine decide_eq_decide.mpr ⟨fun z => ?_, fun z => ?_⟩
        · have : os0.length = os.length := Option.some.inj z
          omega
        · show some os0.length = some os.length
          rw [show os0.length = os.length by omega]
      by_cases h7' : ys.length = ys0.length
      case neg =>
        have h7 : decide ((ys.length : Int) = (ys0.length : Int)) = false := decide_eq_false (by omega)
        exact ifT (by simp; omega) ⟨_, rfl, bad i _ hr' pre (by rw [eR, h7]; rfl) _ s4⟩
      have h7 : decide ((ys.length : Int) = (ys0.length : Int)) = true := decide_eq_true (by omega)
      refine ifF (by simp [h7']) ?_
      rw [h7, Bool.true_and] at eR
      refine ⟨_, rfl, a, rfl, for_seqS (H0 := H) (xs := ys) sl0 (fun c σ H5 => ∃ v3 : Option V, σ = [some (.ref r), some (.int (i : Nat)), some (.ref a), v3] ∧ Same H H5 ∧ ∀ (j : Nat) o, j < c → os[j]? = some o → btw 0 ((rs.length : Int) - 1) o = true) ⟨_, rfl, s4, fun _ _ z => absurd z (Nat.not_lt_zero _)⟩ (fun j σ H5 _ ⟨_, _, s, _⟩ => s) ?_ ?_⟩
      · rintro c z σ H5 hz ⟨v3', rfl, s5, prec⟩
        obtain ⟨o, ho, nz⟩ := pair_get pn hz
        have nz5 := nz.same s5
        have no : btw 0 ((rs.length : Int) - 1) o = false → rowOk rs.length (rs.getD 0 none) (some os) = false := fun z => by
          rw [eR, List.all_eq_false]
          exact ⟨o, List.mem_of_getElem? ho, by rw [z]; exact Bool.false_ne_true⟩
        have away : btw 0 ((rs.length : Int) - 1) o = false → Q (.int ((i : Nat) : Int)) H5 := fun z => bad i _ hr' pre (no z) _ s5
        have onward : btw 0 ((rs.length : Int) - 1) o = true → ∃ v3 : Option V, [some (V.ref r), some (.int (i : Nat)), some (.ref a), some z] = [some (V.ref r), some (.int (i : Nat)), some (.ref a), v3] ∧ Same H H5 ∧ ∀ (j : Nat) o, j < c + 1 → os[j]? = some o → btw 0 ((rs.length : Int) - 1) o = true := fun ok => ⟨_, rfl, s5, fun j o' hj ho' => by
          by_cases y : j < c
          · exact prec j o' y ho'
          · rw [show j = c by omega, ho] at ho'
            cases ho'
            exact ok⟩
        cases nz5 with
        | bl b =>
          exact ⟨_, rfl, _, .ty "bool", .type "bool", _, true, rfl, .ty _, .base (.bl b), kit_ty (show kitB "bool" "bool" = some true by decide +kernel), _, rfl, ifT rfl ⟨_, rfl, away rfl⟩⟩
        | @oth _ n1 ty1 e1 =>
          obtain ⟨c1, hc1⟩ := kit_bool e1
          refine ⟨_, rfl, _, .ty "bool", .type n1, _, c1, rfl, .ty _, ty1, kit_ty hc1, _, rfl, ?_⟩
          cases c1 with
          | true => exact ifT rfl ⟨_, rfl, away rfl⟩
          | false => exact ifF rfl ⟨_, rfl, _, .ty "int", .type n1, _, false, rfl, .ty _, ty1, kit_ty e1, _, rfl, ifT rfl ⟨_, rfl, away rfl⟩⟩
        | int iv =>
          refine ⟨_, rfl, _, .ty "bool", .type "int", _, false, rfl, .ty _, .base (.int iv), kit_ty (show kitB "int" "bool" = some false by decide +kernel), _, rfl, ifF rfl ?_⟩
          refine ⟨_, rfl, _, .ty "int", .type "int", _, true, rfl, .ty _, .base (.int iv), kit_ty (show kitB "int" "int" = some true by decide +kernel), _, rfl, ifF rfl ?_⟩
          have eb : btw 0 ((rs.length : Int) - 1) (some iv) = (decide ((0 : Int) ≤ iv) && decide (iv ≤ (rs.length : Int) - 1)) := rfl
          rw [eb] at away onward
          refine ⟨_, rfl, _, _, rfl, rfl, _, rfl, ?_⟩
          refine ite2 (fun c1 => ⟨_, rfl, r, xs, rfl, sq_same s5 sr, _, _, rfl, rfl, _, rfl, ?_⟩) (fun c1 => ⟨_, rfl, ?_⟩)
          · rw [lp]
            by_cases c2 : iv < (rs.length : Int)
            · refine ifF (by rw [decide_eq_true c2]; rfl) (onward ?_)
              rw [c1, decide_eq_true (by omega)]
              rfl
            · refine ifT (by rw [decide_eq_false c2]; rfl) ⟨_, rfl, away ?_⟩
              rw [decide_eq_false (show ¬ iv ≤ (rs.length : Int) - 1 by omega), Bool.and_false]
          · have c1' : decide ((0 : Int) ≤ iv) = false := by
              cases h : decide ((0 : Int) ≤ iv) with
              | true => exact absurd h c1
              | false => rfl
            exact ifT rfl ⟨_, rfl, away (by rw [c1']; rfl)⟩
      · rintro σ H5 ⟨v3', rfl, s5, all⟩
        refine ⟨_, _, _, rfl, s5, next ?_⟩
        rw [eR, List.all_eq_true]
        intro o ho
        obtain ⟨j, hj⟩ := List.getElem?_of_mem ho
        exact all j o (by rw [ly]; exact get_lt hj) hj
    · rintro σ H2 ⟨v1, v2, v3, rfl, s2, all⟩
      refine good (fun i r' hi => all i r' ?_ hi) _ s2
      rw [lp]
      exact get_lt hi
end
end K12

set_option Elab.async false
set_option linter.all false
set_option maxRecDepth 100000
set_option maxHeartbeats 8000000
namespace K12
open PySem PySem.Spec PyProof.Rows L2 Lf
/-- a dict that tells lists by numbers -/
def rfF : Nat → List Addr → List (Key × V)
  | _, [] => []
  | k, a :: r => (ik k, .ref a) :: rfF (k + 1) r
theorem rf_len : ∀ {l : List Addr} {k : Nat}, (rfF k l).length = l.length
  | [], _ => rfl
  | a :: r, k => by rw [rfF, List.length_cons, rf_len, List.length_cons]
theorem rf_snoc {x : Addr} : ∀ {l : List Addr} {k : Nat}, rfF k (l ++ [x]) = rfF k l ++ [(ik (k + l.length), .ref x)]
  | [], k => rfl
  | a :: r, k => by rw [List.cons_append, rfF, rfF, rf_snoc, List.cons_append, List.length_cons, show k + 1 + r.length = k + (r.length + 1) by omega]
theorem rf_none : ∀ {l : List Addr} {k x : Nat}, (x < k ∨ k + l.length ≤ x) → valV (rfF k l) (ik x) = none
  | [], _, _, _ => rfl
  | a :: r, k, x, h => by
    have hk : ¬ ik k = ik x := fun z => by
      have := ik_inj z
      rw [List.length_cons] at h
      omega
    rw [rfF, valV_neg (p := (ik k, V.ref a)) hk]
    refine rf_none ?_
    rw [List.length_cons] at h
    omega
theorem rf_some : ∀ {l : List Addr} {k i : Nat} {a : Addr}, l[i]? = some a → valV (rfF k l) (ik (k + i)) = some (.ref a)
  | b :: r, k, 0, a, h => by
    cases h
    rw [rfF]
    show valV ((ik k, V.ref b) :: rfF (k + 1) r) (ik k) = _
    rw [valV_pos (p := (ik k, V.ref b)) rfl]
  | b :: r, k, i + 1, a, h => by
    have hk : ¬ ik k = ik (k + (i + 1)) := fun z => by have := ik_inj z; omega
    rw [rfF, valV_neg (p := (ik k, V.ref b)) hk, show k + (i + 1) = k + 1 + i by omega]
    exact rf_some (by simpa using h)
theorem rf_put {l : List Addr} {x : Addr} : putK (rfF 0 l) (ik l.length) (.ref x) = rfF 0 (l ++ [x]) := by
  rw [putK_new _ (rf_none (.inr (by omega))), rf_snoc, Nat.zero_add]
/-- the left table tells where letters and then words lead -/
theorem left_walk {rows : List (List Nat)} {wd : Nat} {m : List (Nat × Nat)} (F : Form rows wd) (h : Mon.madeTab 0 rows [] = some m) : ∀ {i : Nat}, i ≤ m.length → ∀ (k : Nat) l w, (Mon.leftTab rows (m.take i))[k]? = some l → (Mon.wordTab (m.take i))[k]? = some w → l = (rows.getD 0 []).map fun s => Mon.walk rows s w
  | 0, _, k, l, w, h1, h2 => by
    rw [List.take_zero] at h1 h2
    have e1 : Mon.leftTab rows [] = [rows.getD 0 []] := rfl
    have e2 : Mon.wordTab [] = [[]] := rfl
    rw [e1] at h1
    rw [e2] at h2
    cases k with
    | zero =>
      cases h1
      cases h2
      exact (List.map_id _).symm
    | succ k => simp at h1
  | i + 1, hi, k, l, w, h1, h2 => by
    obtain ⟨p, hp⟩ := lt_get (show i < m.length by omega)
    have ih := left_walk F h (i := i) (by omega)
    have lt := (Mon.madeTab_lt h hp).1
    have ll : (Mon.leftTab rows (m.take i)).length = i + 1 := by rw [Mon.left_len, List.length_take]; omega
    have lw : (Mon.wordTab (m.take i)).length = i + 1 := by rw [Mon.word_len, List.length_take]; omega
    have ew : Mon.wordTab (m.take (i + 1)) = Mon.wordStep (Mon.wordTab (m.take i)) p := by
      unfold Mon.wordTab
      rw [take_snoc hp, List.foldl_append]
      rfl
    rw [take_snoc hp, Mon.left_snoc] at h1
    rw [ew] at h2
    unfold Mon.leftStep at h1
    unfold Mon.wordStep at h2
    by_cases hk : k < i + 1
    · rw [List.getElem?_append_left (by omega)] at h1 h2
      exact ih k l w h1 h2
    · have := get_lt h1
      rw [List.length_append, List.length_singleton, ll] at this
      have e : k = i + 1 := by omega
      subst e
      rw [List.getElem?_append_right (by omega), ll, Nat.sub_self] at h1
      rw [List.getElem?_append_right (by omega), lw, Nat.sub_self] at h2
      cases h1
      cases h2
      obtain ⟨l0, hl0⟩ := lt_get (show p.1 < (Mon.leftTab rows (m.take i)).length by omega)
      obtain ⟨w0, hw0⟩ := lt_get (show p.1 < (Mon.wordTab (m.take i)).length by omega)
      rw [Mon.getD_of hl0, Mon.getD_of hw0, ih p.1 l0 w0 hl0 hw0, List.map_map]
      refine List.map_congr_left fun s _ => ?_
      show (rows.getD (Mon.walk rows s w0) []).getD p.2 0 = Mon.walk rows s (w0 ++ [p.2])
      unfold Mon.walk
      rw [List.foldl_append]
      rfl
end K12

set_option Elab.async false
set_option linter.all false
set_option maxRecDepth 100000
set_option maxHeartbeats 8000000
namespace K12
open PySem PySem.Spec PyProof.Rows L2 Lf
/-- a list of maps, as tuples -/
structure Maps (H : Hp) (p : Addr) (gens : List (List Nat)) : Prop where
  ex : ∃ as : List Addr, H p = some (.lst (as.map V.ref)) ∧ as.length = gens.length ∧ ∀ (i : Nat) a row, as[i]? = some a → gens[i]? = some row → H a = some (.tup (row.map nv))
theorem Maps.same {H H' : Hp} {p : Addr} {gens : List (List Nat)} (h : Maps H p gens) (e : Same H H') : Maps H' p gens := by
  obtain ⟨as, a, b, c⟩ := h.ex
  exact ⟨as, e _ _ a, b, fun i x row h1 h2 => e _ _ (c i x row h1 h2)⟩
theorem Maps.but {H H' : Hp} {l p : Addr} {a b c : Int} {gens : List (List Nat)} (hl : H l = some (.lst [.int a, .int b, .int c])) (h : Maps H p gens) (e : But l H H') : Maps H' p gens := by
  obtain ⟨as, h1, h2, h3⟩ := h.ex
  refine ⟨as, e _ _ (fun z => ?_) h1, h2, fun i x row g1 g2 => e _ _ (fun z => ?_) (h3 i x row g1 g2)⟩
  · rw [z, hl] at h1
    cases as with
    | nil => simp at h1
    | cons u r => simp at h1
  · have := h3 i x row g1 g2
    rw [z, hl] at this
    simp at this
theorem Src.un {H : Hp} {l : Addr} {n : Nat} (h : Src H l n) : ∃ a b c : Int, H l = some (.lst [.int a, .int b, .int c]) := by
  obtain ⟨a, b, c, e, _⟩ := h
  exact ⟨a, b, c, e⟩
theorem Src.ne {H : Hp} {l x : Addr} {n : Nat} (h : Src H l n) (nx : H x = none) : x ≠ l := fun z => by
  obtain ⟨a, b, c, e⟩ := h.un
  rw [← z, nx] at e
  cases e
theorem Src.upd {H : Hp} {l x : Addr} {n : Nat} {o : HO} (h : Src H l n) (nx : x ≠ l) : Src (L2.upd H x o) l n := by
  obtain ⟨a, b, c, e, r⟩ := h
  exact ⟨a, b, c, by rw [upd_ne nx.symm]; exact e, r⟩
def spMaps : Sp := fun vs H Q _ => ∃ (l : Addr) (n mp ml : Nat), vs = [.ref l, .int mp, .int ml] ∧ Src H l n ∧ n + 40 ≤ 1000000 ∧ 1 ≤ mp ∧ mp ≤ 4 ∧ 1 ≤ ml ∧ ml ≤ 6 ∧
  ∀ p gens size H', But l H H' → H p = none → Maps H' p gens → gens ≠ [] → gens.length ≤ ml → 1 ≤ size → size ≤ mp → (∀ g ∈ gens, Mon.Valid size g) → Src H' l (n + 40) → Q (.ref p) H'
abbrev teDraw : TE := fun σ H Q => (tCons (tVar 0) (tCons (tVar 3) tNil)) σ H fun vs H1 => spDraw vs H1 Q E0
abbrev teMap (K : PySem.W.Frag) : TE := tCB (rTup K) (tCons (tLc (iRng1 (tCons (tVar 3) tNil)) (gName 5) tYes teDraw [5]) tNil)
/-- the scope of the comprehension over the turns -/
def scTurn : Scope := { kind := .function, names := [(".0", .local), ("_law_turn", .local), ("tuple", .globalImplicit), ("range", .globalImplicit), ("_law_size", .cell), ("_law_source_here", .cell)], isGenerator := false, isCoroutine := false }
/-- one map -/
theorem one_map {K : PySem.W.Frag} {H : Hp} {l : Addr} {n size : Nat} {v1 v2 v4 v5 v6 : Option V} {Q : VK} (src : Src H l n) (n1 : n + size ≤ 1000000) (s1 : 1 ≤ size) (s4 : size ≤ 4)
    (k : ∀ t xs H', But l H H' → H t = none → H' t = some (.tup (xs.map nv)) → Mon.Valid size xs → Src H' l (n + size) → Q (.ref t) H') :
    teMap K [some (.ref l), v1, v2, some (.int (size : Nat)), v4, v5, v6] H Q := by
  refine ⟨_, rfl, (size : Nat), rfl, by omega, by omega, fun D nD => ?_⟩
  have nDl := src.ne nD
  refine lc_range (lo := 0) (n := size) (fun i Hc => (∀ b o, b ≠ l → b ≠ D → H b = some o → Hc b = some o) ∧ Src Hc l (n + i) ∧ ∃ acc : List Nat, Hc D = some (.lst (acc.map nv)) ∧ acc.length = i ∧ ∀ z ∈ acc, z < size) ⟨fun b o _ nb e => by rw [upd_ne nb]; exact e, src.upd nDl, [], upd_same, rfl, fun z hz => by cases hz⟩ (fun i Hc hi ⟨bc, sc, acc, hD, la, oa⟩ => ?_) (fun Hc ⟨bc, sc, acc, hD, la, oa⟩ => ?_)
  · refine ⟨rfl, yesT ?_⟩
    refine ⟨_, rfl, _, rfl, l, n + i, (size : Nat), rfl, sc, by omega, by omega, by omega, fun x H' x0 x1 b' src' => ?_⟩
    obtain ⟨x, rfl⟩ : ∃ x' : Nat, x = (x' : Nat) := ⟨x.toNat, by omega⟩
    have hD' := b' _ _ nDl hD
    refine ⟨_, hD', by rw [List.length_map, la]; show i < 16777216; omega, fun b o nl nb e => by rw [upd_ne nb]; exact b' _ _ nl (bc _ _ nl nb e), src'.upd nDl, acc ++ [x], by rw [upd_same]; simp, by simp [la], fun z hz => ?_⟩
    rcases List.mem_append.mp hz with h | h
    · exact oa z h
    · rw [List.mem_singleton.mp h]
      omega
  · refine ⟨D, _, rfl, .inl ⟨SqL.of hD, fun t nt => ?_⟩⟩
    have ntl := sc.ne nt
    have ntD : t ≠ D := fun z => by rw [z, hD] at nt; cases nt
    refine k t acc _ (fun b o nl e => ?_) ?_ upd_same ⟨la, oa⟩ (sc.upd ntl)
    · have nb : b ≠ D := ne_of_none e nD
      have nt' : b ≠ t := ne_of_none (bc _ _ nl nb e) nt
      rw [upd_ne nt']
      exact bc _ _ nl nb e
    · cases e : H t with
      | none => rfl
      | some o => rw [bc _ _ ntl ntD e] at nt; cases nt
section
variable {P : Program} {w : World} {K : PySem.W.Frag} {mg : Str → Option Value} {base : Heap}
theorem scMaps : FnScope ["_law_source_here", "_law_most_points", "_law_most_letters", "_law_size", "_law_many", "_law_point", "_law_turn"] ["_law_source_here", "_law_most_points", "_law_most_letters"] (defScope s_L_maps) := ⟨rfl, rfl, rfl, by decide +kernel, rfl, by decide +kernel, by decide +kernel⟩
theorem ok_maps {f : Addr} {fd : FuncData} {q : Str} (F : FunD K "_law_maps" q (defArgs s_L_maps) (defBody s_L_maps) (defScope s_L_maps) [] [] f fd) (zr : mg "range" = none) (zt : mg "tuple" = none)
    (DD : Def P w K mg base CX0 1 "_law_draw" ["_law_source_here", "_law_many"] spDraw) :
    FnOk P w K mg base CX0 2 f fd ["_law_source_here", "_law_most_points", "_law_most_letters"] spMaps := by
  refine F.ok scMaps (fun vs H Q E h => ?_) (fun cdv A outer s H vs Q E hr h => ?_)
  · obtain ⟨l, n, mp, ml, rfl, _⟩ := h
    rfl
  · obtain ⟨l, n, mp, ml, rfl, src, n1, p1, p4, m1, m6, k⟩ := h
    refine ⟨_, PSs.nox (pss_cons (ps_asg (pe_tup (pa_cons (pe_op op_add pe_int (pe_def DD hr pass0 rfl (pa_cons (pv 0) (pa_cons (pv 1) pa_nil)))) (pa_cons (pe_op op_add pe_int (pe_def DD hr pass0 rfl (pa_cons (pv 0) (pa_cons (pv 2) pa_nil)))) pa_nil)))
        (pg_tup rfl (pgs_cons (pg_name (i := 3) scMaps.nd rfl (.inr rfl)) (pgs_cons (pg_name (i := 4) scMaps.nd rfl (.inl rfl)) pgs_nil))))
      (pss_one (ps_ret (pe_lc (own := [("_law_turn", 6)]) (g := gName 6) (te := teMap K) (by rfl) scMaps.nd (pi_range1 rfl zr (pa_cons (pv 4) pa_nil)) (blkOk_by (own := [("_law_turn", 6)]) (N := ["_law_source_here", "_law_most_points", "_law_most_letters", "_law_size", "_law_many", "_law_point", "_law_turn"]) (sc := defScope s_L_maps) (by decide +kernel)) (fun _ _ _ _ _ => pg_name (i := 6) scMaps.nd rfl (Or.inl rfl)) (fun _ _ _ _ _ => pts_nil)
        (fun _ _ _ _ _ => by exact pe_callTy call_tuple_of rfl zt PyProof.Rows.boot_tuple (pa_cons (pe_lc (own := [("_law_point", 5)]) (g := gName 5) (te := teDraw) (by rfl) scMaps.nd (pi_range1 rfl zr (pa_cons (pv 3) pa_nil)) (blkOk_by (own := [("_law_point", 5)]) (N := ["_law_source_here", "_law_most_points", "_law_most_letters", "_law_size", "_law_many", "_law_point", "_law_turn"]) (sc := scTurn) (by decide +kernel)) (fun _ _ _ _ _ => pg_name (i := 5) scMaps.nd rfl (Or.inl rfl)) (fun _ _ _ _ _ => pts_nil)
          (fun _ _ _ _ _ => by exact pe_def DD hr pass0 rfl (pa_cons (pv 0) (pa_cons (pv 3) pa_nil)))) pa_nil)))))), ?_⟩
    refine ⟨_, rfl, _, rfl, l, n, (mp : Nat), rfl, src, by omega, by omega, by omega, fun x H1 x0 x1 b1 src1 => ?_⟩
    refine ⟨1, x, rfl, rfl, _, rfl, _, rfl, l, n + 1, (ml : Nat), rfl, src1, by omega, by omega, by omega, fun y H2 y0 y1 b2 src2 => ?_⟩
    refine ⟨1, y, rfl, rfl, ?_⟩
    refine ⟨(by show 2 ≤ sizeLine; decide), fun T nT => ?_⟩
    refine ⟨T, _, rfl, SqT.of upd_same, rfl, _, _, rfl, _, _, rfl, rfl, ?_⟩
    obtain ⟨x, rfl⟩ : ∃ x' : Nat, x = (x' : Nat) := ⟨x.toNat, by omega⟩
    obtain ⟨y, rfl⟩ : ∃ y' : Nat, y = (y' : Nat) := ⟨y.toNat, by omega⟩
    have ex : (1 : Int) + (x : Nat) = ((1 + x : Nat) : Int) := by omega
    have ey : (1 : Int) + (y : Nat) = ((1 + y : Nat) : Int) := by omega
    have nTl := src2.ne nT
    have src3 := src2.upd (o := .tup [.int (1 + (x : Nat)), .int (1 + (y : Nat))]) nTl
    have b3 : But l H (L2.upd H2 T (.tup [.int (1 + (x : Nat)), .int (1 + (y : Nat))])) := But.trans (b1.trans b2) (But.of (same_upd nT))
    generalize L2.upd H2 T (.tup [.int (1 + (x : Nat)), .int (1 + (y : Nat))]) = H3 at src3 b3 ⊢
    refine ⟨_, rfl, ((1 + y : Nat) : Int), congrArg (fun z => [V.int z]) ey, by omega, by omega, fun D nD => ?_⟩
    have nDl := src3.ne nD
    refine lc_range (lo := 0) (n := 1 + y) (fun i Hc => (∀ b o, b ≠ l → b ≠ D → H3 b = some o → Hc b = some o) ∧ Src Hc l (n + 2 + i * 4) ∧ ∃ (as : List Addr) (gens : List (List Nat)), Hc D = some (.lst (as.map V.ref)) ∧ as.length = i ∧ gens.length = i ∧ (∀ (j : Nat) a row, as[j]? = some a → gens[j]? = some row → Hc a = some (.tup (row.map nv))) ∧ ∀ g ∈ gens, Mon.Valid (1 + x) g)
      ⟨fun b o _ nb e => by rw [upd_ne nb]; exact e, src3.upd nDl, [], [], upd_same, rfl, rfl, fun j a row h => by simp at h, fun z hz => by cases hz⟩ (fun i Hc hi ⟨bc, sc, as, gens, hD, la, lg, el, vl⟩ => ?_) (fun Hc ⟨bc, sc, as, gens, hD, la, lg, el, vl⟩ => ?_)
    · refine ⟨rfl, yesT ?_⟩
      show teMap K [some (.ref l), _, _, some (.int (1 + (x : Nat))), _, _, _] Hc _
      rw [ex]
      refine one_map sc (by omega) (by omega) (by omega) fun t xs H' b' nt ht va src' => ?_
      have hD' := b' _ _ nDl hD
      have ntD : t ≠ D := fun z => by rw [z, hD] at nt; cases nt
      refine ⟨_, hD', by rw [List.length_map, la]; show i < 16777216; omega, fun b o nl nb e => by rw [upd_ne nb]; exact b' _ _ nl (bc _ _ nl nb e), (src'.upd nDl).up (by omega), as ++ [t], gens ++ [xs], by rw [upd_same]; simp, by simp [la], by simp [lg], fun j a row h1 h2 => ?_, fun g hg => ?_⟩
      · by_cases hj : j < i
        · rw [List.getElem?_append_left (by omega)] at h1 h2
          have e0 := el j a row h1 h2
          have nal : a ≠ l := fun z => by
            obtain ⟨u, v, w', e, _⟩ := sc
            rw [z, e] at e0
            cases e0
          have naD : a ≠ D := fun z => by
            rw [z, hD] at e0
            cases e0
          rw [upd_ne naD]
          exact b' _ _ nal e0
        · have ej : j = i := by
            have := get_lt h1
            simp at this
            omega
          subst ej
          rw [List.getElem?_append_right (by omega), la, Nat.sub_self] at h1
          rw [List.getElem?_append_right (by omega), lg, Nat.sub_self] at h2
          cases h1
          cases h2
          rw [upd_ne ntD]
          exact ht
      · rcases List.mem_append.mp hg with h | h
        · exact vl g h
        · rw [List.mem_singleton.mp h]
          exact va
    · have hDn : H D = none := by
        cases e : H D with
        | none => rfl
        | some o => rw [b3 _ _ nDl e] at nD; cases nD
      refine k D gens (1 + x) Hc (fun b o nl e => bc _ _ nl (ne_of_none e hDn) (b3 _ _ nl e)) hDn ⟨as, hD, by omega, el⟩ (fun z => ?_) (by omega) (by omega) (by omega) vl (sc.up (by omega))
      rw [z] at lg
      simp at lg
      omega
end
end K12

set_option Elab.async false
set_option linter.all false
set_option maxRecDepth 100000
set_option maxHeartbeats 4000000
/-! {key: value} with a tuple key. -/
namespace Lf
open PySem PySem.Spec PyProof.Rows L2
/-- {k: v} -/
def tDispT1 (tk tv : TE) : TE := fun σ H Q => ∀ p, H p = none → tk σ (upd H p (.dT [])) fun x H1 => tv σ H1 fun y H2 => ∃ ks b H3, H2 p = some (.dT []) ∧ x = .ref b ∧ H2 b = some (.tup (ks.map kV)) ∧ H3 = upd H2 p (.dT [(ks, y)]) ∧ Q (.ref p) H3
theorem pe_dispT1 {X : Cx} {pos : Pos} {k v : Expr} {tk tv : TE} (hu : X.A.units + 1 < cLine) (hk : PE X k tk) (hv : PE X v tv) : PE X (.Dict [some k] [v] pos) (tDispT1 tk tv) := by
  refine ⟨fun pins s σ H Q I q => ?_⟩
  have hn := I.hok.fresh (Nat.le_refl s.heap.objs.size)
  have I1 := I.laid (a := s.heap.objs.size) (o := .dT []) (h' := s.heap.push { cls := .type "dict", data := .dict #[] }) (t' := s.toks) (fun _ _ q => Heap.get?_push_of_some _ q) (Nat.le_refl _) (dt_empty s.heap I.big)
  rw [arm_eval_Dict, zip_pairTrees [some k] [v] X.env pos rfl rfl, dictDisplay_pairs (pairTrees [some k] [v] X.env pos) (fun z => by cases z) (show 1 < 17 by decide)]
  refine wpAny_bind (wpAny_standAt (wpAny_bind ?_))
  unfold subDict
  refine wpAny_bind (wpAny_alloc ?_)
  refine wpAny_bind (wpAny_holding ?_)
  rw [if_pos (show (pairTrees [some k] [v] X.env pos).length ≤ 15 from (by show 1 ≤ 15; decide))]
  refine wpAny_bind (pairTrees_cons_walk (thn (hk.run pins _ σ _ _ I1 (q _ hn)) fun u s1 ⟨x, H1, I1, rx, q1⟩ => thn (hv.run pins s1 σ H1 _ I1 q1) fun r s2 ⟨y, H2, I2, ry, q2⟩ => pairTrees_nil_walk ?_))
  obtain ⟨ks, b, H3, e, ex, eb, e3, q3⟩ := q2
  subst ex e3
  cases (show u = Value.ref b from rx)
  obtain ⟨z, hd, xs, rel, dd⟩ := dt_of I2.hok e
  cases rel
  refine wpAny_holding ?_
  rw [List.forIn_cons]
  refine wpAny_bind (wpAny_bind (wpAny_bind (wpAny_dictSet_heap (hsz := by decide) (show (tupleKind (mixKind X.prog X.w)).room X.A from Nat.lt_of_succ_lt hu) (key_of I2.hok eb) dd fun h' dd' hs => wpAny_pure ?_)))
  dsimp only
  refine wpAny_pure (wpAny_pure (wpAny_pure (wpAny_pure ⟨.ref s.heap.objs.size, _, ?_, rfl, q3⟩)))
  obtain ⟨q, es, ep, hq, h2, h3, h4, _, h5⟩ := dd'
  refine d_write I2 (by rw [e]; exact True.intro) hs ⟨q, hq⟩ ⟨by show 1 ≤ sizeLine; decide, hd, _, ((show KT H2 [] [] from .nil).put ks eb ry).keeps fun c ys ec => ?_, q, es, ep, hq, h2, h3, h4, h5⟩
  rw [upd_ne (ne_of ec e (fun z => nomatch z))]
  exact ec
end Lf

set_option Elab.async false
set_option linter.all false
set_option maxRecDepth 100000
set_option maxHeartbeats 4000000
/-! zip(text, list), walked. -/
namespace Lf
open PySem PySem.Spec PyProof.Rows L2
/-- the cells of such a zip lie apart -/
structure Far (z TI TO i1 i2 b : Addr) : Prop where
  a1 : TI ≠ z
  a2 : TO ≠ z
  a3 : TI ≠ TO
  a4 : TI ≠ i1
  a5 : TI ≠ i2
  a6 : z ≠ i1
  a7 : z ≠ i2
  a8 : TO ≠ i1
  a9 : TO ≠ i2
  b1 : i1 ≠ i2
  c1 : z ≠ b
  c2 : TO ≠ b
  c3 : i1 ≠ b
  c4 : i2 ≠ b
theorem Far.sep {z TI TO i1 i2 b : Addr} (f : Far z TI TO i1 i2 b) : ZipSep2 z TI TO i1 i2 [i1] [i2, b] where
  TIz := f.a1
  TOz := f.a2
  TITO := f.a3
  TIi1 := f.a4
  mem1 := List.mem_cons_self
  zf1 := fun h => f.a6 (List.mem_singleton.mp h)
  Tf1 := fun h => f.a8 (List.mem_singleton.mp h)
  TIi2 := f.a5
  mem2 := List.mem_cons_self
  zf2 := fun h => by
    simp only [List.mem_cons, List.not_mem_nil, or_false] at h
    exact h.elim f.a7 f.c1
  Tf2 := fun h => by
    simp only [List.mem_cons, List.not_mem_nil, or_false] at h
    exact h.elim f.a9 f.c2
  sep1_2 := fun h => by
    simp only [List.mem_cons, List.not_mem_nil, or_false] at h
    exact h.elim f.b1 f.c3
  sep2_1 := fun h => f.b1 (List.mem_singleton.mp h).symm
/-- signs of a text and items of a list, in new pairs -/
def Itzs (K : PySem.W.Frag) (x : Str) (b : Addr) : It :=
  ⟨fun i H => ∃ (ys : List V) (c : Nat) (y : V), SqL K H b ys ∧ x.cps[i]? = some c ∧ ys[i]? = some y,
    fun i H v H' => ∃ (T : Addr) (c : Nat) (y : V), v = .ref T ∧ H T = none ∧ H' = L2.upd H T (.tup [.str ⟨#[c]⟩, y]) ∧ x.cps[i]? = some c ∧ ∀ ys, SqL K H b ys → ys[i]? = some y,
    fun i H => ∃ ys : List V, SqL K H b ys ∧ i ≤ x.cps.size ∧ i ≤ ys.length ∧ (i = x.cps.size ∨ i = ys.length)⟩
theorem turn_zips {P : Program} {w : World} {K : PySem.W.Frag} {elts : List Expr} {kk : Nat} {tpos : Pos} {z TI TO i1 i2 b : Addr} (x : Str) (t : Tok) (f : Far z TI TO i1 i2 b) :
    Turn P w K (.Tuple elts kk tpos) (Itzs K x b) [z, TI, TO, i1, i2] z (fun i h => IsZip h z TI TO .none ∧ IsTupOf2 h TI (.ref i1) (.ref i2) ∧ (∃ p q, IsTupOf2 h TO p q) ∧ h.IsStrIter i1 (strIterType x) x t i ∧ h.IsListIter i2 b i) where
  mem := List.mem_cons_self
  obj := fun i h st c hc => by
    obtain ⟨hz, hTI, ⟨p, q, hTO⟩, ⟨o1, e1, _, d1⟩, ⟨o2, e2, _, d2⟩⟩ := st
    simp only [List.mem_cons, List.not_mem_nil, or_false] at hc
    rcases hc with rfl | rfl | rfl | rfl | rfl
    · exact ⟨_, hz, fun v q => nomatch q⟩
    · exact ⟨_, hTI, fun v q => nomatch q⟩
    · exact ⟨_, hTO, fun v q => nomatch q⟩
    · exact ⟨o1, e1, fun v q => by rw [d1] at q; cases q⟩
    · exact ⟨o2, e2, fun v q => by rw [d2] at q; cases q⟩
  keep := fun i h h' st k => by
    obtain ⟨hz, hTI, ⟨p, q, hTO⟩, h1, h2⟩ := st
    obtain ⟨o1, e1, g1⟩ := h1
    exact ⟨k z (by simp) _ hz, k TI (by simp) _ hTI, ⟨p, q, k TO (by simp) _ hTO⟩, ⟨o1, k i1 (by simp) _ e1, g1⟩, h2.at fun o e => k i2 (by simp) o e⟩
  item := by
    intro X hP hw hK hc i pins s σ H E I hf st hg
    subst hP hw hK
    obtain ⟨hz, hTI, ⟨p0, q0, hTO⟩, h1, h2⟩ := st
    obtain ⟨ys, c, y, hq, hx, hy⟩ := hg
    obtain ⟨its, rv, p, _⟩ := I.list hq
    obtain ⟨u, hu, ru⟩ := rv.get hy
    have calm : X.A.in1.handled = none := by have := I.ok.hd hc; simp [this]
    have zl : z < s.heap.objs.size := Heap.lt_size hz
    have lt1 : i < x.cps.size := (Array.getElem?_eq_some_iff.mp hx).1
    have lt2 : i < its.toArray.size := by rw [List.size_toArray, ← rv.length]; exact (List.getElem?_eq_some_iff.mp hy).1
    refine wpAny_pyNext_zipD2_item f.sep (Draws.text (prog := X.prog) (w := X.w) calm i1 x t) (Draws.list (prog := X.prog) (w := X.w) calm i2 b (Ne.symm f.c4) its.toArray) hz hTI hTO h1 ⟨h2, p.isList⟩ lt1 lt2
      fun x1 x2 h' tk y1 y2 hz' hTO' d1 d2 hT hsz hk => ?_
    obtain ⟨c', t', hc', rfl⟩ := y1
    rw [hx] at hc'
    cases hc'
    have eu : u = x2 := by
      have q : its[i]? = some x2 := by simpa using y2
      rw [hu] at q
      exact Option.some.inj q
    subst eu
    refine ⟨_, rfl, wpAny_letOwnedTupleGo_zip (s := { s with heap := h', toks := tk }) hz' fun h'' z'' sb => ?_⟩
    have hT2 : h''.get? s.heap.objs.size = some { cls := .type "tuple", data := .seq #[.str ⟨#[c]⟩ t', u] } := (sb.2 _ (Nat.ne_of_gt zl)).trans hT
    have new : ObjOk X.prog X.w (L2.upd H s.heap.objs.size (.tup [.str ⟨#[c]⟩, y])) h'' s.heap.objs.size (.tup [.str ⟨#[c]⟩, y]) :=
      ⟨by show 2 ≤ sizeLine; decide, [.str ⟨#[c]⟩ t', u], .cons ⟨_, rfl⟩ (.cons ru .nil), ⟨_, hT2, rfl, _, rfl⟩⟩
    have I1 : Inv X pins σ (L2.upd H s.heap.objs.size (.tup [.str ⟨#[c]⟩, y])) { s with heap := h'', toks := tk } :=
      I.turnedNew (ch := [z, TI, TO, i1, i2]) (fun d o hb q => (sb.2 d (fun e => hb (by simp [e]))).trans (hk d o (fun e => hb (by simp [e])) (fun e => hb (by simp [e])) (fun e => hb (by simp [e])) (fun e => hb (by simp [e])) q)) hf (Nat.le_refl _) new
    obtain ⟨o1, e1, g1⟩ := d1
    refine ⟨.ref s.heap.objs.size, _, I1, rfl, ⟨_, c, y, rfl, I.hok.fresh (Nat.le_refl _), rfl, hx, fun l hl => by rw [I.list_inj hl hq]; exact hy⟩, ⟨z'', ?_, ⟨_, _, (sb.2 _ f.a2).trans hTO'⟩, ⟨o1, (sb.2 _ (Ne.symm f.a6)).trans e1, g1⟩, d2.1.at fun o q => (sb.2 _ (Ne.symm f.a7)).trans q⟩, fun d hd => ?_⟩
    · exact (sb.2 _ f.a1).trans (hk _ _ f.a1 f.a3 f.a4 f.a5 hTI)
    · have lt : d < s.heap.objs.size := by
        simp only [List.mem_cons, List.not_mem_nil, or_false] at hd
        rcases hd with rfl | rfl | rfl | rfl | rfl
        · exact zl
        · exact Heap.lt_size hTI
        · exact Heap.lt_size hTO
        · obtain ⟨_, e, _⟩ := h1; exact Heap.lt_size e
        · obtain ⟨_, e, _⟩ := h2; exact Heap.lt_size e
      rw [upd_ne (Nat.ne_of_lt lt)]
      exact (hf d hd).1
  done := by
    intro X hP hw hK hc i pins s σ H E I hf st hg
    subst hP hw hK
    obtain ⟨hz, hTI, ⟨p0, q0, hTO⟩, h1, h2⟩ := st
    obtain ⟨ys, hq, le1, le2, hend⟩ := hg
    obtain ⟨its, rv, p, _⟩ := I.list hq
    have l2 := rv.length
    have calm : X.A.in1.handled = none := by have := I.ok.hd hc; simp [this]
    refine wpAny_pyNext_zipD2_end f.sep (Draws.text (prog := X.prog) (w := X.w) calm i1 x t) (Draws.list (prog := X.prog) (w := X.w) calm i2 b (Ne.symm f.c4) its.toArray) hz hTI hTO h1 ⟨h2, p.isList⟩ le1 (by simp; omega) (by simp; omega)
      fun h' tk hk => ⟨rfl, I.turnedL (t' := tk) (ch := [z, TI, TO, i1, i2]) (fun d o hb q => hk d o (fun e => hb (by simp [e])) (fun e => hb (by simp [e])) (fun e => hb (by simp [e])) (fun e => hb (by simp [e])) q) hf⟩
  self := fun A i s Q E st h => wpAny_pyIter_zip st.1 h
def iZips (K : PySem.W.Frag) (ta : TA) : TI := fun σ H R => ta σ H fun vs H1 => ∃ x b ys, vs = [.str x, .ref b] ∧ SqL K H1 b ys ∧ R (Itzs K x b) H1
theorem pi_zips {X : Cx} {e e2 : Expr} {ta : TA} {p pos tpos : Pos} {elts : List Expr} {kk : Nat} (hg : Gl X "zip") (hm : X.mg "zip" = none) (ha : PA X [e, e2] ta)
    (hs : starEach [e, e2] X.env = (false, eval e X.env) :: starEach [e2] X.env := by rfl) (hpl : (backTo pos (starEach [e2] X.env)).any (·.1) = false := by rfl) :
    PI X (.Tuple elts kk tpos) (.Call (.Name "zip" p) [e, e2] [] pos) (iZips X.K ta) := by
  refine ⟨fun pins s σ H R I h => ?_⟩
  refine Call_ (ld_blt I hg hm PyProof.Rows.boot_zip (PyProof.Rows.callWith_type1 (thn (ha.run pos pins s σ H _ I h) fun us s1 hh => ?_) hs hpl))
  obtain ⟨vs, H1, I1, r1, x, b, ys, rfl, hq, q⟩ := hh
  cases r1 with
  | cons r rr =>
    cases rr with
    | cons r2 rr =>
      cases rr
      obtain ⟨t, rfl⟩ := r
      cases r2
      obtain ⟨its, rv, pl, _⟩ := I1.list hq
      have lb : b < s1.heap.objs.size := pl.lt
      refine zip_begins2 (begins_text x t) (begins_list b its.toArray) trivial pl.isList fun h' hz hTI hTO g1 g2 hsz hk => wpAny_pyIter_zip hz ?_
      have I2 : Inv X pins σ H1 { s1 with heap := h' } := I1.kept (t' := s1.toks) hk
      have far : Far (s1.heap.objs.size + 4) (s1.heap.objs.size + 2) (s1.heap.objs.size + 3) s1.heap.objs.size (s1.heap.objs.size + 1) b := by
        have ne : ∀ k : Nat, s1.heap.objs.size + k ≠ b := fun k => Nat.ne_of_gt (Nat.lt_of_lt_of_le lb (Nat.le_add_right _ _))
        refine ⟨?_, ?_, ?_, ?_, ?_, ?_, ?_, ?_, ?_, ?_, ne 4, ne 3, ne 0, ne 1⟩ <;> (intro h; have h' : (_ : Nat) = _ := h; omega)
      refine ⟨s1.heap.objs.size + 4, [s1.heap.objs.size + 4, s1.heap.objs.size + 2, s1.heap.objs.size + 3, s1.heap.objs.size, s1.heap.objs.size + 1], _, _, H1, rfl, I2, turn_zips x t far, ⟨hz, hTI, ⟨_, _, hTO⟩, ⟨_, g1, rfl, rfl⟩, ⟨_, g2, rfl, rfl⟩⟩, fun c hc => ?_, q⟩
      have hle : s1.heap.objs.size ≤ c := by
        simp only [List.mem_cons, List.not_mem_nil, or_false] at hc
        rcases hc with z | z | z | z | z <;> rw [z]
        · exact Nat.le_add_right _ _
        · exact Nat.le_add_right _ _
        · exact Nat.le_add_right _ _
        · exact Nat.le_refl _
        · exact Nat.le_add_right _ _
      exact I1.fpOk hle (I1.hok.fresh hle)
theorem walk_zips {K : PySem.W.Frag} {x : Str} {b : Addr} {ys : List V} (le : ys.length ≤ x.cps.size) : Walk (Itzs K x b) ys.length (fun H => SqL K H b ys)
    (fun i H v H' => ∃ (T : Addr) (c : Nat) (y : V), v = .ref T ∧ H T = none ∧ H' = L2.upd H T (.tup [.str ⟨#[c]⟩, y]) ∧ x.cps[i]? = some c ∧ ys[i]? = some y) where
  goes := fun i H hi g => ⟨ys, x.cps[i]'(by omega), ys[i], g, Array.getElem?_eq_getElem (by omega), List.getElem?_eq_getElem hi⟩
  stops := fun H g => ⟨ys, g, le, Nat.le_refl _, .inr rfl⟩
  yields := fun i H v H' hi g y => by
    obtain ⟨T, c, u, e1, e2, e3, e4, e5⟩ := y
    exact ⟨T, c, u, e1, e2, e3, e4, e5 ys g⟩
end Lf

set_option Elab.async false
set_option linter.all false
set_option maxRecDepth 100000
set_option maxHeartbeats 8000000
namespace K12
open PySem PySem.Spec PyProof.Rows L2 Lf
/-- a word as a text -/
def ws (x : List Nat) : Str := ⟨(x.map fun c => 97 + c).toArray⟩
abbrev wv (x : List Nat) : V := .str (ws x)
theorem ws_app {x : List Nat} {c : Nat} : (ws x ++ (⟨#[97 + c]⟩ : Str)) = ws (x ++ [c]) := by
  show Str.mk ((x.map fun c => 97 + c).toArray ++ #[97 + c]) = ws (x ++ [c])
  unfold ws
  simp
theorem ws_len {x : List Nat} : (ws x).length = x.length := by
  show ((x.map fun c => 97 + c).toArray).size = x.length
  simp
theorem word_shortF : ∀ (m : List (Nat × Nat)) (L : List (List Nat)) (n : Nat), (∀ w ∈ L, w.length ≤ n) → ∀ w ∈ m.foldl Mon.wordStep L, w.length ≤ n + m.length
  | [], L, n, h, w, hw => h w hw
  | p :: r, L, n, h, w, hw => by
    rw [List.length_cons, show n + (r.length + 1) = n + 1 + r.length by omega]
    refine word_shortF r (Mon.wordStep L p) (n + 1) (fun u hu => ?_) w hw
    unfold Mon.wordStep at hu
    rcases List.mem_append.mp hu with g | g
    · have := h u g
      omega
    · rw [List.mem_singleton.mp g, List.length_append, List.length_singleton]
      cases e : L[p.1]? with
      | none => rw [List.getD, e]; show 0 + 1 ≤ _; omega
      | some v =>
        rw [List.getD, e]
        have := h v (List.mem_of_getElem? e)
        show v.length + 1 ≤ _
        omega
theorem word_short {m : List (Nat × Nat)} {w : List Nat} (h : w ∈ Mon.wordTab m) : w.length ≤ m.length := by
  have := word_shortF m [[]] 0 (fun u hu => by rw [List.mem_singleton.mp hu]; exact Nat.le_refl _) w h
  omega
/-- what the search has found, as it lies -/
structure Lay (H : Hp) (pf pw pt pn : Addr) (as bs : List Addr) (found words rows : List (List Nat)) : Prop where
  f : H pf = some (.lst (as.map V.ref))
  fl : as.length = found.length
  fe : ∀ (j : Nat) a x, as[j]? = some a → found[j]? = some x → H a = some (.tup (x.map nv))
  w : H pw = some (.lst (words.map wv))
  t : H pt = some (.lst (bs.map V.ref))
  tl : bs.length = rows.length
  te : ∀ (j : Nat) b r, bs[j]? = some b → rows[j]? = some r → H b = some (.lst (r.map nv))
  tn : ∀ b ∈ bs, b ≠ pf ∧ b ≠ pw ∧ b ≠ pt
  d : H pn = some (.dT (dtab found))
  n1 : pf ≠ pw
  n2 : pf ≠ pt
  n3 : pw ≠ pt
section
variable {H : Hp} {pf pw pt pn : Addr} {as bs : List Addr} {found words rows : List (List Nat)}
theorem Lay.same {H' : Hp} (L : Lay H pf pw pt pn as bs found words rows) (s : Same H H') : Lay H' pf pw pt pn as bs found words rows :=
  ⟨s _ _ L.f, L.fl, fun j a x h1 h2 => s _ _ (L.fe j a x h1 h2), s _ _ L.w, s _ _ L.t, L.tl, fun j b r h1 h2 => s _ _ (L.te j b r h1 h2), L.tn, s _ _ L.d, L.n1, L.n2, L.n3⟩
theorem Lay.gn (L : Lay H pf pw pt pn as bs found words rows) : pn ≠ pf ∧ pn ≠ pw ∧ pn ≠ pt := by
  refine ⟨fun z => ?_, fun z => ?_, fun z => ?_⟩
  · have := L.d; rw [z, L.f] at this; cases this
  · have := L.d; rw [z, L.w] at this; cases this
  · have := L.d; rw [z, L.t] at this; cases this
theorem Lay.bn (L : Lay H pf pw pt pn as bs found words rows) {b : Addr} (hb : b ∈ bs) : b ≠ pn := fun z => by
  obtain ⟨j, hj⟩ := List.getElem?_of_mem hb
  obtain ⟨r, hr⟩ := lt_get (show j < rows.length by rw [← L.tl]; exact get_lt hj)
  have := L.te j b r hj hr
  rw [z, L.d] at this
  cases this
/-- a list that is not of it changes -/
theorem Lay.off (L : Lay H pf pw pt pn as bs found words rows) {p : Addr} {l l' : List V} (hp : H p = some (.lst l)) (np : p ≠ pf ∧ p ≠ pw ∧ p ≠ pt) (nb : p ∉ bs) : Lay (upd H p (.lst l')) pf pw pt pn as bs found words rows where
  f := by rw [upd_ne np.1.symm]; exact L.f
  fl := L.fl
  fe := fun j a x h1 h2 => by
    have e := L.fe j a x h1 h2
    rw [upd_ne (fun z => by rw [z, hp] at e; cases e)]
    exact e
  w := by rw [upd_ne np.2.1.symm]; exact L.w
  t := by rw [upd_ne np.2.2.symm]; exact L.t
  tl := L.tl
  te := fun j b r h1 h2 => by
    rw [upd_ne (fun z => nb (by rw [← z]; exact List.mem_of_getElem? h1))]
    exact L.te j b r h1 h2
  tn := L.tn
  d := by
    have e := L.d
    rw [upd_ne (fun z => by rw [z, hp] at e; cases e)]
    exact e
  n1 := L.n1
  n2 := L.n2
  n3 := L.n3
/-- a row more -/
theorem Lay.row (L : Lay H pf pw pt pn as bs found words rows) {p : Addr} {r : List Nat} (hp : H p = some (.lst (r.map nv))) (np : p ≠ pf ∧ p ≠ pw ∧ p ≠ pt) : Lay (upd H pt (.lst ((bs ++ [p]).map V.ref))) pf pw pt pn as (bs ++ [p]) found words (rows ++ [r]) where
  f := by rw [upd_ne L.n2]; exact L.f
  fl := L.fl
  fe := fun j a x h1 h2 => by
    have e := L.fe j a x h1 h2
    rw [upd_ne (fun z => by rw [z, L.t] at e; cases e)]
    exact e
  w := by rw [upd_ne L.n3]; exact L.w
  t := upd_same
  tl := by rw [List.length_append, List.length_append, L.tl]; rfl
  te := fun j b r' h1 h2 => by
    rcases Mon.snoc_cases h1 with h1 | ⟨rfl, rfl⟩
    · rcases Mon.snoc_cases h2 with h2 | ⟨rfl, rfl⟩
      · rw [upd_ne (L.tn b (List.mem_of_getElem? h1)).2.2]
        exact L.te j b r' h1 h2
      · have := get_lt h1
        rw [L.tl] at this
        omega
    · rcases Mon.snoc_cases h2 with h2 | ⟨_, rfl⟩
      · have := get_lt h2
        rw [L.tl] at this
        omega
      · rw [upd_ne np.2.2]
        exact hp
  tn := fun b hb => by
    rcases List.mem_append.mp hb with h | h
    · exact L.tn b h
    · rw [List.mem_singleton.mp h]
      exact np
  d := by rw [upd_ne L.gn.2.2]; exact L.d
  n1 := L.n1
  n2 := L.n2
  n3 := L.n3
/-- an element more -/
theorem Lay.add (L : Lay H pf pw pt pn as bs found words rows) {b : Addr} {x wd : List Nat} (hb : H b = some (.tup (x.map nv))) : Lay (upd (upd (upd H pn (.dT (dtab (found ++ [x])))) pf (.lst ((as ++ [b]).map V.ref))) pw (.lst ((words ++ [wd]).map wv))) pf pw pt pn (as ++ [b]) bs (found ++ [x]) (words ++ [wd]) rows where
  f := by rw [upd_ne L.n1, upd_same]
  fl := by rw [List.length_append, List.length_append, L.fl]; rfl
  fe := fun j a y h1 h2 => by
    have e : H a = some (.tup (y.map nv)) := by
      rcases Mon.snoc_cases h1 with h1 | ⟨rfl, rfl⟩
      · rcases Mon.snoc_cases h2 with h2 | ⟨rfl, rfl⟩
        · exact L.fe j a y h1 h2
        · have := get_lt h1
          rw [L.fl] at this
          omega
      · rcases Mon.snoc_cases h2 with h2 | ⟨_, rfl⟩
        · have := get_lt h2
          rw [L.fl] at this
          omega
        · exact hb
    rw [upd_ne (fun z => by rw [z, L.w] at e; cases e), upd_ne (fun z => by rw [z, L.f] at e; cases e), upd_ne (fun z => by rw [z, L.d] at e; cases e)]
    exact e
  w := upd_same
  t := by rw [upd_ne L.n3.symm, upd_ne L.n2.symm, upd_ne L.gn.2.2.symm]; exact L.t
  tl := L.tl
  te := fun j c r h1 h2 => by
    have m := List.mem_of_getElem? h1
    obtain ⟨a1, a2, a3⟩ := L.tn c m
    rw [upd_ne a2, upd_ne a1, upd_ne (L.bn m)]
    exact L.te j c r h1 h2
  tn := L.tn
  d := by rw [upd_ne L.gn.2.1, upd_ne L.gn.1, upd_same]
  n1 := L.n1
  n2 := L.n2
  n3 := L.n3
end
end K12

set_option Elab.async false
set_option linter.all false
set_option maxRecDepth 100000
set_option maxHeartbeats 8000000
namespace K12
open PySem PySem.Spec PyProof.Rows L2 Lf
abbrev NLe : List Str := ["_law_right_here", "_law_paths", "_law_found", "_law_number", "_law_row", "_law_letter", "_law_other", "_law_first", "_law_ends", "_law_here"]
theorem word_lettersF {wd : Nat} : ∀ (m : List (Nat × Nat)) (L : List (List Nat)), (∀ p ∈ m, p.2 < wd) → (∀ w ∈ L, ∀ c ∈ w, c < wd) → ∀ w ∈ m.foldl Mon.wordStep L, ∀ c ∈ w, c < wd
  | [], L, _, h, w, hw => h w hw
  | p :: r, L, hm, h, w, hw => by
    refine word_lettersF r (Mon.wordStep L p) (fun q hq => hm q (List.mem_cons_of_mem _ hq)) (fun u hu c hc => ?_) w hw
    unfold Mon.wordStep at hu
    rcases List.mem_append.mp hu with g | g
    · exact h u g c hc
    · rw [List.mem_singleton.mp g] at hc
      rcases List.mem_append.mp hc with hc | hc
      · cases e : L[p.1]? with
        | none => rw [List.getD, e] at hc; cases hc
        | some v => rw [List.getD, e] at hc; exact h v (List.mem_of_getElem? e) c hc
      · rw [List.mem_singleton.mp hc]
        exact hm p List.mem_cons_self
/-- the letters of words are letters -/
theorem word_letters {rows : List (List Nat)} {wd : Nat} {m : List (Nat × Nat)} (FO : Form rows wd) (hm : Mon.madeTab 0 rows [] = some m) (j : Nat) : ∀ c ∈ (Mon.wordTab m).getD j [], c < wd := fun c hc => by
  have all : ∀ p ∈ m, p.2 < wd := fun p hp => by
    obtain ⟨k, hk⟩ := List.getElem?_of_mem hp
    obtain ⟨_, row, b, c⟩ := Mon.madeTab_lt hm hk
    have := (FO.2.2.2.2 row (List.mem_of_getElem? b)).1
    have := get_lt c
    omega
  cases e : (Mon.wordTab m)[j]? with
  | none => rw [List.getD, e] at hc; cases hc
  | some w =>
    rw [Mon.getD_of e] at hc
    exact word_lettersF m [[]] all (fun u hu d hd => by rw [List.mem_singleton.mp hu] at hd; cases hd) w (List.mem_of_getElem? e) c hc
theorem ix_sq {K : PySem.W.Frag} {H : Hp} {r : Addr} {xs : List V} {j : Nat} {v : V} {Q : VK} (h : SqL K H r xs ∨ SqT K H r xs) (hv : xs[j]? = some v) (k : Q v H) : rIx K (.ref r) (.int (j : Nat)) H Q := by
  rcases h with h | h
  · exact .inl ⟨r, xs, _, v, rfl, rfl, h, atI_nat hv, k⟩
  · exact .inr (.inl ⟨r, xs, _, v, rfl, rfl, h, atI_nat hv, k⟩)
theorem walk_lt {rows : List (List Nat)} {wd : Nat} (F : Form rows wd) : ∀ {w : List Nat} {s : Nat}, s < rows.length → (∀ c ∈ w, c < wd) → Mon.walk rows s w < rows.length
  | [], s, h, _ => h
  | c :: r, s, h, hc => by
    obtain ⟨row, hr⟩ := lt_get h
    have fr := F.2.2.2.2 row (List.mem_of_getElem? hr)
    obtain ⟨t, ht⟩ := lt_get (show c < row.length by rw [fr.1]; exact hc c List.mem_cons_self)
    show Mon.walk rows ((rows.getD s []).getD c 0) r < _
    rw [Mon.getD_of hr, Mon.getD_of ht]
    exact walk_lt F (fr.2 t (List.mem_of_getElem? ht)) fun x hx => hc x (List.mem_cons_of_mem _ hx)
/-- the lists at ps hold words -/
def WL (H : Hp) (ps : List Addr) (L : List (List Nat)) : Prop := ps.length = L.length ∧ ∀ (k : Nat) a w, ps[k]? = some a → L[k]? = some w → H a = some (.lst (w.map nv))
def spLefts (K : PySem.W.Frag) : Sp := fun vs H Q _ => ∃ r rows wd m, vs = [.ref r] ∧ RowsA K H r rows ∧ Form rows wd ∧ Mon.madeTab 0 rows [] = some m ∧
  ∀ p (as : List Addr) H', Same H H' → H' p = some (.lst (as.map V.ref)) → as.length = wd → (∀ (c : Nat) a, as[c]? = some a → H' a = some (.lst ((Mon.leftTab rows m).map fun l => nv (l.getD c 0)))) → Q (.ref p) H'
section
variable {P : Program} {w : World} {K : PySem.W.Frag} {mg : Str → Option Value} {base : Heap}
theorem scLefts : FnScope NLe ["_law_right_here"] (defScope s_L_lefts) := ⟨rfl, rfl, rfl, by decide +kernel, rfl, by decide +kernel, by decide +kernel⟩
theorem ok_lefts {f : Addr} {fd : FuncData} {q : Str} (F : FunD K "_law_lefts" q (defArgs s_L_lefts) (defBody s_L_lefts) (defScope s_L_lefts) [] [] f fd) (T : Txt P w K mg base) :
    FnOk P w K mg base CX0 1 f fd ["_law_right_here"] (spLefts K) := by
  have zE : mg "enumerate" = none := T.fr 35 "enumerate" rfl
  have zn : mg "len" = none := T.fr 38 "len" rfl
  have zr : mg "range" = none := T.fr 40 "range" rfl
  refine F.ok scLefts (fun vs H Q E h => ?_) (fun cdv A outer s H vs Q E hr h => ?_)
  · obtain ⟨r, rows, wd, m, rfl, _⟩ := h
    rfl
  · obtain ⟨r, rows, wd, m, rfl, R, FO, hm, k⟩ := h
    have hu : (A.deeper (envOfC q (defScope s_L_lefts) s.heap.objs.size f cdv)).units + 1 < cLine := by have := hr.units; omega
    refine ⟨_, PSs.nox (pss_cons (ps_par (i := 1) (j := 2) rfl scLefts.nd rfl rfl (by decide) rfl rfl (pa_cons (pe_disp (pps_cons pe_int (pe_lst pa_nil) pps_nil) (by rfl) (by rfl) (fun z => by cases z) (by decide)) (pa_cons (pe_lst pa_nil) pa_nil)) (by rfl))
      (pss_cons (ps_for PassesOwn.never rfl (pi_enumA rfl zE (pv 0)) (pg_tup rfl (pgs_cons (pg_name (i := 3) scLefts.nd rfl (.inl rfl)) (pgs_cons (pg_name (i := 4) scLefts.nd rfl (.inl rfl)) pgs_nil)))
        (pss_one (ps_for PassesOwn.never rfl (pi_enumA rfl zE (pv 4)) (pg_tup rfl (pgs_cons (pg_name (i := 5) scLefts.nd rfl (.inl rfl)) (pgs_cons (pg_name (i := 6) scLefts.nd rfl (.inl rfl)) pgs_nil)))
          (pss_one (ps_if (pt_cmp (pc_dnotin hu (pv 6) (pv 1)) (by rfl))
            (pss_one (ps_dput hu (pv 1) (pv 6) (pe_op op_catL (pe_dget hu (pv 1) (pv 3) (fun _ _ => rfl)) (pe_lst (pa_cons (pv 5) pa_nil))) rfl)) pss_nil)))))
      (pss_cons (ps_for PassesOwn.never rfl (pi_range1 rfl zr (pa_cons (pe_callB call_len_seq rfl zn boot_len (pa_cons (pe_ix ix_seq (pv 0) pe_int (fun _ _ => rfl)) pa_nil)) pa_nil)) (pg_name (i := 7) scLefts.nd rfl (.inl rfl))
        (pss_cons (ps_set (i := 8) scLefts.nd rfl (.inl rfl) (pe_lst pa_nil))
        (pss_cons (ps_for PassesOwn.never rfl (pi_range1 rfl zr (pa_cons (pe_callB call_len_seq rfl zn boot_len (pa_cons (pv 0) pa_nil)) pa_nil)) (pg_name (i := 3) scLefts.nd rfl (.inl rfl))
          (pss_cons (ps_set (i := 9) scLefts.nd rfl (.inl rfl) (pe_ix ix_seq (pe_ix ix_seq (pv 0) pe_int (fun _ _ => rfl)) (pv 7) (fun _ _ => rfl)))
          (pss_cons (ps_for PassesOwn.never rfl (pi_list (pe_dget hu (pv 1) (pv 3) (fun _ _ => rfl))) (pg_name (i := 5) scLefts.nd rfl (.inl rfl))
            (pss_one (ps_set (i := 9) scLefts.nd rfl (.inl rfl) (pe_ix ix_seq (pe_ix ix_seq (pv 0) (pv 9) (fun _ _ => rfl)) (pv 5) (fun _ _ => rfl)))))
          (pss_one (ps_expr (pe_bm PySem.F.plainAttrs_list PySem.F.slot_list_append PySem.F.type_list_append mt_append (pv 8) (pa_cons (pv 9) pa_nil)))))))
        (pss_one (ps_expr (pe_bm PySem.F.plainAttrs_list PySem.F.slot_list_append PySem.F.type_list_append mt_append (pv 2) (pa_cons (pv 8) pa_nil)))))))
      (pss_one (ps_ret (pv 2)))))), ?_⟩
    obtain ⟨as, sr, la, srow⟩ := R.ex
    obtain ⟨f1, f2, w1, w6, frow⟩ := id FO
    have lm := made_len FO hm
    have ln : (as.map V.ref).length = rows.length := by rw [List.length_map, la]
    refine fun d nd => ⟨(by show 0 ≤ sizeLine; decide), fun a0 na0 => ⟨same_upd na0 _ _ upd_same, [(ik 0, .ref a0)], rfl, (by show 1 ≤ 15; decide), ?_⟩⟩
    have nda : a0 ≠ d := fun z => by rw [z, upd_same] at na0; cases na0
    have na0H : H a0 = none := by rw [upd_ne nda] at na0; exact na0
    have s1 : Same H (L2.upd (L2.upd (L2.upd H d (.dK [])) a0 (.lst [])) d (.dK (mergeK [] [(ik 0, V.ref a0)]))) := fun b o e => by
      rw [upd_ne (ne_of_none e nd), upd_ne (ne_of_none e na0H), upd_ne (ne_of_none e nd)]
      exact e
    have hd1 : L2.upd (L2.upd (L2.upd H d (.dK [])) a0 (.lst [])) d (.dK (mergeK [] [(ik 0, V.ref a0)])) d = some (.dK (rfF 0 [a0])) := upd_same
    have ha1 : L2.upd (L2.upd (L2.upd H d (.dK [])) a0 (.lst [])) d (.dK (mergeK [] [(ik 0, V.ref a0)])) a0 = some (.lst (([] : List Nat).map nv)) := by rw [upd_ne nda]; exact upd_same
    generalize L2.upd (L2.upd (L2.upd H d (.dK [])) a0 (.lst [])) d (.dK (mergeK [] [(ik 0, V.ref a0)])) = H1 at s1 hd1 ha1 ⊢
    refine ⟨(by show 0 ≤ sizeLine; decide), fun D nD => ?_⟩
    have nDd : D ≠ d := fun z => by rw [z, hd1] at nD; cases nD
    have nDa : D ≠ a0 := fun z => by rw [z, ha1] at nD; cases nD
    have u2 := same_upd (o := .lst []) nD
    have nDH : H D = none := nil_of s1 nD
    have s2 := s1.trans u2
    have hd2 := u2 _ _ hd1
    have ha2 := u2 _ _ ha1
    have hD2 : L2.upd H1 D (.lst []) D = some (.lst (([] : List Addr).map V.ref)) := upd_same
    generalize L2.upd H1 D (.lst []) = H2 at s2 hd2 ha2 hD2 ⊢
    clear u2 nD s1 hd1 ha1 na0
    refine ⟨_, _, rfl, ?_⟩
    refine ⟨_, rfl, r, as.map V.ref, rfl, for_enum (H0 := H) sr (fun i σ Hn => ∃ v3 v4 v5 v6 : Option V, σ = [some (.ref r), some (.ref d), some (.ref D), v3, v4, v5, v6, none, none, none] ∧ Same H Hn ∧ Hn D = some (.lst (([] : List Addr).map V.ref)) ∧ ∃ (m' : List (Nat × Nat)) (ps : List Addr), Mon.madeTab 0 (rows.take i) [] = some m' ∧ Hn d = some (.dK (rfF 0 ps)) ∧ (∀ x ∈ ps, x ≠ d ∧ x ≠ D) ∧ WL Hn ps (Mon.wordTab m')) ⟨none, none, none, none, rfl, s2, hD2, [], [a0], by simp [Mon.madeTab], hd2, (fun x hx => by rw [List.mem_singleton.mp hx]; exact ⟨nda, nDa.symm⟩), rfl, fun k a w h1 h2 => by
        cases k with
        | zero => cases h1; cases h2; exact ha2
        | succ k => simp at h1⟩ (fun i σ Hn _ ⟨_, _, _, _, _, s, _⟩ => s) ?_ ?_⟩
    · rintro i y σ Hn ⟨v3, v4, v5, v6, rfl, sn, hDn, m', ps, hm', hdn, nps, wl⟩ hy T' nT
      obtain ⟨a, ha, rfl⟩ := map_get hy
      have hi2 : i < rows.length := by have := get_lt ha; omega
      obtain ⟨row, hrow⟩ := lt_get hi2
      have sa := srow i a row ha hrow
      obtain ⟨wr, en⟩ := frow row (List.mem_of_getElem? hrow)
      obtain ⟨m0, e0, i0, m2, e2, e3⟩ := Mon.madeTab_at hm hrow
      rw [hm'] at e0
      cases e0
      refine ⟨T', _, rfl, SqT.of upd_same, rfl, _, _, rfl, _, _, rfl, rfl, ?_⟩
      have sT := same_upd (o := .tup [.int (i : Nat), .ref a]) nT
      have s3 := sn.trans sT
      have hD3 := sT _ _ hDn
      have hd3 := sT _ _ hdn
      have wl3 : WL (L2.upd Hn T' (.tup [.int (i : Nat), .ref a])) ps (Mon.wordTab m') := ⟨wl.1, fun k a w h1 h2 => sT _ _ (wl.2 k a w h1 h2)⟩
      generalize L2.upd Hn T' (.tup [.int (i : Nat), .ref a]) = H3 at s3 hD3 hd3 wl3 ⊢
      clear sT wl nT sn hDn hdn
      refine ⟨_, rfl, a, row.map nv, rfl, for_enum (H0 := H) sa (fun c σ H4 => ∃ v5 v6 : Option V, σ = [some (.ref r), some (.ref d), some (.ref D), some (nv i), some (.ref a), v5, v6, none, none, none] ∧ Same H H4 ∧ H4 D = some (.lst (([] : List Addr).map V.ref)) ∧ ∃ (m4 : List (Nat × Nat)) (ps : List Addr), Mon.madeRow i 0 (row.take c) m' = some m4 ∧ H4 d = some (.dK (rfF 0 ps)) ∧ (∀ x ∈ ps, x ≠ d ∧ x ≠ D) ∧ WL H4 ps (Mon.wordTab m4)) ⟨_, _, rfl, s3, hD3, m', ps, by simp [Mon.madeRow], hd3, nps, wl3⟩ (fun j σ H4 _ ⟨_, _, _, s, _⟩ => s) ?_ ?_⟩
      · rintro c x σ H4 ⟨v5, v6, rfl, s4, hD4, m4, ps4, hm4, hd4, nps4, wl4⟩ hy2 T2 nT2
        obtain ⟨t, ht, rfl⟩ := map_get hy2
        have cl := get_lt ht
        have nx : Mon.madeRow i 0 (row.take (c + 1)) m' = if m4.length + 1 < t then none else if t = m4.length + 1 then some (m4 ++ [(i, c)]) else some m4 := by
          rw [take_snoc' ht, Mon.madeRow_snoc, hm4, Option.bind_some, List.length_take, Nat.min_eq_left (Nat.le_of_lt cl), Nat.zero_add]
        have nn : ¬ m4.length + 1 < t := fun z => by
          rw [if_pos z] at nx
          rw [row_none hm4 nx] at e2
          cases e2
        rw [if_neg nn] at nx
        refine ⟨T2, _, rfl, SqT.of upd_same, rfl, _, _, rfl, _, _, rfl, rfl, ?_⟩
        have sT := same_upd (o := .tup [.int (c : Nat), nv t]) nT2
        have s5 := s4.trans sT
        have hD5 := sT _ _ hD4
        have hd5 := sT _ _ hd4
        have wl5 : WL (L2.upd H4 T2 (.tup [.int (c : Nat), nv t])) ps4 (Mon.wordTab m4) := ⟨wl4.1, fun k a w h1 h2 => sT _ _ (wl4.2 k a w h1 h2)⟩
        generalize L2.upd H4 T2 (.tup [.int (c : Nat), nv t]) = H5 at s5 hD5 hd5 wl5 ⊢
        clear sT wl4 nT2 s4 hD4 hd4
        have lps : ps4.length = m4.length + 1 := by rw [wl5.1, Mon.word_len]
        refine ⟨_, rfl, _, rfl, d, valV (rfF 0 ps4) (ik t), rfl, DGet.k (k := ik t) hd5, ?_⟩
        by_cases ct : t = m4.length + 1
        case neg =>
          rw [if_neg ct] at nx
          obtain ⟨b, hb⟩ := lt_get (show t < ps4.length by omega)
          have z := rf_some (k := 0) hb
          rw [Nat.zero_add] at z
          rw [z]
          exact ⟨_, rfl, ifF rfl ⟨_, _, rfl, s5, hD5, m4, ps4, nx, hd5, nps4, wl5⟩⟩
        rw [if_pos ct] at nx
        rw [rf_none (.inr (by omega))]
        refine ⟨_, rfl, ifT rfl ?_⟩
        have l4 : m4.length ≤ m.length := Nat.le_trans (len_growR e2 hm4) (len_grow hm e3)
        have i4 : m'.length ≤ m4.length := by
          obtain ⟨e, he, _⟩ := Mon.madeRow_ok hm4
          rw [he, List.length_append]
          omega
        obtain ⟨b, hb⟩ := lt_get (show i < ps4.length by omega)
        obtain ⟨wi, hwi⟩ := lt_get (show i < (Mon.wordTab m4).length by rw [Mon.word_len]; omega)
        have hbw := wl5.2 i b wi hb hwi
        have ws := word_short (List.mem_of_getElem? hwi)
        have gb := rf_some (k := 0) hb
        rw [Nat.zero_add] at gb
        refine ⟨_, rfl, _, rfl, d, .ref b, rfl, (by have z := DGet.k (k := ik i) hd5; rw [gb] at z; exact z), _, rfl, (by show 1 ≤ sizeLine; decide), fun q0 nq => ?_⟩
        have u6 := same_upd (o := .lst [nv c]) nq
        have s6 := s5.trans u6
        have hD6 := u6 _ _ hD5
        have hd6 := u6 _ _ hd5
        have hb6 := u6 _ _ hbw
        have hq6 : L2.upd H5 q0 (.lst [nv c]) q0 = some (.lst [nv c]) := upd_same
        have wl6 : WL (L2.upd H5 q0 (.lst [nv c])) ps4 (Mon.wordTab m4) := ⟨wl5.1, fun k a w h1 h2 => u6 _ _ (wl5.2 k a w h1 h2)⟩
        generalize L2.upd H5 q0 (.lst [nv c]) = H6 at s6 hD6 hd6 hb6 hq6 wl6 ⊢
        clear u6 nq
        refine ⟨b, q0, _, _, rfl, rfl, SqL.of hb6, SqL.of hq6, by rw [List.length_map]; show wi.length + 1 ≤ 16777216; omega, fun N nN => ?_⟩
        have nNd : N ≠ d := fun z => by rw [z, hd6] at nN; cases nN
        have nND : N ≠ D := fun z => by rw [z, hD6] at nN; cases nN
        have u7 := same_upd (o := .lst (wi.map nv ++ [nv c])) nN
        have s7 := s6.trans u7
        have hD7 := u7 _ _ hD6
        have hd7 := u7 _ _ hd6
        have hN7 : L2.upd H6 N (.lst (wi.map nv ++ [nv c])) N = some (.lst ((wi ++ [c]).map nv)) := by rw [upd_same, List.map_append]; rfl
        have wl7 : WL (L2.upd H6 N (.lst (wi.map nv ++ [nv c]))) ps4 (Mon.wordTab m4) := ⟨wl6.1, fun k a w h1 h2 => u7 _ _ (wl6.2 k a w h1 h2)⟩
        generalize L2.upd H6 N (.lst (wi.map nv ++ [nv c])) = H7 at s7 hD7 hd7 hN7 wl7 ⊢
        clear u7 nN
        refine ⟨_, rfl, _, rfl, d, _, rfl, DPut.k (k := ik t) hd7 (by rw [rf_len]; show ps4.length < 16777216; omega), ?_⟩
        rw [show t = ps4.length by omega, rf_put]
        have ew : Mon.wordTab (m4 ++ [(i, c)]) = Mon.wordTab m4 ++ [wi ++ [c]] := by
          unfold Mon.wordTab
          rw [List.foldl_append]
          show Mon.wordStep (Mon.wordTab m4) (i, c) = _
          unfold Mon.wordStep
          rw [Mon.getD_of hwi]
          rfl
        refine ⟨_, _, rfl, fun b o e => ?_, by rw [upd_ne nDd]; exact hD7, _, ps4 ++ [N], nx, upd_same, fun x hx => ?_, ?_⟩
        · rw [upd_ne (ne_of_none e nd)]
          exact s7 b o e
        · rcases List.mem_append.mp hx with h | h
          · exact nps4 x h
          · rw [List.mem_singleton.mp h]
            exact ⟨nNd, nND⟩
        · rw [ew]
          refine ⟨by rw [List.length_append, List.length_append, wl7.1]; rfl, fun k a w h1 h2 => ?_⟩
          by_cases hk : k < ps4.length
          · rw [List.getElem?_append_left hk] at h1
            rw [List.getElem?_append_left (by rw [← wl7.1]; exact hk)] at h2
            rw [upd_ne (nps4 a (List.mem_of_getElem? h1)).1]
            exact wl7.2 k a w h1 h2
          · have := get_lt h1
            rw [List.length_append, List.length_singleton] at this
            have e : k = ps4.length := by omega
            subst e
            rw [List.getElem?_append_right (Nat.le_refl _), Nat.sub_self] at h1
            rw [List.getElem?_append_right (by rw [wl7.1]; exact Nat.le_refl _), wl7.1, Nat.sub_self] at h2
            cases h1
            cases h2
            rw [upd_ne nNd]
            exact hN7
      · rintro σ H4 ⟨v5, v6, rfl, s4, hD4, m4, ps4, hm4, hd4, nps4, wl4⟩
        rw [List.length_map, List.take_length, e2] at hm4
        cases hm4
        exact ⟨_, _, _, _, rfl, s4, hD4, m2, ps4, e3, hd4, nps4, wl4⟩
    rintro σ Hn ⟨v3, v4, v5, v6, rfl, sn, hDn, m', ps, hm', hdn, nps, wl⟩
    rw [ln, List.take_length, hm] at hm'
    cases hm'
    obtain ⟨b0, hb0⟩ := lt_get (show 0 < as.length by omega)
    obtain ⟨row0, hrow0⟩ := lt_get (show 0 < rows.length by omega)
    have fr0 := frow row0 (List.mem_of_getElem? hrow0)
    have sb0 := srow 0 b0 row0 hb0 hrow0
    have lps : ps.length = rows.length := by rw [wl.1, Mon.word_len, lm]
    have lL : (Mon.leftTab rows m).length = rows.length := by rw [Mon.left_len, lm]
    refine ⟨_, rfl, ix_sq (j := 0) (sq_same sn sr) (get_map hb0) ⟨b0, row0.map nv, rfl, sq_same sn sb0, ((row0.length : Nat) : Int), by rw [List.length_map], by omega, by omega, ?_⟩⟩
    refine for_range (lo := 0) (n := row0.length) (fun c σ Hc => ∃ v3 v4 v5 v6 v7 v8 v9 : Option V, σ = [some (.ref r), some (.ref d), some (.ref D), v3, v4, v5, v6, v7, v8, v9] ∧ Same H Hc ∧ Hc d = some (.dK (rfF 0 ps)) ∧ WL Hc ps (Mon.wordTab m) ∧ ∃ es : List Addr, Hc D = some (.lst (es.map V.ref)) ∧ es.length = c ∧ ∀ (c' : Nat) a, es[c']? = some a → a ≠ D ∧ Hc a = some (.lst ((Mon.leftTab rows m).map fun l => nv (l.getD c' 0))))
      ⟨_, _, _, _, _, _, _, rfl, sn, hdn, wl, [], hDn, rfl, fun c' a h => by simp at h⟩ (fun c σ Hc hc ⟨v3, v4, v5, v6, v7, v8, v9, eσ, sc, hdc, wlc, es, hDc, les, pes⟩ => ?_) (fun σ Hc ⟨v3, v4, v5, v6, v7, v8, v9, eσ, sc, hdc, wlc, es, hDc, les, pes⟩ => ?_)
    · subst eσ
      rw [Int.zero_add]
      obtain ⟨s0, hs0⟩ := lt_get hc
      have s0n := fr0.2 s0 (List.mem_of_getElem? hs0)
      refine ⟨(by show 0 ≤ sizeLine; decide), fun E0' nE => ?_⟩
      have nEd : E0' ≠ d := fun z => by rw [z, hdc] at nE; cases nE
      have nED : E0' ≠ D := fun z => by rw [z, hDc] at nE; cases nE
      have nEH : H E0' = none := nil_of sc nE
      have uE := same_upd (o := .lst []) nE
      have hE : L2.upd Hc E0' (.lst []) E0' = some (.lst []) := upd_same
      refine ⟨_, rfl, r, as.map V.ref, rfl, sq_same (sc.trans uE) sr, ((rows.length : Nat) : Int), by rw [ln], by omega, by omega, ?_⟩
      refine for_range (lo := 0) (n := rows.length) (fun i σ Hx => ∃ v3 v5 v9 : Option V, σ = [some (.ref r), some (.ref d), some (.ref D), v3, v4, v5, v6, some (.int (c : Nat)), some (.ref E0'), v9] ∧ But E0' Hc Hx ∧ Hx E0' = some (.lst (((Mon.leftTab rows m).take i).map fun l => nv (l.getD c 0))))
        ⟨_, _, _, rfl, But.upd, hE⟩ (fun i σ Hx hi ⟨v3, v5, v9, eσ, bx, hEx⟩ => ?_) (fun σ Hx ⟨v3, v5, v9, eσ, bx, hEx⟩ => ?_)
      · subst eσ
        rw [Int.zero_add]
        have sx : Same H Hx := fun b o e => bx b o (ne_of_none e nEH) (sc b o e)
        have hdx := bx _ _ nEd.symm hdc
        obtain ⟨b, hb⟩ := lt_get (show i < ps.length by omega)
        obtain ⟨wi, hwi⟩ := lt_get (show i < (Mon.wordTab m).length by rw [Mon.word_len]; omega)
        obtain ⟨li, hli⟩ := lt_get (show i < (Mon.leftTab rows m).length by omega)
        have hbw0 := wlc.2 i b wi hb hwi
        have nbE : b ≠ E0' := fun z => by rw [z, nE] at hbw0; cases hbw0
        have hbw := bx _ _ nbE hbw0
        have ltr : ∀ x ∈ wi, x < wd := by
          have z := word_letters FO hm i
          rw [Mon.getD_of hwi] at z
          exact z
        have gb := rf_some (k := 0) hb
        rw [Nat.zero_add] at gb
        refine ⟨_, rfl, ix_sq (j := 0) (sq_same sx sr) (get_map hb0) ⟨_, rfl, ix_sq (sq_same sx sb0) (get_map hs0) ?_⟩⟩
        refine ⟨_, rfl, _, rfl, d, .ref b, rfl, (by have z := DGet.k (k := ik i) hdx; rw [gb] at z; exact z), b, rfl, ⟨_, SqL.of hbw⟩, ?_⟩
        refine for_list (K := K) (a := b) (xs := wi.map nv) (fun j σ Hy => ∃ v5 : Option V, σ = [some (.ref r), some (.ref d), some (.ref D), some (.int (i : Nat)), v4, v5, v6, some (.int (c : Nat)), some (.ref E0'), some (nv (Mon.walk rows s0 (wi.take j)))] ∧ Hy = Hx) ⟨_, rfl, rfl⟩ (fun j σ Hy _ ⟨_, _, e⟩ => by rw [e]; exact SqL.of hbw) (fun j z σ Hy hz ⟨v5', eσ, e⟩ => ?_) (fun σ Hy ⟨v5', eσ, e⟩ => ?_)
        · subst eσ
          subst e
          obtain ⟨x, hx, rfl⟩ := map_get hz
          have wlt := walk_lt FO s0n (fun y hy => ltr y (List.mem_of_mem_take hy)) (w := wi.take j)
          obtain ⟨bw, hbw'⟩ := lt_get (show Mon.walk rows s0 (wi.take j) < as.length by omega)
          obtain ⟨rw_, hrw⟩ := lt_get wlt
          have frw := frow rw_ (List.mem_of_getElem? hrw)
          obtain ⟨e1, he1⟩ := lt_get (show x < rw_.length by rw [frw.1]; exact ltr x (List.mem_of_getElem? hx))
          have ew : Mon.walk rows s0 (wi.take (j + 1)) = e1 := by
            rw [take_snoc hx, Mon.walk_app]
            show (rows.getD (Mon.walk rows s0 (wi.take j)) []).getD x 0 = e1
            rw [Mon.getD_of hrw, Mon.getD_of he1]
          refine ⟨_, rfl, _, rfl, ix_sq (sq_same sx sr) (get_map hbw') ⟨_, rfl, ix_sq (sq_same sx (srow _ bw rw_ hbw' hrw)) (get_map he1) ⟨some (nv x), ?_, rfl⟩⟩⟩
          rw [ew]
          rfl
        · subst eσ
          subst e
          rw [List.length_map, List.take_length]
          have el : nv (Mon.walk rows s0 wi) = nv (li.getD c 0) := by
            have z := left_walk FO hm (Nat.le_refl m.length) i li wi (by rw [List.take_length]; exact hli) (by rw [List.take_length]; exact hwi)
            rw [z, Mon.getD_of hrow0]
            have : (row0.map fun s => Mon.walk rows s wi)[c]? = some (Mon.walk rows s0 wi) := by rw [List.getElem?_map, hs0]; rfl
            rw [Mon.getD_of this]
          refine ⟨_, rfl, .inl ⟨rfl, _, SqL.of hEx⟩, _, rfl, E0', _, _, rfl, rfl, hEx, by rw [List.length_map, List.length_take]; show min i _ < 16777216; omega, ?_⟩
          refine ⟨_, _, _, rfl, bx.trans But.upd, ?_⟩
          rw [upd_same, take_snoc hli, List.map_append, el]
          rfl
      · subst eσ
        rw [← lL, List.take_length] at hEx
        have hDx := bx _ _ nED.symm hDc
        refine ⟨_, rfl, .inl ⟨rfl, _, SqL.of hDx⟩, _, rfl, D, _, _, rfl, rfl, hDx, by rw [List.length_map, les]; show c < 16777216; omega, ?_⟩
        have nbk : ∀ {b : Addr} {o : HO}, Hc b = some o → b ≠ E0' := fun {b o} e => ne_of_none e nE
        refine ⟨_, _, _, _, _, _, _, rfl, fun b o e => ?_, by rw [upd_ne nDd.symm]; exact bx _ _ nEd.symm hdc, ⟨wlc.1, fun k' a w' h1 h2 => ?_⟩, es ++ [E0'], by rw [upd_same, List.map_append]; rfl, by rw [List.length_append, les]; rfl, fun c' a h => ?_⟩
        · rw [upd_ne (ne_of_none e nDH)]
          exact bx b o (ne_of_none e nEH) (sc b o e)
        · have z := wlc.2 k' a w' h1 h2
          rw [upd_ne (nps a (List.mem_of_getElem? h1)).2]
          exact bx _ _ (nbk z) z
        · by_cases hc' : c' < es.length
          · rw [List.getElem?_append_left hc'] at h
            obtain ⟨x1, x2⟩ := pes c' a h
            exact ⟨x1, by rw [upd_ne x1]; exact bx _ _ (nbk x2) x2⟩
          · have := get_lt h
            rw [List.length_append, List.length_singleton] at this
            have e : c' = es.length := by omega
            subst e
            rw [List.getElem?_append_right (Nat.le_refl _), Nat.sub_self] at h
            cases h
            rw [les]
            exact ⟨nED, by rw [upd_ne nED]; exact hEx⟩
    · subst eσ
      exact ⟨_, rfl, k D es Hc sc hDc (by rw [les]; exact fr0.1) fun c a h => (pes c a h).2⟩
end
end K12

set_option Elab.async false
set_option linter.all false
set_option maxRecDepth 100000
set_option maxHeartbeats 8000000
namespace K12
open PySem PySem.Spec PyProof.Rows L2 Lf
abbrev NPd : List Str := ["_law_right_here", "_law_lefts_here", "_law_number", "_law_row", "_law_ends", "_law_letter", "_law_other"]
def spPd (K : PySem.W.Frag) : Sp := fun vs H Q _ => ∃ r rows wd m, vs = [.ref r] ∧ RowsA K H r rows ∧ Form rows wd ∧ Mon.madeTab 0 rows [] = some m ∧ ((∀ i, gRow rows (Mon.leftTab rows m) i) → ∀ H', Same H H' → Q .non H') ∧
  ∀ i, i < rows.length → (∀ j, j < i → gRow rows (Mon.leftTab rows m) j) → ¬ gRow rows (Mon.leftTab rows m) i → ∀ H', Same H H' → Q (.int ((i : Nat) : Int)) H'
/-- the product at row i, letter a in front, letter c behind -/
def one (rows L : List (List Nat)) (i a c : Nat) : Prop := (L.getD ((rows.getD i []).getD c 0) []).getD a 0 = (rows.getD ((L.getD i []).getD a 0) []).getD c 0
theorem row_of {rows : List (List Nat)} {wd i : Nat} {m : List (Nat × Nat)} (F : Form rows wd) (hm : Mon.madeTab 0 rows [] = some m) (hi : i < rows.length) : gRow rows (Mon.leftTab rows m) i ↔ ∀ a c, a < wd → c < wd → one rows (Mon.leftTab rows m) i a c := by
  have A : Acc0 rows wd m := ⟨F, hm, made_len F hm⟩
  have lL : (Mon.leftTab rows m).length = rows.length := by rw [Mon.left_len, A.len]
  have left' : ∀ (k : Nat) l, (Mon.leftTab rows m)[k]? = some l → l.length = wd ∧ ∀ x ∈ l, x < rows.length := fun k l h => A.left m.length l (by rw [List.take_length]; exact List.mem_of_getElem? h)
  obtain ⟨row, hrow⟩ := lt_get hi
  have fr := F.2.2.2.2 row (List.mem_of_getElem? hrow)
  obtain ⟨li, hli⟩ := lt_get (show i < (Mon.leftTab rows m).length by omega)
  have ll := left' i li hli
  constructor
  · intro g a c ha hc
    obtain ⟨t, ht⟩ := lt_get (show c < row.length by omega)
    obtain ⟨lt, hlt⟩ := lt_get (show t < (Mon.leftTab rows m).length by rw [lL]; exact fr.2 t (List.mem_of_getElem? ht))
    have e := g c row t li lt hrow ht hli hlt
    obtain ⟨x, hx⟩ := lt_get (show a < li.length by omega)
    unfold one
    rw [Mon.getD_of hrow, Mon.getD_of ht, Mon.getD_of hlt, Mon.getD_of hli, Mon.getD_of hx, e]
    have : (li.map fun x => (rows.getD x []).getD c 0)[a]? = some ((rows.getD x []).getD c 0) := by rw [List.getElem?_map, hx]; rfl
    rw [Mon.getD_of this]
  · intro h c row' t li' lt h1 h2 h3 h4
    rw [hrow] at h1
    cases h1
    rw [hli] at h3
    cases h3
    have tl := left' t lt h4
    refine List.ext_getElem? fun a => ?_
    by_cases ha : a < wd
    · obtain ⟨x, hx⟩ := lt_get (show a < li.length by omega)
      obtain ⟨y, hy⟩ := lt_get (show a < lt.length by omega)
      have e := h a c ha (by have := get_lt h2; omega)
      unfold one at e
      rw [Mon.getD_of hrow, Mon.getD_of h2, Mon.getD_of h4, Mon.getD_of hli, Mon.getD_of hx, Mon.getD_of hy] at e
      rw [hy, List.getElem?_map, hx, e]
      rfl
    · rw [List.getElem?_eq_none (by omega), List.getElem?_eq_none (by rw [List.length_map]; omega)]
section
variable {P : Program} {w : World} {K : PySem.W.Frag} {mg : Str → Option Value} {base : Heap}
theorem scPd : FnScope NPd ["_law_right_here"] (defScope s_L_product_due) := ⟨rfl, rfl, rfl, by decide +kernel, rfl, by decide +kernel, by decide +kernel⟩
theorem ok_pd {f : Addr} {fd : FuncData} {q : Str} (F : FunD K "_law_product_due" q (defArgs s_L_product_due) (defBody s_L_product_due) (defScope s_L_product_due) [] [] f fd) (T : Txt P w K mg base)
    (DL : Def P w K mg base CX0 1 "_law_lefts" ["_law_right_here"] (spLefts K)) : FnOk P w K mg base CX0 2 f fd ["_law_right_here"] (spPd K) := by
  have zE : mg "enumerate" = none := T.fr 35 "enumerate" rfl
  refine F.ok scPd (fun vs H Q E h => ?_) (fun cdv A outer s H vs Q E hr h => ?_)
  · obtain ⟨r, rows, wd, m, rfl, _⟩ := h
    rfl
  · obtain ⟨r, rows, wd, m, rfl, R, FO, hm, good, bad⟩ := h
    refine ⟨_, PSs.nox (pss_cons (ps_set (i := 1) scPd.nd rfl (.inl rfl) (pe_def DL hr pass0 rfl (pa_cons (pv 0) pa_nil)))
      (pss_cons (ps_for PassesOwn.never rfl (pi_enumA rfl zE (pv 0)) (pg_tup rfl (pgs_cons (pg_name (i := 2) scPd.nd rfl (.inl rfl)) (pgs_cons (pg_name (i := 3) scPd.nd rfl (.inl rfl)) pgs_nil)))
        (pss_one (ps_for PassesOwn.never rfl (pi_list (pv 1)) (pg_name (i := 4) scPd.nd rfl (.inl rfl))
          (pss_one (ps_for PassesOwn.never rfl (pi_enumA rfl zE (pv 3)) (pg_tup rfl (pgs_cons (pg_name (i := 5) scPd.nd rfl (.inl rfl)) (pgs_cons (pg_name (i := 6) scPd.nd rfl (.inl rfl)) pgs_nil)))
            (pss_one (ps_if (pt_cmpR op_ne (pe_ix ix_list (pv 4) (pv 6) (fun _ _ => rfl)) (pe_ix ix_seq (pe_ix ix_seq (pv 0) (pe_ix ix_list (pv 4) (pv 2) (fun _ _ => rfl)) (fun _ _ => rfl)) (pv 5) (fun _ _ => rfl)) (nomark _)) (pss_one (ps_ret (pv 2))) pss_nil)))))))
      (pss_one (ps_ret pe_non)))), ?_⟩
    obtain ⟨as, sr, la, srow⟩ := R.ex
    obtain ⟨f1, f2, w1, w6, frow⟩ := id FO
    have ln : (as.map V.ref).length = rows.length := by rw [List.length_map, la]
    have A0 : Acc0 rows wd m := ⟨FO, hm, made_len FO hm⟩
    have lL : (Mon.leftTab rows m).length = rows.length := by rw [Mon.left_len, A0.len]
    have left' : ∀ (k : Nat) l, (Mon.leftTab rows m)[k]? = some l → l.length = wd ∧ ∀ x ∈ l, x < rows.length := fun k l h => A0.left m.length l (by rw [List.take_length]; exact List.mem_of_getElem? h)
    refine ⟨_, rfl, r, rows, wd, m, rfl, R, FO, hm, fun p es H1 s1 hp le pe => ?_⟩
    refine ⟨_, rfl, r, as.map V.ref, rfl, for_enum (H0 := H) sr (fun i σ H2 => ∃ v2 v3 v4 v5 v6 : Option V, σ = [some (.ref r), some (.ref p), v2, v3, v4, v5, v6] ∧ Same H1 H2 ∧ ∀ j, j < i → gRow rows (Mon.leftTab rows m) j) ⟨none, none, none, none, none, rfl, L2.Same.refl _, fun j hj => absurd hj (Nat.not_lt_zero _)⟩ (fun i σ H2 _ ⟨_, _, _, _, _, _, s, _⟩ => s1.trans s) ?_ ?_⟩
    · rintro i y σ H2 ⟨v2, v3, v4, v5, v6, rfl, s2, pre⟩ hy T' nT
      obtain ⟨a, ha, rfl⟩ := map_get hy
      have hi2 : i < rows.length := by have := get_lt ha; omega
      obtain ⟨row, hrow⟩ := lt_get hi2
      have sa := srow i a row ha hrow
      obtain ⟨wr, en⟩ := frow row (List.mem_of_getElem? hrow)
      have gi := row_of FO hm hi2
      obtain ⟨li, hli⟩ := lt_get (show i < (Mon.leftTab rows m).length by omega)
      have ll := left' i li hli
      refine ⟨T', _, rfl, SqT.of upd_same, rfl, _, _, rfl, _, _, rfl, rfl, ?_⟩
      have s3 := s2.trans (same_upd (o := .tup [.int (i : Nat), .ref a]) nT)
      generalize L2.upd H2 T' (.tup [.int (i : Nat), .ref a]) = H3 at s3 ⊢
      refine ⟨_, rfl, p, rfl, ⟨_, SqL.of (s3 _ _ hp)⟩, for_list (K := K) (a := p) (xs := es.map V.ref) (fun b σ H4 => ∃ v4 v5 v6 : Option V, σ = [some (.ref r), some (.ref p), some (nv i), some (.ref a), v4, v5, v6] ∧ Same H1 H4 ∧ ∀ b' c, b' < b → c < wd → one rows (Mon.leftTab rows m) i b' c) ⟨_, _, _, rfl, s3, fun b' c hb _ => absurd hb (Nat.not_lt_zero _)⟩ (fun b σ H4 _ ⟨_, _, _, _, s, _⟩ => SqL.of (s _ _ hp)) ?_ ?_⟩
      · rintro b x σ H4 hx ⟨v4, v5, v6, rfl, s4, preb⟩
        obtain ⟨ea, hea, rfl⟩ := map_get hx
        have bw : b < wd := by have := get_lt hea; omega
        have hends := pe b ea hea
        obtain ⟨x1, hx1⟩ := lt_get (show b < li.length by omega)
        refine ⟨_, rfl, a, row.map nv, rfl, for_enum (H0 := H) sa (fun c σ H5 => ∃ v5 v6 : Option V, σ = [some (.ref r), some (.ref p), some (nv i), some (.ref a), some (.ref ea), v5, v6] ∧ Same H1 H5 ∧ ∀ c', c' < c → one rows (Mon.leftTab rows m) i b c') ⟨_, _, rfl, s4, fun c' hc => absurd hc (Nat.not_lt_zero _)⟩ (fun c σ H5 _ ⟨_, _, _, s, _⟩ => s1.trans s) ?_ ?_⟩
        · rintro c z σ H5 ⟨v5, v6, rfl, s5, prec⟩ hz T2 nT2
          obtain ⟨t, ht, rfl⟩ := map_get hz
          have cl := get_lt ht
          obtain ⟨lt, hlt⟩ := lt_get (show t < (Mon.leftTab rows m).length by rw [lL]; exact en t (List.mem_of_getElem? ht))
          have ltl := left' t lt hlt
          obtain ⟨y1, hy1⟩ := lt_get (show b < lt.length by omega)
          refine ⟨T2, _, rfl, SqT.of upd_same, rfl, _, _, rfl, _, _, rfl, rfl, ?_⟩
          have s6 := s5.trans (same_upd (o := .tup [.int (c : Nat), nv t]) nT2)
          generalize L2.upd H5 T2 (.tup [.int (c : Nat), nv t]) = H6 at s6 ⊢
          have h6 := s6 _ _ hends
          have x1l : x1 < rows.length := ll.2 x1 (List.mem_of_getElem? hx1)
          obtain ⟨ax, hax⟩ := lt_get (show x1 < as.length by omega)
          obtain ⟨rx, hrx⟩ := lt_get x1l
          obtain ⟨e1, he1⟩ := lt_get (show c < rx.length by rw [(frow rx (List.mem_of_getElem? hrx)).1]; omega)
          have g1 : ((Mon.leftTab rows m).map fun l => nv (l.getD b 0))[t]? = some (nv y1) := by rw [List.getElem?_map, hlt]; show some (nv (lt.getD b 0)) = _; rw [Mon.getD_of hy1]
          have g2 : ((Mon.leftTab rows m).map fun l => nv (l.getD b 0))[i]? = some (nv x1) := by rw [List.getElem?_map, hli]; show some (nv (li.getD b 0)) = _; rw [Mon.getD_of hx1]
          have eo : one rows (Mon.leftTab rows m) i b c ↔ y1 = e1 := by
            unfold one
            rw [Mon.getD_of hrow, Mon.getD_of ht, Mon.getD_of hlt, Mon.getD_of hli, Mon.getD_of hx1, Mon.getD_of hy1, Mon.getD_of hrx, Mon.getD_of he1]
          have s06 := s1.trans s6
          refine ⟨_, rfl, _, rfl, ea, _, _, nv y1, rfl, rfl, SqL.of h6, atI_nat g1, ?_⟩
          refine ⟨_, rfl, _, rfl, _, rfl, ea, _, _, nv x1, rfl, rfl, SqL.of h6, atI_nat g2, ix_sq (sq_same s06 sr) (get_map hax) ⟨_, rfl, ix_sq (sq_same s06 (srow x1 ax rx hax hrx)) (get_map he1) ⟨rfl, _, rfl, ?_⟩⟩⟩
          by_cases hz' : y1 = e1
          · refine ifF (by simp [hz', eqV]) ⟨_, _, rfl, s6, fun c' hc' => ?_⟩
            by_cases q1 : c' < c
            · exact prec c' q1
            · rw [show c' = c by omega]
              exact eo.mpr hz'
          · refine ifT (by simp; omega) ⟨_, rfl, ?_⟩
            exact bad i hi2 pre (fun g => hz' (eo.mp (gi.mp g b c bw (by omega)))) _ s06
        · rintro σ H5 ⟨v5, v6, rfl, s5, all⟩
          refine ⟨_, _, _, rfl, s5, fun b' c hb hc => ?_⟩
          by_cases q1 : b' < b
          · exact preb b' c q1 hc
          · rw [show b' = b by omega]
            exact all c (by rw [List.length_map]; omega)
      · rintro σ H4 ⟨v4, v5, v6, rfl, s4, all⟩
        rw [List.length_map, le] at all
        refine ⟨_, _, _, _, _, rfl, s4, fun j hj => ?_⟩
        by_cases q1 : j < i
        · exact pre j q1
        · rw [show j = i by omega]
          exact gi.mpr fun b c hb hc => all b c hb hc
    · rintro σ H2 ⟨v2, v3, v4, v5, v6, rfl, s2, all⟩
      refine good (fun i => ?_) _ (s1.trans s2)
      by_cases hi : i < rows.length
      · exact all i (by rw [ln]; exact hi)
      · intro c row t li lt g1
        rw [List.getElem?_eq_none (by omega)] at g1
        cases g1
end
end K12

set_option Elab.async false
set_option linter.all false
set_option maxRecDepth 100000
set_option maxHeartbeats 8000000
namespace K12
open PySem PySem.Spec PyProof.Rows L2 Lf
section
variable {rows : List (List Nat)} {wd : Nat} {m : List (Nat × Nat)}
def wd_ (m : List (Nat × Nat)) (k : Nat) : List Nat := (Mon.wordTab m).getD k []
theorem wrd_ok (F : Form rows wd) (hm : Mon.madeTab 0 rows [] = some m) : ∀ k, k < rows.length → Mon.walk rows 0 (wd_ m k) = k ∧ ∀ c ∈ wd_ m k, c < wd := by
  intro k
  induction k using Nat.strongRecOn with
  | _ k ih =>
    intro hk
    cases k with
    | zero =>
      have : wd_ m 0 = [] := by
        unfold wd_ Mon.wordTab
        suffices h : ∀ (l : List (Nat × Nat)) (L : List (List Nat)), L.getD 0 [] = [] → L ≠ [] → (l.foldl Mon.wordStep L).getD 0 [] = [] from h m [[]] rfl (by simp)
        intro l
        induction l with
        | nil => intro L h _; exact h
        | cons p r ih2 =>
          intro L h ne
          rw [List.foldl_cons]
          refine ih2 _ ?_ (by unfold Mon.wordStep; simp)
          unfold Mon.wordStep
          cases L with
          | nil => exact absurd rfl ne
          | cons x L => exact h
      rw [this]
      exact ⟨rfl, fun c h => by cases h⟩
    | succ k =>
      have lm := made_len F hm
      obtain ⟨p, hp⟩ := lt_get (show k < m.length by omega)
      obtain ⟨a1, row, a2, a3⟩ := Mon.madeTab_lt hm hp
      have e := Mon.word_at (fun k p h => (Mon.madeTab_lt hm h).1) hp
      obtain ⟨i1, i2⟩ := ih p.1 (by omega) (by omega)
      have fr := F.2.2.2.2 row (List.mem_of_getElem? a2)
      refine ⟨?_, fun c hc => ?_⟩
      · show Mon.walk rows 0 ((Mon.wordTab m).getD (k + 1) []) = k + 1
        rw [e, Mon.walk_app]
        show (rows.getD (Mon.walk rows 0 (wd_ m p.1)) []).getD p.2 0 = k + 1
        rw [i1, Mon.getD_of a2, Mon.getD_of a3]
      · have hc : c ∈ (Mon.wordTab m).getD (k + 1) [] := hc
        rw [e] at hc
        rcases List.mem_append.mp hc with h | h
        · exact i2 c h
        · rw [List.mem_singleton.mp h]
          have := get_lt a3
          omega
/-- letter a in front -/
def lam (rows L : List (List Nat)) (a i : Nat) : Nat := (L.getD i []).getD a 0
theorem lam_eq (F : Form rows wd) (hm : Mon.madeTab 0 rows [] = some m) {a i : Nat} (ha : a < wd) (hi : i < rows.length) : lam rows (Mon.leftTab rows m) a i = Mon.walk rows ((rows.getD 0 []).getD a 0) (wd_ m i) := by
  have lm := made_len F hm
  obtain ⟨l, hl⟩ := lt_get (show i < (Mon.leftTab rows m).length by rw [Mon.left_len]; omega)
  obtain ⟨w, hw⟩ := lt_get (show i < (Mon.wordTab m).length by rw [Mon.word_len]; omega)
  have e := left_walk F hm (Nat.le_refl m.length) i l w (by rw [List.take_length]; exact hl) (by rw [List.take_length]; exact hw)
  obtain ⟨row0, h0⟩ := lt_get (show 0 < rows.length by omega)
  obtain ⟨s, hs⟩ := lt_get (show a < row0.length by rw [(F.2.2.2.2 row0 (List.mem_of_getElem? h0)).1]; exact ha)
  unfold lam wd_
  rw [Mon.getD_of hl, Mon.getD_of hw, e, Mon.getD_of h0, Mon.getD_of hs]
  have : (row0.map fun s => Mon.walk rows s w)[a]? = some (Mon.walk rows s w) := by rw [List.getElem?_map, hs]; rfl
  rw [Mon.getD_of this]
theorem lam_lt (F : Form rows wd) (hm : Mon.madeTab 0 rows [] = some m) {a i : Nat} (ha : a < wd) (hi : i < rows.length) : lam rows (Mon.leftTab rows m) a i < rows.length := by
  rw [lam_eq F hm ha hi]
  obtain ⟨row0, h0⟩ := lt_get (show 0 < rows.length by omega)
  have fr := F.2.2.2.2 row0 (List.mem_of_getElem? h0)
  obtain ⟨s, hs⟩ := lt_get (show a < row0.length by rw [fr.1]; exact ha)
  rw [Mon.getD_of h0, Mon.getD_of hs]
  exact walk_lt F (fr.2 s (List.mem_of_getElem? hs)) (wrd_ok F hm i hi).2
/-- where products go together, letters in front go past words -/
theorem lam_walk (F : Form rows wd) (hm : Mon.madeTab 0 rows [] = some m) (g : ∀ i, gRow rows (Mon.leftTab rows m) i) {a : Nat} (ha : a < wd) : ∀ {w : List Nat} {i : Nat}, i < rows.length → (∀ c ∈ w, c < wd) → lam rows (Mon.leftTab rows m) a (Mon.walk rows i w) = Mon.walk rows (lam rows (Mon.leftTab rows m) a i) w
  | [], _, _, _ => rfl
  | c :: w, i, hi, hw => by
    have hc := hw c List.mem_cons_self
    have o := (row_of F hm hi).mp (g i) a c ha hc
    obtain ⟨row, hr⟩ := lt_get hi
    have fr := F.2.2.2.2 row (List.mem_of_getElem? hr)
    obtain ⟨t, ht⟩ := lt_get (show c < row.length by rw [fr.1]; exact hc)
    have tl : (rows.getD i []).getD c 0 < rows.length := by rw [Mon.getD_of hr, Mon.getD_of ht]; exact fr.2 t (List.mem_of_getElem? ht)
    show lam rows _ a (Mon.walk rows ((rows.getD i []).getD c 0) w) = Mon.walk rows ((rows.getD (lam rows _ a i) []).getD c 0) w
    rw [lam_walk F hm g ha tl fun x hx => hw x (List.mem_cons_of_mem _ hx)]
    congr 1
/-- a word in front of where a word leads -/
theorem walk_pre (F : Form rows wd) (hm : Mon.madeTab 0 rows [] = some m) (g : ∀ i, gRow rows (Mon.leftTab rows m) i) {w : List Nat} (hw : ∀ c ∈ w, c < wd) : ∀ {u : List Nat}, (∀ c ∈ u, c < wd) → Mon.walk rows (Mon.walk rows 0 u) w = u.foldr (lam rows (Mon.leftTab rows m)) (Mon.walk rows 0 w)
  | [], _ => rfl
  | a :: u, hu => by
    have ha := hu a List.mem_cons_self
    have hu' : ∀ c ∈ u, c < wd := fun c h => hu c (List.mem_cons_of_mem _ h)
    have p0 : 0 < rows.length := by have := F.1; omega
    have l0 : lam rows (Mon.leftTab rows m) a 0 = (rows.getD 0 []).getD a 0 := by
      rw [lam_eq F hm ha p0]
      have z := (wrd_ok F hm 0 p0)
      have : wd_ m 0 = [] := by
        unfold wd_ Mon.wordTab
        suffices h : ∀ (l : List (Nat × Nat)) (L : List (List Nat)), L.getD 0 [] = [] → L ≠ [] → (l.foldl Mon.wordStep L).getD 0 [] = [] from h m [[]] rfl (by simp)
        intro l
        induction l with
        | nil => intro L h _; exact h
        | cons p r ih2 =>
          intro L h ne
          rw [List.foldl_cons]
          refine ih2 _ ?_ (by unfold Mon.wordStep; simp)
          unfold Mon.wordStep
          cases L with
          | nil => exact absurd rfl ne
          | cons x L => exact h
      rw [this]
      rfl
    rw [List.foldr_cons, ← walk_pre F hm g hw hu', lam_walk F hm g ha (walk_lt F p0 hu') hw, lam_walk F hm g ha p0 hu', l0]
    rfl
/-- one times other -/
def mt (rows : List (List Nat)) (m : List (Nat × Nat)) (i j : Nat) : Nat := Mon.walk rows i (wd_ m j)
/-- products that go together are those of a monoid -/
theorem assoc_of (F : Form rows wd) (hm : Mon.madeTab 0 rows [] = some m) (g : ∀ i, gRow rows (Mon.leftTab rows m) i) : (∀ x y z, x < rows.length → y < rows.length → z < rows.length → mt rows m (mt rows m x y) z = mt rows m x (mt rows m y z)) ∧
    ∀ i c, i < rows.length → c < wd → (rows.getD i []).getD c 0 = mt rows m i ((rows.getD 0 []).getD c 0) := by
  have p0 : 0 < rows.length := by have := F.1; omega
  have key : ∀ {x : Nat} {u v : List Nat}, x < rows.length → (∀ c ∈ u, c < wd) → (∀ c ∈ v, c < wd) → Mon.walk rows 0 u = Mon.walk rows 0 v → Mon.walk rows x u = Mon.walk rows x v := fun {x u v} hx hu hv e => by
    obtain ⟨e1, l1⟩ := wrd_ok F hm x hx
    rw [← e1, walk_pre F hm g hu l1, walk_pre F hm g hv l1, e]
  refine ⟨fun x y z hx hy hz => ?_, fun i c hi hc => ?_⟩
  · obtain ⟨ey, ly⟩ := wrd_ok F hm y hy
    obtain ⟨ez, lz⟩ := wrd_ok F hm z hz
    have hu : mt rows m y z < rows.length := walk_lt F hy lz
    obtain ⟨eu, lu⟩ := wrd_ok F hm _ hu
    show Mon.walk rows (Mon.walk rows x (wd_ m y)) (wd_ m z) = Mon.walk rows x (wd_ m (mt rows m y z))
    rw [← Mon.walk_app]
    refine key hx (fun c h => ?_) lu ?_
    · rcases List.mem_append.mp h with q | q
      · exact ly c q
      · exact lz c q
    · rw [Mon.walk_app, ey, eu]
      rfl
  · obtain ⟨row0, h0⟩ := lt_get p0
    have fr := F.2.2.2.2 row0 (List.mem_of_getElem? h0)
    obtain ⟨s, hs⟩ := lt_get (show c < row0.length by rw [fr.1]; exact hc)
    have sl := fr.2 s (List.mem_of_getElem? hs)
    rw [Mon.getD_of h0, Mon.getD_of hs]
    obtain ⟨es, ls⟩ := wrd_ok F hm s sl
    show Mon.walk rows i [c] = Mon.walk rows i (wd_ m s)
    refine key hi (fun x h => by rw [List.mem_singleton.mp h]; exact hc) ls ?_
    rw [es]
    show (rows.getD 0 []).getD c 0 = s
    rw [Mon.getD_of h0, Mon.getD_of hs]
theorem of_assoc (F : Form rows wd) (hm : Mon.madeTab 0 rows [] = some m) (as_ : ∀ x y z, x < rows.length → y < rows.length → z < rows.length → mt rows m (mt rows m x y) z = mt rows m x (mt rows m y z)) (ge : ∀ i c, i < rows.length → c < wd → (rows.getD i []).getD c 0 = mt rows m i ((rows.getD 0 []).getD c 0)) : ∀ i, gRow rows (Mon.leftTab rows m) i := by
  intro i
  by_cases hi : i < rows.length
  case neg => intro c row t li lt g1; rw [List.getElem?_eq_none (by omega)] at g1; cases g1
  refine (row_of F hm hi).mpr fun a c ha hc => ?_
  obtain ⟨row0, h0⟩ := lt_get (show 0 < rows.length by omega)
  have fr := F.2.2.2.2 row0 (List.mem_of_getElem? h0)
  have ent : ∀ {j x : Nat}, j < rows.length → x < wd → (rows.getD j []).getD x 0 < rows.length := fun {j x} hj hx => by
    obtain ⟨row, hr⟩ := lt_get hj
    have f2 := F.2.2.2.2 row (List.mem_of_getElem? hr)
    obtain ⟨t, ht⟩ := lt_get (show x < row.length by rw [f2.1]; exact hx)
    rw [Mon.getD_of hr, Mon.getD_of ht]
    exact f2.2 t (List.mem_of_getElem? ht)
  have p0 : 0 < rows.length := by omega
  have e1 : lam rows (Mon.leftTab rows m) a ((rows.getD i []).getD c 0) = mt rows m ((rows.getD 0 []).getD a 0) ((rows.getD i []).getD c 0) := lam_eq F hm ha (ent hi hc)
  have e2 : lam rows (Mon.leftTab rows m) a i = mt rows m ((rows.getD 0 []).getD a 0) i := lam_eq F hm ha hi
  show lam rows _ a ((rows.getD i []).getD c 0) = (rows.getD (lam rows _ a i) []).getD c 0
  have l2 := lam_lt F hm ha hi
  rw [e1, ge i c hi hc, ← as_ _ _ _ (ent p0 ha) hi (ent p0 hc), ← e2, ← ge _ c l2 hc]
end
end K12

set_option Elab.async false
set_option linter.all false
set_option maxRecDepth 100000
set_option maxHeartbeats 8000000
namespace K12
open PySem PySem.Spec PyProof.Rows L2 Lf
abbrev NAs : List Str := ["_law_right_here", "_law_many", "_law_paths", "_law_number", "_law_row", "_law_letter", "_law_other", "_law_table_here", "_law_one", "_law_here", "_law_both", "_law_last"]
def spAs (K : PySem.W.Frag) : Sp := fun vs H Q _ => ∃ r rows wd m, vs = [.ref r] ∧ RowsL K H r rows ∧ Form rows wd ∧ rows.length < 40 ∧ Mon.madeTab 0 rows [] = some m ∧ ((∀ i, gRow rows (Mon.leftTab rows m) i) → ∀ H', Same H H' → Q (.bl true) H') ∧ ((¬ ∀ i, gRow rows (Mon.leftTab rows m) i) → ∀ H', Same H H' → Q (.bl false) H')
abbrev teLa (K : PySem.W.Frag) : TE := tOp (rIxL K) (tOp (rIxL K) (tVar 7) (tVar 8)) (tVar 11)
abbrev teIn (K : PySem.W.Frag) : TE := tOp (rIxL K) (tOp (rIxL K) (tVar 7) (tVar 3)) (tVar 8)
abbrev rListO (K : PySem.W.Frag) : List V → Hp → VK → Prop := fun xs H Q => ∃ p ys, xs = [V.ref p] ∧ (SqL K H p ys ∨ SqT K H p ys) ∧ ∀ l, H l = none → Q (.ref l) (upd H l (.lst ys))
abbrev teLs (K : PySem.W.Frag) : TE := tCB (rListO K) (tCons (tVar 4) tNil)
abbrev ttAs (K : PySem.W.Frag) : TT := tTest (tOp (rNeD K) (teLs K) (tLc (iList K (tOp (rIxL K) (tVar 0) (tC (.int 0)))) (gName 8) tYes (teIn K) [8]))
def scMidAs : Scope := { kind := .function, names := [(".0", .local), ("_law_number", .cell), ("_law_row", .local), ("list", .globalImplicit), ("_law_right_here", .cell), ("_law_table_here", .cell)], isGenerator := false, isCoroutine := false }
def dL (x : List Nat) : PyData := .list (x.map dN)
theorem dL_eqv (x y : List Nat) : PyData.eqv (dL x) (dL y) = decide (x = y) := by
  rw [← dI_eqv]
  unfold dL dI
  rw [PyData.eqv, PyData.eqv]
theorem dL_sh (x : List Nat) : SeqAt.shaped (dL x) = true := ints_sh x
theorem lrows_sh (l : List (List Nat)) : SeqAt.shaped (.list (l.map dL)) = true := sh_lay (lst_lay (k := 1) fun d hd => by
  obtain ⟨i, _, rfl⟩ := List.mem_map.mp hd
  exact lst_lay (k := 0) fun e he => by
    obtain ⟨j, _, rfl⟩ := List.mem_map.mp he
    exact dN_lay j) (by decide)
theorem dpL {K : PySem.W.Frag} {H : Hp} {a : Addr} {x : List Nat} (h : SqL K H a (x.map nv)) : Dp K H (.ref a) (dL x) := .lst h dpN
theorem dpRL {K : PySem.W.Frag} {H : Hp} : ∀ {as : List Addr} {rows : List (List Nat)}, as.length = rows.length → (∀ (j : Nat) a x, as[j]? = some a → rows[j]? = some x → SqL K H a (x.map nv)) → DpAll K H (as.map V.ref) (rows.map dL)
  | [], [], _, _ => .nil
  | a :: as, x :: rows, l, h => .cons (dpL (h 0 a x rfl rfl)) (dpRL (by simpa using l) fun j b y h1 h2 => h (j + 1) b y h1 h2)
theorem eqv_nil (l : List (List Nat)) : PyData.eqv (.list (l.map dL)) (.list []) = decide (l = []) := by
  cases l with
  | nil => simp [PyData.eqv, PyData.eqvAll]
  | cons x l => simp [PyData.eqv, PyData.eqvAll]
/-- a row of the table of products -/
def mtL (rows : List (List Nat)) (m : List (Nat × Nat)) (i : Nat) : List Nat := (List.range rows.length).map (mt rows m i)
theorem mtL_get {rows : List (List Nat)} {m : List (Nat × Nat)} {i j : Nat} (h : j < rows.length) : ((mtL rows m i).map nv)[j]? = some (nv (mt rows m i j)) := by
  unfold mtL
  rw [List.getElem?_map, List.getElem?_map, List.getElem?_range h]
  rfl
theorem range_snoc (n : Nat) : List.range (n + 1) = List.range n ++ [n] := List.range_succ
section
variable {P : Program} {w : World} {K : PySem.W.Frag} {mg : Str → Option Value} {base : Heap}
theorem scAs : FnScope NAs ["_law_right_here"] (defScope s_L_is_associative) := ⟨rfl, rfl, rfl, by decide +kernel, rfl, by decide +kernel, by decide +kernel⟩
theorem ok_as {f : Addr} {fd : FuncData} {q : Str} (F : FunD K "_law_is_associative" q (defArgs s_L_is_associative) (defBody s_L_is_associative) (defScope s_L_is_associative) [] [] f fd) (T : Txt P w K mg base) :
    FnOk P w K mg base CX0 1 f fd ["_law_right_here"] (spAs K) := by
  have zE : mg "enumerate" = none := T.fr 35 "enumerate" rfl
  have zn : mg "len" = none := T.fr 38 "len" rfl
  have zl : mg "list" = none := T.fr 39 "list" rfl
  have zr : mg "range" = none := T.fr 40 "range" rfl
  refine F.ok scAs (fun vs H Q E h => ?_) (fun cdv A outer s H vs Q E hr h => ?_)
  · obtain ⟨r, rows, wd, m, rfl, _⟩ := h
    rfl
  · obtain ⟨r, rows, wd, m, rfl, R, FO, n40, hm, good, bad⟩ := h
    have hu0 : (A.deeper (envOfC q (defScope s_L_is_associative) s.heap.objs.size f cdv)).units + 64 < cLine := hr.units
    have hu : (A.deeper (envOfC q (defScope s_L_is_associative) s.heap.objs.size f cdv)).units + 1 < cLine := by omega
    refine ⟨_, PSs.nox (pss_cons (ps_par (i := 1) (j := 2) rfl scAs.nd rfl rfl (by decide) rfl rfl (pa_cons (pe_callB call_len_seq rfl zn boot_len (pa_cons (pv 0) pa_nil)) (pa_cons (pe_disp (pps_cons pe_int (pe_lst pa_nil) pps_nil) (by rfl) (by rfl) (fun z => by cases z) (by decide)) pa_nil)) (by rfl))
      (pss_cons (ps_for PassesOwn.never rfl (pi_enumA rfl zE (pv 0)) (pg_tup rfl (pgs_cons (pg_name (i := 3) scAs.nd rfl (.inl rfl)) (pgs_cons (pg_name (i := 4) scAs.nd rfl (.inl rfl)) pgs_nil)))
        (pss_one (ps_for PassesOwn.never rfl (pi_enumA rfl zE (pv 4)) (pg_tup rfl (pgs_cons (pg_name (i := 5) scAs.nd rfl (.inl rfl)) (pgs_cons (pg_name (i := 6) scAs.nd rfl (.inl rfl)) pgs_nil)))
          (pss_one (ps_if (pt_cmp (pc_dnotin hu (pv 6) (pv 2)) (by rfl))
            (pss_one (ps_dput hu (pv 2) (pv 6) (pe_op op_catL (pe_dget hu (pv 2) (pv 3) (fun _ _ => rfl)) (pe_lst (pa_cons (pv 5) pa_nil))) rfl)) pss_nil)))))
      (pss_cons (ps_set (i := 7) scAs.nd rfl (.inr rfl) (pe_lst pa_nil))
      (pss_cons (ps_for PassesOwn.never rfl (pi_range1 rfl zr (pa_cons (pv 1) pa_nil)) (pg_name (i := 8) scAs.nd rfl (.inr rfl))
        (pss_cons (ps_set (i := 4) scAs.nd rfl (.inl rfl) (pe_lst pa_nil))
        (pss_cons (ps_for PassesOwn.never rfl (pi_range1 rfl zr (pa_cons (pv 1) pa_nil)) (pg_name (i := 6) scAs.nd rfl (.inl rfl))
          (pss_cons (ps_set (i := 9) scAs.nd rfl (.inl rfl) (pv 8))
          (pss_cons (ps_for PassesOwn.never rfl (pi_list (pe_dget hu (pv 2) (pv 6) (fun _ _ => rfl))) (pg_name (i := 5) scAs.nd rfl (.inl rfl))
            (pss_one (ps_set (i := 9) scAs.nd rfl (.inl rfl) (pe_ix ix_list (pe_ix ix_list (pv 0) (pv 9) (fun _ _ => rfl)) (pv 5) (fun _ _ => rfl)))))
          (pss_one (ps_expr (pe_bm PySem.F.plainAttrs_list PySem.F.slot_list_append PySem.F.type_list_append mt_append (pv 4) (pa_cons (pv 9) pa_nil)))))))
        (pss_one (ps_expr (pe_bm PySem.F.plainAttrs_list PySem.F.slot_list_append PySem.F.type_list_append mt_append (pv 7) (pa_cons (pv 4) pa_nil)))))))
      (pss_cons (ps_for PassesOwn.never rfl (pi_range1 rfl zr (pa_cons (pv 1) pa_nil)) (pg_name (i := 8) scAs.nd rfl (.inr rfl))
        (pss_one (ps_for PassesOwn.never rfl (pi_range1 rfl zr (pa_cons (pv 1) pa_nil)) (pg_name (i := 6) scAs.nd rfl (.inl rfl))
          (pss_cons (ps_set (i := 10) scAs.nd rfl (.inl rfl) (pe_ix ix_list (pv 7) (pe_ix ix_list (pe_ix ix_list (pv 7) (pv 8) (fun _ _ => rfl)) (pv 6) (fun _ _ => rfl)) (fun _ _ => rfl)))
          (pss_one (ps_if (pt_cmpR (op_neD hu0) (pv 10) (pe_lc (own := [("_law_last", 11)]) (g := gName 11) (te := teLa K) (by rfl) scAs.nd (pi_list (pe_ix ix_list (pv 7) (pv 6) (fun _ _ => rfl))) (blkOk_by (own := [("_law_last", 11)]) (N := NAs) (sc := defScope s_L_is_associative) (by decide +kernel)) (fun _ _ _ _ _ => pg_name (i := 11) scAs.nd rfl (Or.inl rfl)) (fun _ _ _ _ _ => pts_nil)
            (fun _ _ _ _ _ => by exact pe_ix ix_list (pe_ix ix_list (pv 7) (pv 8) (fun _ _ => rfl)) (pv 11) (fun _ _ => rfl))) (nomark _)) (pss_one (ps_ret pe_bl)) pss_nil))))))
      (pss_one (ps_ret (pe_cmpR (op_eqD hu0) (pe_lc (own := [("_law_number", 3), ("_law_row", 4)]) (g := gTup K 2 (gCons (gName 3) (gCons (gName 4) gNil))) (tt := ttAs K) (te := tVar 4) (by rfl) scAs.nd (pi_enumA rfl zE (pv 0)) (blkOk_by (own := [("_law_number", 3), ("_law_row", 4)]) (N := NAs) (sc := defScope s_L_is_associative) (by decide +kernel))
          (fun _ _ _ _ _ => by exact pg_tup rfl (pgs_cons (pg_name (i := 3) scAs.nd rfl (Or.inr rfl)) (pgs_cons (pg_name (i := 4) scAs.nd rfl (Or.inl rfl)) pgs_nil)))
          (fun _ _ _ _ _ => by
            refine pts_one (pt_cmpR (op_neD hu0) (pe_callTy call_list_of rfl zl boot_list (pa_cons (pv 4) pa_nil)) ?_ (nomark _))
            refine pe_lc (own := [("_law_one", 8)]) (g := gName 8) (te := teIn K) (by rfl) scAs.nd (pi_list (pe_ix ix_list (pv 0) pe_int (fun _ _ => rfl))) (blkOk_by (own := [("_law_one", 8)]) (N := NAs) (sc := scMidAs) (by decide +kernel)) (fun _ _ _ _ _ => ?_) (fun _ _ _ _ _ => pts_nil) (fun _ _ _ _ _ => ?_)
            · exact pg_name (i := 8) scAs.nd rfl (Or.inl rfl)
            · exact pe_ix ix_list (pe_ix ix_list (pv 7) (pv 3) (fun _ _ => rfl)) (pv 8) (fun _ _ => rfl))
          (fun _ _ _ _ _ => pv 4)) (pe_lst pa_nil) (nomark _))))))))), ?_⟩
    obtain ⟨as, sr, la, srow⟩ := R.ex
    obtain ⟨f1, f2, w1, w6, frow⟩ := id FO
    have lm := made_len FO hm
    have ln : (as.map V.ref).length = rows.length := by rw [List.length_map, la]
    refine ⟨_, rfl, r, as.map V.ref, rfl, .inl sr, ?_⟩
    rw [ln]
    refine fun d nd => ⟨(by show 0 ≤ sizeLine; decide), fun a0 na0 => ⟨same_upd na0 _ _ upd_same, [(ik 0, .ref a0)], rfl, (by show 1 ≤ 15; decide), ?_⟩⟩
    have nda : a0 ≠ d := fun z => by rw [z, upd_same] at na0; cases na0
    have na0H : H a0 = none := by rw [upd_ne nda] at na0; exact na0
    have s1 : Same H (L2.upd (L2.upd (L2.upd H d (.dK [])) a0 (.lst [])) d (.dK (mergeK [] [(ik 0, V.ref a0)]))) := fun b o e => by
      rw [upd_ne (ne_of_none e nd), upd_ne (ne_of_none e na0H), upd_ne (ne_of_none e nd)]
      exact e
    have hd1 : L2.upd (L2.upd (L2.upd H d (.dK [])) a0 (.lst [])) d (.dK (mergeK [] [(ik 0, V.ref a0)])) d = some (.dK (rfF 0 [a0])) := upd_same
    have ha1 : L2.upd (L2.upd (L2.upd H d (.dK [])) a0 (.lst [])) d (.dK (mergeK [] [(ik 0, V.ref a0)])) a0 = some (.lst (([] : List Nat).map nv)) := by rw [upd_ne nda]; exact upd_same
    generalize L2.upd (L2.upd (L2.upd H d (.dK [])) a0 (.lst [])) d (.dK (mergeK [] [(ik 0, V.ref a0)])) = H1 at s1 hd1 ha1 ⊢
    refine ⟨_, _, rfl, ?_⟩
    have srowL := srow
    have srow : ∀ (i : Nat) a row, as[i]? = some a → rows[i]? = some row → SqL K H a (row.map nv) ∨ SqT K H a (row.map nv) := fun i a row h1 h2 => .inl (srow i a row h1 h2)
    refine ⟨_, rfl, r, as.map V.ref, rfl, for_enum (H0 := H) (.inl sr) (fun i σ Hn => ∃ v3 v4 v5 v6 : Option V, σ = [some (.ref r), some (nv rows.length), some (.ref d), v3, v4, v5, v6, none, none, none, none, none] ∧ Same H Hn ∧ ∃ (m' : List (Nat × Nat)) (ps : List Addr), Mon.madeTab 0 (rows.take i) [] = some m' ∧ Hn d = some (.dK (rfF 0 ps)) ∧ (∀ x ∈ ps, x ≠ d) ∧ WL Hn ps (Mon.wordTab m')) ⟨none, none, none, none, rfl, s1, [], [a0], by simp [Mon.madeTab], hd1, (fun x hx => by rw [List.mem_singleton.mp hx]; exact nda), rfl, fun k a w h1 h2 => by
        cases k with
        | zero => cases h1; cases h2; exact ha1
        | succ k => simp at h1⟩ (fun i σ Hn _ ⟨_, _, _, _, _, s, _⟩ => s) ?_ ?_⟩
    · rintro i y σ Hn ⟨v3, v4, v5, v6, rfl, sn, m', ps, hm', hdn, nps, wl⟩ hy T' nT
      obtain ⟨a, ha, rfl⟩ := map_get hy
      have hi2 : i < rows.length := by have := get_lt ha; omega
      obtain ⟨row, hrow⟩ := lt_get hi2
      have sa := srow i a row ha hrow
      obtain ⟨wr, en⟩ := frow row (List.mem_of_getElem? hrow)
      obtain ⟨m0, e0, i0, m2, e2, e3⟩ := Mon.madeTab_at hm hrow
      rw [hm'] at e0
      cases e0
      refine ⟨T', _, rfl, SqT.of upd_same, rfl, _, _, rfl, _, _, rfl, rfl, ?_⟩
      have sT := same_upd (o := .tup [.int (i : Nat), .ref a]) nT
      have s3 := sn.trans sT
      have hd3 := sT _ _ hdn
      have wl3 : WL (L2.upd Hn T' (.tup [.int (i : Nat), .ref a])) ps (Mon.wordTab m') := ⟨wl.1, fun k a w h1 h2 => sT _ _ (wl.2 k a w h1 h2)⟩
      generalize L2.upd Hn T' (.tup [.int (i : Nat), .ref a]) = H3 at s3 hd3 wl3 ⊢
      clear sT wl nT sn hdn
      refine ⟨_, rfl, a, row.map nv, rfl, for_enum (H0 := H) sa (fun c σ H4 => ∃ v5 v6 : Option V, σ = [some (.ref r), some (nv rows.length), some (.ref d), some (nv i), some (.ref a), v5, v6, none, none, none, none, none] ∧ Same H H4 ∧ ∃ (m4 : List (Nat × Nat)) (ps : List Addr), Mon.madeRow i 0 (row.take c) m' = some m4 ∧ H4 d = some (.dK (rfF 0 ps)) ∧ (∀ x ∈ ps, x ≠ d) ∧ WL H4 ps (Mon.wordTab m4)) ⟨_, _, rfl, s3, m', ps, by simp [Mon.madeRow], hd3, nps, wl3⟩ (fun j σ H4 _ ⟨_, _, _, s, _⟩ => s) ?_ ?_⟩
      · rintro c x σ H4 ⟨v5, v6, rfl, s4, m4, ps4, hm4, hd4, nps4, wl4⟩ hy2 T2 nT2
        obtain ⟨t, ht, rfl⟩ := map_get hy2
        have cl := get_lt ht
        have nx : Mon.madeRow i 0 (row.take (c + 1)) m' = if m4.length + 1 < t then none else if t = m4.length + 1 then some (m4 ++ [(i, c)]) else some m4 := by
          rw [take_snoc' ht, Mon.madeRow_snoc, hm4, Option.bind_some, List.length_take, Nat.min_eq_left (Nat.le_of_lt cl), Nat.zero_add]
        have nn : ¬ m4.length + 1 < t := fun z => by
          rw [if_pos z] at nx
          rw [row_none hm4 nx] at e2
          cases e2
        rw [if_neg nn] at nx
        refine ⟨T2, _, rfl, SqT.of upd_same, rfl, _, _, rfl, _, _, rfl, rfl, ?_⟩
        have sT := same_upd (o := .tup [.int (c : Nat), nv t]) nT2
        have s5 := s4.trans sT
        have hd5 := sT _ _ hd4
        have wl5 : WL (L2.upd H4 T2 (.tup [.int (c : Nat), nv t])) ps4 (Mon.wordTab m4) := ⟨wl4.1, fun k a w h1 h2 => sT _ _ (wl4.2 k a w h1 h2)⟩
        generalize L2.upd H4 T2 (.tup [.int (c : Nat), nv t]) = H5 at s5 hd5 wl5 ⊢
        clear sT wl4 nT2 s4 hd4
        have lps : ps4.length = m4.length + 1 := by rw [wl5.1, Mon.word_len]
        refine ⟨_, rfl, _, rfl, d, valV (rfF 0 ps4) (ik t), rfl, DGet.k (k := ik t) hd5, ?_⟩
        by_cases ct : t = m4.length + 1
        case neg =>
          rw [if_neg ct] at nx
          obtain ⟨b, hb⟩ := lt_get (show t < ps4.length by omega)
          have z := rf_some (k := 0) hb
          rw [Nat.zero_add] at z
          rw [z]
          exact ⟨_, rfl, ifF rfl ⟨_, _, rfl, s5, m4, ps4, nx, hd5, nps4, wl5⟩⟩
        rw [if_pos ct] at nx
        rw [rf_none (.inr (by omega))]
        refine ⟨_, rfl, ifT rfl ?_⟩
        have l4 : m4.length ≤ m.length := Nat.le_trans (len_growR e2 hm4) (len_grow hm e3)
        have i4 : m'.length ≤ m4.length := by
          obtain ⟨e, he, _⟩ := Mon.madeRow_ok hm4
          rw [he, List.length_append]
          omega
        obtain ⟨b, hb⟩ := lt_get (show i < ps4.length by omega)
        obtain ⟨wi, hwi⟩ := lt_get (show i < (Mon.wordTab m4).length by rw [Mon.word_len]; omega)
        have hbw := wl5.2 i b wi hb hwi
        have ws := word_short (List.mem_of_getElem? hwi)
        have gb := rf_some (k := 0) hb
        rw [Nat.zero_add] at gb
        refine ⟨_, rfl, _, rfl, d, .ref b, rfl, (by have z := DGet.k (k := ik i) hd5; rw [gb] at z; exact z), _, rfl, (by show 1 ≤ sizeLine; decide), fun q0 nq => ?_⟩
        have u6 := same_upd (o := .lst [nv c]) nq
        have s6 := s5.trans u6
        have hd6 := u6 _ _ hd5
        have hb6 := u6 _ _ hbw
        have hq6 : L2.upd H5 q0 (.lst [nv c]) q0 = some (.lst [nv c]) := upd_same
        have wl6 : WL (L2.upd H5 q0 (.lst [nv c])) ps4 (Mon.wordTab m4) := ⟨wl5.1, fun k a w h1 h2 => u6 _ _ (wl5.2 k a w h1 h2)⟩
        generalize L2.upd H5 q0 (.lst [nv c]) = H6 at s6 hd6 hb6 hq6 wl6 ⊢
        clear u6 nq
        refine ⟨b, q0, _, _, rfl, rfl, SqL.of hb6, SqL.of hq6, by rw [List.length_map]; show wi.length + 1 ≤ 16777216; omega, fun N nN => ?_⟩
        have nNd : N ≠ d := fun z => by rw [z, hd6] at nN; cases nN
        have u7 := same_upd (o := .lst (wi.map nv ++ [nv c])) nN
        have s7 := s6.trans u7
        have hd7 := u7 _ _ hd6
        have hN7 : L2.upd H6 N (.lst (wi.map nv ++ [nv c])) N = some (.lst ((wi ++ [c]).map nv)) := by rw [upd_same, List.map_append]; rfl
        have wl7 : WL (L2.upd H6 N (.lst (wi.map nv ++ [nv c]))) ps4 (Mon.wordTab m4) := ⟨wl6.1, fun k a w h1 h2 => u7 _ _ (wl6.2 k a w h1 h2)⟩
        generalize L2.upd H6 N (.lst (wi.map nv ++ [nv c])) = H7 at s7 hd7 hN7 wl7 ⊢
        clear u7 nN
        refine ⟨_, rfl, _, rfl, d, _, rfl, DPut.k (k := ik t) hd7 (by rw [rf_len]; show ps4.length < 16777216; omega), ?_⟩
        rw [show t = ps4.length by omega, rf_put]
        have ew : Mon.wordTab (m4 ++ [(i, c)]) = Mon.wordTab m4 ++ [wi ++ [c]] := by
          unfold Mon.wordTab
          rw [List.foldl_append]
          show Mon.wordStep (Mon.wordTab m4) (i, c) = _
          unfold Mon.wordStep
          rw [Mon.getD_of hwi]
          rfl
        refine ⟨_, _, rfl, fun b o e => ?_, _, ps4 ++ [N], nx, upd_same, fun x hx => ?_, ?_⟩
        · rw [upd_ne (ne_of_none e nd)]
          exact s7 b o e
        · rcases List.mem_append.mp hx with h | h
          · exact nps4 x h
          · rw [List.mem_singleton.mp h]
            exact nNd
        · rw [ew]
          refine ⟨by rw [List.length_append, List.length_append, wl7.1]; rfl, fun k a w h1 h2 => ?_⟩
          by_cases hk : k < ps4.length
          · rw [List.getElem?_append_left hk] at h1
            rw [List.getElem?_append_left (by rw [← wl7.1]; exact hk)] at h2
            rw [upd_ne (nps4 a (List.mem_of_getElem? h1))]
            exact wl7.2 k a w h1 h2
          · have := get_lt h1
            rw [List.length_append, List.length_singleton] at this
            have e : k = ps4.length := by omega
            subst e
            rw [List.getElem?_append_right (Nat.le_refl _), Nat.sub_self] at h1
            rw [List.getElem?_append_right (by rw [wl7.1]; exact Nat.le_refl _), wl7.1, Nat.sub_self] at h2
            cases h1
            cases h2
            rw [upd_ne nNd]
            exact hN7
      · rintro σ H4 ⟨v5, v6, rfl, s4, m4, ps4, hm4, hd4, nps4, wl4⟩
        rw [List.length_map, List.take_length, e2] at hm4
        cases hm4
        exact ⟨_, _, _, _, rfl, s4, m2, ps4, e3, hd4, nps4, wl4⟩
    rintro σ Hn ⟨v3, v4, v5, v6, rfl, sn, m', ps, hm', hdn, nps, wl⟩
    rw [ln, List.take_length, hm] at hm'
    cases hm'
    have lps : ps.length = rows.length := by rw [wl.1, Mon.word_len, lm]
    refine ⟨(by show 0 ≤ sizeLine; decide), fun D nD => ?_⟩
    have nDd : D ≠ d := fun z => by rw [z, hdn] at nD; cases nD
    have nDH : H D = none := nil_of sn nD
    have u2 := same_upd (o := .lst []) nD
    have s2 := sn.trans u2
    have hd2 := u2 _ _ hdn
    have wl2 : WL (L2.upd Hn D (.lst [])) ps (Mon.wordTab m) := ⟨wl.1, fun k a w h1 h2 => u2 _ _ (wl.2 k a w h1 h2)⟩
    have nps2 : ∀ x ∈ ps, x ≠ D := fun x hx z => by
      obtain ⟨k, hk⟩ := List.getElem?_of_mem hx
      obtain ⟨w, hw⟩ := lt_get (show k < (Mon.wordTab m).length by rw [← wl.1]; exact get_lt hk)
      have := wl.2 k x w hk hw
      rw [z, nD] at this
      cases this
    have hD2 : L2.upd Hn D (.lst []) D = some (.lst (([] : List Addr).map V.ref)) := upd_same
    generalize L2.upd Hn D (.lst []) = H2 at s2 hd2 wl2 hD2 ⊢
    clear u2 nD sn hdn wl
    refine ⟨_, rfl, ((rows.length : Nat) : Int), rfl, by omega, by omega, ?_⟩
    refine for_range (lo := 0) (n := rows.length) (fun i σ Hc => ∃ v3 v4 v5 v6 v8 v9 : Option V, σ = [some (.ref r), some (nv rows.length), some (.ref d), v3, v4, v5, v6, some (.ref D), v8, v9, none, none] ∧ Same H Hc ∧ Hc d = some (.dK (rfF 0 ps)) ∧ WL Hc ps (Mon.wordTab m) ∧ ∃ es : List Addr, Hc D = some (.lst (es.map V.ref)) ∧ es.length = i ∧ ∀ (k : Nat) a, es[k]? = some a → a ≠ D ∧ Hc a = some (.lst ((mtL rows m k).map nv)))
      ⟨_, _, _, _, _, _, rfl, s2, hd2, wl2, [], hD2, rfl, fun c' a h => by simp at h⟩ (fun i σ Hc hi ⟨v3, v4, v5, v6, v8, v9, eσ, sc, hdc, wlc, es, hDc, les, pes⟩ => ?_) (fun σ Hc ⟨v3, v4, v5, v6, v8, v9, eσ, sc, hdc, wlc, es, hDc, les, pes⟩ => ?_)
    · subst eσ
      rw [Int.zero_add]
      refine ⟨(by show 0 ≤ sizeLine; decide), fun E0' nE => ?_⟩
      have nEd : E0' ≠ d := fun z => by rw [z, hdc] at nE; cases nE
      have nED : E0' ≠ D := fun z => by rw [z, hDc] at nE; cases nE
      have nEH : H E0' = none := nil_of sc nE
      have hE : L2.upd Hc E0' (.lst []) E0' = some (.lst []) := upd_same
      refine ⟨_, rfl, ((rows.length : Nat) : Int), rfl, by omega, by omega, ?_⟩
      refine for_range (lo := 0) (n := rows.length) (fun j σ Hx => ∃ v3 v5 v6 v9 : Option V, σ = [some (.ref r), some (nv rows.length), some (.ref d), v3, some (.ref E0'), v5, v6, some (.ref D), some (.int (i : Nat)), v9, none, none] ∧ But E0' Hc Hx ∧ Hx E0' = some (.lst (((List.range j).map (mt rows m i)).map nv)))
        ⟨_, _, _, _, rfl, But.upd, hE⟩ (fun j σ Hx hj ⟨v3, v5, v6, v9, eσ, bx, hEx⟩ => ?_) (fun σ Hx ⟨v3, v5, v6, v9, eσ, bx, hEx⟩ => ?_)
      · subst eσ
        rw [Int.zero_add]
        have sx : Same H Hx := fun b o e => bx b o (ne_of_none e nEH) (sc b o e)
        have hdx := bx _ _ nEd.symm hdc
        obtain ⟨b, hb⟩ := lt_get (show j < ps.length by omega)
        obtain ⟨wi, hwi⟩ := lt_get (show j < (Mon.wordTab m).length by rw [Mon.word_len]; omega)
        have hbw0 := wlc.2 j b wi hb hwi
        have nbE : b ≠ E0' := fun z => by rw [z, nE] at hbw0; cases hbw0
        have hbw := bx _ _ nbE hbw0
        have ltr : ∀ x ∈ wi, x < wd := by
          have z := word_letters FO hm j
          rw [Mon.getD_of hwi] at z
          exact z
        have ewd : mt rows m i j = Mon.walk rows i wi := by
          unfold mt wd_
          rw [Mon.getD_of hwi]
        have gb := rf_some (k := 0) hb
        rw [Nat.zero_add] at gb
        refine ⟨_, rfl, _, rfl, _, rfl, d, .ref b, rfl, (by have z := DGet.k (k := ik j) hdx; rw [gb] at z; exact z), b, rfl, ⟨_, SqL.of hbw⟩, ?_⟩
        refine for_list (K := K) (a := b) (xs := wi.map nv) (fun k σ Hy => ∃ v5 : Option V, σ = [some (.ref r), some (nv rows.length), some (.ref d), v3, some (.ref E0'), v5, some (.int (j : Nat)), some (.ref D), some (.int (i : Nat)), some (nv (Mon.walk rows i (wi.take k))), none, none] ∧ Hy = Hx) ⟨_, rfl, rfl⟩ (fun j σ Hy _ ⟨_, _, e⟩ => by rw [e]; exact SqL.of hbw) (fun k z σ Hy hz ⟨v5', eσ, e⟩ => ?_) (fun σ Hy ⟨v5', eσ, e⟩ => ?_)
        · subst eσ
          subst e
          obtain ⟨x, hx, rfl⟩ := map_get hz
          have wlt := walk_lt FO hi (fun y hy => ltr y (List.mem_of_mem_take hy)) (w := wi.take k)
          obtain ⟨bw, hbw'⟩ := lt_get (show Mon.walk rows i (wi.take k) < as.length by omega)
          obtain ⟨rw_, hrw⟩ := lt_get wlt
          have frw := frow rw_ (List.mem_of_getElem? hrw)
          obtain ⟨e1, he1⟩ := lt_get (show x < rw_.length by rw [frw.1]; exact ltr x (List.mem_of_getElem? hx))
          have ew : Mon.walk rows i (wi.take (k + 1)) = e1 := by
            rw [take_snoc hx, Mon.walk_app]
            show (rows.getD (Mon.walk rows i (wi.take k)) []).getD x 0 = e1
            rw [Mon.getD_of hrw, Mon.getD_of he1]
          refine ⟨_, rfl, _, rfl, r, _, _, .ref bw, rfl, rfl, L2.Same.seq sx sr, atI_nat (get_map hbw'), _, rfl, bw, _, _, nv e1, rfl, rfl, L2.Same.seq sx (srowL _ bw rw_ hbw' hrw), atI_nat (get_map he1), some (nv x), ?_, rfl⟩
          rw [ew]
          rfl
        · subst eσ
          subst e
          rw [List.length_map, List.take_length, ← ewd]
          refine ⟨_, rfl, .inl ⟨rfl, _, SqL.of hEx⟩, _, rfl, E0', _, _, rfl, rfl, hEx, by rw [List.length_map, List.length_map, List.length_range]; show j < 16777216; omega, ?_⟩
          refine ⟨_, _, _, _, rfl, bx.trans But.upd, ?_⟩
          rw [upd_same, range_snoc, List.map_append, List.map_append]
          rfl
      · subst eσ
        have hDx := bx _ _ nED.symm hDc
        refine ⟨_, rfl, .inl ⟨rfl, _, SqL.of hDx⟩, _, rfl, D, _, _, rfl, rfl, hDx, by rw [List.length_map, les]; show i < 16777216; omega, ?_⟩
        have nbk : ∀ {b : Addr} {o : HO}, Hc b = some o → b ≠ E0' := fun {b o} e => ne_of_none e nE
        refine ⟨_, _, _, _, _, _, rfl, fun b o e => ?_, by rw [upd_ne nDd.symm]; exact bx _ _ nEd.symm hdc, ⟨wlc.1, fun k' a w' h1 h2 => ?_⟩, es ++ [E0'], by rw [upd_same, List.map_append]; rfl, by rw [List.length_append, les]; rfl, fun c' a h => ?_⟩
        · rw [upd_ne (ne_of_none e nDH)]
          exact bx b o (ne_of_none e nEH) (sc b o e)
        · have z := wlc.2 k' a w' h1 h2
          rw [upd_ne (nps2 a (List.mem_of_getElem? h1))]
          exact bx _ _ (nbk z) z
        · by_cases hc' : c' < es.length
          · rw [List.getElem?_append_left hc'] at h
            obtain ⟨x1, x2⟩ := pes c' a h
            exact ⟨x1, by rw [upd_ne x1]; exact bx _ _ (nbk x2) x2⟩
          · have := get_lt h
            rw [List.length_append, List.length_singleton] at this
            have e : c' = es.length := by omega
            subst e
            rw [List.getElem?_append_right (Nat.le_refl _), Nat.sub_self] at h
            cases h
            rw [les]
            exact ⟨nED, by rw [upd_ne nED]; exact hEx⟩
    subst eσ
    clear hdc wlc s2 hd2 wl2 hD2
    have mtlt : ∀ {x y : Nat}, x < rows.length → y < rows.length → mt rows m x y < rows.length := fun {x y} hx hy => walk_lt FO hx (wrd_ok FO hm y hy).2
    have eat : ∀ {k : Nat}, k < rows.length → ∃ a, es[k]? = some a ∧ Hc a = some (.lst ((mtL rows m k).map nv)) := fun {k} hk => by
      obtain ⟨a, ha⟩ := lt_get (show k < es.length by omega)
      exact ⟨a, ha, (pes k a ha).2⟩
    refine ⟨_, rfl, ((rows.length : Nat) : Int), rfl, by omega, by omega, ?_⟩
    refine for_range (lo := 0) (n := rows.length) (fun i σ Hd => ∃ v3 v4 v5 v6 v8 v9 v10 : Option V, σ = [some (.ref r), some (nv rows.length), some (.ref d), v3, v4, v5, v6, some (.ref D), v8, v9, v10, none] ∧ Same Hc Hd ∧ ∀ x y z, x < i → y < rows.length → z < rows.length → mt rows m (mt rows m x y) z = mt rows m x (mt rows m y z))
      ⟨_, _, _, _, _, _, _, rfl, L2.Same.refl _, fun x y z hx => absurd hx (Nat.not_lt_zero _)⟩ (fun i σ Hd hi ⟨v3, v4, v5, v6, v8, v9, v10, eσ, sd, pre⟩ => ?_) (fun σ Hd ⟨v3, v4, v5, v6, v8, v9, v10, eσ, sd, all⟩ => ?_)
    · subst eσ
      rw [Int.zero_add]
      refine ⟨_, rfl, ((rows.length : Nat) : Int), rfl, by omega, by omega, ?_⟩
      refine for_range (lo := 0) (n := rows.length) (fun j σ He => ∃ v6 v10 : Option V, σ = [some (.ref r), some (nv rows.length), some (.ref d), v3, v4, v5, v6, some (.ref D), some (.int (i : Nat)), v9, v10, none] ∧ Same Hc He ∧ ∀ y z, y < j → z < rows.length → mt rows m (mt rows m i y) z = mt rows m i (mt rows m y z))
        ⟨_, _, rfl, sd, fun y z hy => absurd hy (Nat.not_lt_zero _)⟩ (fun j σ He hj ⟨v6, v10, eσ, se, prej⟩ => ?_) (fun σ He ⟨v6, v10, eσ, se, allj⟩ => ?_)
      · subst eσ
        rw [Int.zero_add]
        obtain ⟨ei, hei, pei⟩ := eat hi
        obtain ⟨ej, hej, pej⟩ := eat hj
        obtain ⟨eb, heb, peb⟩ := eat (mtlt hi hj)
        have hDe := se _ _ hDc
        refine ⟨_, rfl, _, rfl, _, rfl, D, _, _, .ref ei, rfl, rfl, SqL.of hDe, atI_nat (get_map hei), _, rfl, ei, _, _, nv (mt rows m i j), rfl, rfl, SqL.of (se _ _ pei), atI_nat (mtL_get hj), D, _, _, .ref eb, rfl, rfl, SqL.of hDe, atI_nat (get_map heb), ?_⟩
        refine ⟨_, rfl, _, rfl, _, rfl, D, _, _, .ref ej, rfl, rfl, SqL.of hDe, atI_nat (get_map hej), ej, rfl, ⟨_, SqL.of (se _ _ pej)⟩, fun C nC => ?_⟩
        have nCH : ∀ {b : Addr} {o : HO}, He b = some o → b ≠ C := fun {b o} e => ne_of_none e nC
        refine lc_list (K := K) (a := ej) (xs := (mtL rows m j).map nv) (fun k Hf => But C He Hf ∧ Hf C = some (.lst ((((mtL rows m j).take k).map (mt rows m i)).map nv))) ⟨But.upd, upd_same⟩ (fun k Hf _ ⟨bf, _⟩ => SqL.of (bf _ _ (nCH (se _ _ pej)) (se _ _ pej))) (fun k z Hf hz ⟨bf, hC⟩ => ?_) (fun Hf ⟨bf, hC⟩ => ?_)
        · obtain ⟨x, hx, rfl⟩ := map_get hz
          have xl : x < rows.length := by
            have := List.mem_of_getElem? hx
            unfold mtL at this
            obtain ⟨y, hy, rfl⟩ := List.mem_map.mp this
            exact mtlt hj (List.mem_range.mp hy)
          have hkl : k < rows.length := by have := get_lt hx; unfold mtL at this; rw [List.length_map, List.length_range] at this; exact this
          refine ⟨rfl, yesT ?_⟩
          refine ⟨_, rfl, _, rfl, D, _, _, .ref ei, rfl, rfl, SqL.of (bf _ _ (nCH hDe) hDe), atI_nat (get_map hei), _, rfl, ei, _, _, nv (mt rows m i x), rfl, rfl, SqL.of (bf _ _ (nCH (se _ _ pei)) (se _ _ pei)), atI_nat (mtL_get xl), _, hC, by rw [List.length_map, List.length_map, List.length_take]; show min k _ < 16777216; omega, bf.trans But.upd, ?_⟩
          rw [upd_same, take_snoc hx, List.map_append, List.map_append]
          rfl
        · rw [List.length_map, List.take_length] at hC
          have sf : Same Hc Hf := Same.but se (nil_of se nC) bf
          refine ⟨dL (mtL rows m (mt rows m i j)), dL ((mtL rows m j).map (mt rows m i)), dpL (SqL.of (sf _ _ peb)), dpL (SqL.of hC), dL_sh _, dL_sh _, _, rfl, ?_⟩
          rw [dL_eqv]
          by_cases hq : mtL rows m (mt rows m i j) = (mtL rows m j).map (mt rows m i)
          · refine ifF (by rw [decide_eq_true hq]; rfl) ⟨_, _, rfl, sf, fun y z hy hz => ?_⟩
            by_cases q1 : y < j
            · exact prej y z q1 hz
            · rw [show y = j by omega]
              have h1 : (mtL rows m (mt rows m i j))[z]? = some (mt rows m (mt rows m i j) z) := by unfold mtL; rw [List.getElem?_map, List.getElem?_range hz]; rfl
              have h2 : ((mtL rows m j).map (mt rows m i))[z]? = some (mt rows m i (mt rows m j z)) := by unfold mtL; rw [List.getElem?_map, List.getElem?_map, List.getElem?_range hz]; rfl
              rw [hq, h2] at h1
              exact (Option.some.inj h1).symm
          · refine ifT (by rw [decide_eq_false hq]; rfl) (bad (fun g => hq ?_) _ (sc.trans sf))
            have as_ := (assoc_of FO hm g).1
            unfold mtL
            rw [List.map_map]
            exact List.map_congr_left fun z hz => as_ i j z hi hj (List.mem_range.mp hz)
      · subst eσ
        refine ⟨_, _, _, _, _, _, _, rfl, se, fun x y z hx hy hz => ?_⟩
        by_cases q1 : x < i
        · exact pre x y z q1 hy hz
        · rw [show x = i by omega]
          exact allj y z hy hz
    subst eσ
    have s0d := sc.trans sd
    obtain ⟨b0, hb0⟩ := lt_get (show 0 < as.length by omega)
    obtain ⟨row0, hrow0⟩ := lt_get (show 0 < rows.length by omega)
    have fr0 := frow row0 (List.mem_of_getElem? hrow0)
    have sb0 := srowL 0 b0 row0 hb0 hrow0
    refine ⟨_, rfl, r, as.map V.ref, rfl, .inl ⟨L2.Same.seq s0d sr, fun C nC => ?_⟩⟩
    have nCH : H C = none := nil_of s0d nC
    refine lc_it (walk_enumL (K := K) (a := r) (xs := as.map V.ref)) (fun i He => But C Hd He ∧ ∃ (bs : List Addr) (bd : List (List Nat)), He C = some (.lst (bs.map V.ref)) ∧ bs.length = bd.length ∧ bs.length ≤ i ∧ (∀ (j : Nat) a x, bs[j]? = some a → bd[j]? = some x → SqL K H a (x.map nv)) ∧ (bd = [] ↔ ∀ k, k < i → rows.getD k [] = row0.map (mt rows m k)))
      ⟨But.upd, [], [], upd_same, rfl, Nat.le_refl _, fun j a x h => by simp at h, by simp⟩ (fun i He _ ⟨be, _⟩ => L2.Same.seq (Same.but s0d nCH be) sr) (fun i z He H' hi2 ⟨be, bs, bd, hC, lb, li, pb, iff⟩ ⟨Tp, y, ez, nT, eH', hy⟩ => ?_) (fun He ⟨be, bs, bd, hC, lb, li, pb, iff⟩ => ?_)
    · subst ez
      subst eH'
      obtain ⟨a, ha, rfl⟩ := map_get hy
      have hi : i < rows.length := by have := get_lt ha; omega
      obtain ⟨row, hrow⟩ := lt_get hi
      have sa := srowL i a row ha hrow
      refine ⟨Tp, _, rfl, SqT.of upd_same, rfl, _, _, rfl, _, _, rfl, rfl, rfl, ?_⟩
      have nTC : Tp ≠ C := fun z => by rw [z, hC] at nT; cases nT
      have be2 : But C Hd (L2.upd He Tp (.tup [.int (i : Nat), .ref a])) := fun b o nb e => same_upd nT _ _ (be b o nb e)
      have hC2 : L2.upd He Tp (.tup [.int (i : Nat), .ref a]) C = some (.lst (bs.map V.ref)) := same_upd nT _ _ hC
      generalize L2.upd He Tp (.tup [.int (i : Nat), .ref a]) = H3 at be2 hC2 ⊢
      clear be hC nT
      have s3 : Same H H3 := Same.but s0d nCH be2
      refine ⟨_, rfl, a, _, rfl, .inl (L2.Same.seq s3 sa), fun l nl => ?_⟩
      have nlC : l ≠ C := fun z => by rw [z, hC2] at nl; cases nl
      have ul := same_upd (o := .lst (row.map nv)) nl
      have hl4 : L2.upd H3 l (.lst (row.map nv)) l = some (.lst (row.map nv)) := upd_same
      have be4 : But C Hd (L2.upd H3 l (.lst (row.map nv))) := fun b o nb e => ul _ _ (be2 b o nb e)
      have hC4 := ul _ _ hC2
      have s4 := s3.trans ul
      generalize L2.upd H3 l (.lst (row.map nv)) = H4 at hl4 be4 hC4 s4 ⊢
      clear ul be2 hC2 nl
      refine ⟨_, rfl, r, _, _, .ref b0, rfl, rfl, L2.Same.seq s4 sr, atI_nat (j := 0) (get_map hb0), b0, rfl, ⟨_, L2.Same.seq s4 sb0⟩, fun M nM => ?_⟩
      have nMC : M ≠ C := fun z => by rw [z, hC4] at nM; cases nM
      have nMl : M ≠ l := fun z => by rw [z, hl4] at nM; cases nM
      obtain ⟨ei, hei, pei⟩ := eat hi
      have nDC : D ≠ C := fun z => by rw [← z, sd _ _ hDc] at nC; cases nC
      have neC : ei ≠ C := fun z => by rw [← z, sd _ _ pei] at nC; cases nC
      have hD4 := be4 _ _ nDC (sd _ _ hDc)
      have he4 := be4 _ _ neC (sd _ _ pei)
      have nk : ∀ {b : Addr} {o : HO}, H4 b = some o → b ≠ M := fun {b o} e => ne_of_none e nM
      refine lc_list (K := K) (a := b0) (xs := row0.map nv) (fun k Hf => But M H4 Hf ∧ Hf M = some (.lst (((row0.take k).map (mt rows m i)).map nv))) ⟨But.upd, upd_same⟩ (fun k Hf _ ⟨bf, _⟩ => L2.Same.seq (Same.but s4 (nil_of s4 nM) bf) sb0) (fun k z Hf hz ⟨bf, hM⟩ => ?_) (fun Hf ⟨bf, hM⟩ => ?_)
      · obtain ⟨x, hx, rfl⟩ := map_get hz
        have xl := fr0.2 x (List.mem_of_getElem? hx)
        refine ⟨rfl, yesT ?_⟩
        refine ⟨_, rfl, _, rfl, D, _, _, .ref ei, rfl, rfl, SqL.of (bf _ _ (nk hD4) hD4), atI_nat (get_map hei), _, rfl, ei, _, _, nv (mt rows m i x), rfl, rfl, SqL.of (bf _ _ (nk he4) he4), atI_nat (mtL_get xl), _, hM, by rw [List.length_map, List.length_map, List.length_take]; have := get_lt hx; show min k _ < 16777216; omega, bf.trans But.upd, ?_⟩
        rw [upd_same, take_snoc hx, List.map_append, List.map_append]
        rfl
      · rw [List.length_map, List.take_length] at hM
        have hl5 := bf _ _ nMl.symm hl4
        have hC5 := bf _ _ nMC.symm hC4
        have be5 : But C Hd Hf := fun b o nb e => bf b o (nk (be4 b o nb e)) (be4 b o nb e)
        refine ⟨dL row, dL (row0.map (mt rows m i)), dpL (SqL.of hl5), dpL (SqL.of hM), dL_sh _, dL_sh _, _, rfl, ?_⟩
        rw [dL_eqv]
        by_cases hq : row = row0.map (mt rows m i)
        · refine ifF (by rw [decide_eq_true hq]; rfl) ⟨be5, bs, bd, hC5, lb, by omega, pb, iff.trans ⟨fun g k hk => ?_, fun g k hk => g k (by omega)⟩⟩
          by_cases q1 : k < i
          · exact g k q1
          · rw [show k = i by omega, Mon.getD_of hrow]
            exact hq
        · refine ifT (by rw [decide_eq_false hq]; rfl) ⟨_, rfl, _, hC5, by rw [List.length_map]; show bs.length < 16777216; omega, be5.trans But.upd, bs ++ [a], bd ++ [row], by rw [upd_same, List.map_append]; rfl, by rw [List.length_append, List.length_append, lb]; rfl, by rw [List.length_append, List.length_singleton]; omega, fun j c x h1 h2 => ?_, ⟨fun z => by simp at z, fun g => absurd ?_ hq⟩⟩
          · by_cases hj : j < bs.length
            · rw [List.getElem?_append_left hj] at h1
              rw [List.getElem?_append_left (by rw [← lb]; exact hj)] at h2
              exact pb j c x h1 h2
            · have := get_lt h1
              rw [List.length_append, List.length_singleton] at this
              have e : j = bs.length := by omega
              subst e
              rw [List.getElem?_append_right (Nat.le_refl _), Nat.sub_self] at h1
              rw [List.getElem?_append_right (by rw [lb]; exact Nat.le_refl _), lb, Nat.sub_self] at h2
              cases h1
              cases h2
              exact sa
          · have := g i (Nat.lt_succ_self i)
            rw [Mon.getD_of hrow] at this
            exact this
    · rw [List.length_map, la] at iff
      refine ⟨(by show 0 ≤ sizeLine; decide), fun N nN => ?_⟩
      have un := same_upd (o := .lst []) nN
      have s6 : Same H He := Same.but s0d nCH be
      refine ⟨.list (bd.map dL), .list [], dp_same un (.lst (SqL.of hC) (dpRL lb fun j a x h1 h2 => L2.Same.seq s6 (pb j a x h1 h2))), .lst (SqL.of upd_same) .nil, lrows_sh bd, rfl, ?_⟩
      rw [eqv_nil]
      by_cases hq : bd = []
      · rw [decide_eq_true hq]
        have g := iff.mp hq
        refine good (of_assoc FO hm (fun x y z hx hy hz => all x y z hx hy hz) fun i c hi hc => ?_) _ (s6.trans un)
        obtain ⟨s0, hs0⟩ := lt_get (show c < row0.length by rw [fr0.1]; exact hc)
        rw [g i hi, Mon.getD_of hrow0, Mon.getD_of hs0]
        have : (row0.map (mt rows m i))[c]? = some (mt rows m i s0) := by rw [List.getElem?_map, hs0]; rfl
        rw [Mon.getD_of this]
      · rw [decide_eq_false hq]
        refine bad (fun g => hq (iff.mpr fun k hk => ?_)) _ (s6.trans un)
        have ge := (assoc_of FO hm g).2
        obtain ⟨row, hrow⟩ := lt_get hk
        have fr := frow row (List.mem_of_getElem? hrow)
        rw [Mon.getD_of hrow]
        refine List.ext_getElem? fun c => ?_
        by_cases hc : c < wd
        · obtain ⟨t, ht⟩ := lt_get (show c < row.length by omega)
          obtain ⟨s0, hs0⟩ := lt_get (show c < row0.length by omega)
          have e := ge k c hk hc
          rw [Mon.getD_of hrow, Mon.getD_of ht, Mon.getD_of hrow0, Mon.getD_of hs0] at e
          rw [ht, List.getElem?_map, hs0, e]
          rfl
        · rw [List.getElem?_eq_none (by omega), List.getElem?_eq_none (by rw [List.length_map]; omega)]
end
end K12

set_option Elab.async false
set_option linter.all false
set_option maxRecDepth 100000
set_option maxHeartbeats 8000000
namespace K12
open PySem PySem.Spec PyProof.Rows L2 Lf
structure OwnC (K : PySem.W.Frag) (x : Str) : Prop where
  ha : PySem.W.findIn K (.ref (He.ga K x)) "__class__" = some (some (.builtin "object.__class__"))
  hn : PySem.W.specialIn K (.builtin "object.__class__") "__get__" = some (some (.builtin "getset_descriptor.__get__"))
  tk : PySem.W.takesIn K (.builtin "object.__class__") = some true
  hm : PySem.W.mroIn K (He.ga K x) (.type "object") = some true
  no : ∀ b ∈ ["int", "bool", "str", "list", "tuple"], PySem.W.kitOne K (.ref (He.ga K x)) (.type b) = some false
  on : ∀ b ∈ ["NoneType", "int", "bool", "str", "list", "tuple", "dict"], PySem.W.kitOne K (.type b) (.ref (He.ga K x)) = some false
  is : ∀ y ∈ owns, PySem.W.kitOne K (.ref (He.ga K x)) (.ref (He.ga K y)) = some (decide (x = y))
theorem ownB_ok {K : PySem.W.Frag} {x : Str} (h : ownB K x = true) : OwnC K x := by
  unfold ownB at h
  simp only [Bool.and_eq_true, decide_eq_true_eq, List.all_eq_true] at h
  obtain ⟨a, b, c, d, e, f, g⟩ := h
  exact ⟨a, b, c, d, e, f, g⟩
abbrev cls (K : PySem.W.Frag) : List Addr := owns.map fun y => He.ga K y
section
variable {P : Program} {w : World} {K : PySem.W.Frag} {mg : Str → Option Value} {base : Heap}
theorem Txt.own (T : Txt P w K mg base) {x : Str} (h : x ∈ owns) : OwnC K x :=
  ownB_ok (List.all_eq_true.mp (He.ba (He.ba (He.ba T.m).2).2).1 x h)
theorem Txt.ops (T : Txt P w K mg base) {x : Str} (h : x ∈ opsl) : Ops K (cls K) (He.ga K x) :=
  ops_ok (List.all_eq_true.mp (He.ba (He.ba (He.ba T.m).2).2).2 x h)
theorem OwnC.ty {x : Str} {H : Hp} {a dx : Addr} {fs : List (Str × V)} (o : OwnC K x) (cl : L2.Cls K (He.ga K x)) (h : H a = some (.ins (He.ga K x) dx fs)) : TyX K H (.ref a) (.ref (He.ga K x)) := .base (.ins h cl o.ha o.hn o.tk o.hm)
end
theorem RowsT.dp {K : PySem.W.Frag} {H : Hp} {r : Addr} {rows : List (List Nat)} (h : RowsT K H r rows) : Dp K H (.ref r) (.tuple (rows.map dI)) := by
  obtain ⟨as, a, b, c⟩ := h.ex
  exact .tup a (dpR b c)
theorem trows_eqv : ∀ (r s : List (List Nat)), PyData.eqvAll (r.map dI) (s.map dI) = decide (r = s)
  | [], [] => by simp [PyData.eqvAll]
  | [], y :: s => by simp [PyData.eqvAll]
  | x :: r, [] => by simp [PyData.eqvAll]
  | x :: r, y :: s => by
    rw [List.map_cons, List.map_cons, PyData.eqvAll, dI_eqv, trows_eqv r s]
    by_cases h : x = y <;> by_cases h2 : r = s <;> simp [h, h2]
def spEq (K : PySem.W.Frag) : Sp := fun vs H Q _ => ∃ a b rows rows' m m', vs = [.ref a, .ref b] ∧ Mo K H a rows m ∧ Mo K H b rows' m' ∧ Q (.bl (decide (rows = rows'))) H
def spPick : Sp := fun vs H Q _ => ∃ l n ls ys, vs = [.ref l, .ref ls] ∧ Src H l n ∧ n ≤ 1000000 ∧ H ls = some (.lst ys) ∧ ls ≠ l ∧ 0 < ys.length ∧ ys.length ≤ 1000 ∧ ∀ (k : Nat) y H', ys[k]? = some y → But l H H' → Src H' l (n + 1) → Q y H'
section
variable {P : Program} {w : World} {K : PySem.W.Frag} {mg : Str → Option Value} {base : Heap}
theorem scEq : FnScope ["self", "other"] ["self", "other"] (defScope s_Monoid_eq) := ⟨rfl, rfl, rfl, by decide +kernel, rfl, by decide +kernel, by decide +kernel⟩
theorem ok_eq {f : Addr} {fd : FuncData} {q : Str} (F : FunD K "__eq__" q (defArgs s_Monoid_eq) (defBody s_Monoid_eq) (defScope s_Monoid_eq) [] [] f fd) (T : Txt P w K mg base) : FnOk P w K mg base CX0 1 f fd ["self", "other"] (spEq K) := by
  have zI : mg "isinstance" = none := T.fr 37 "isinstance" rfl
  have g0 := T.gl 3 "Monoid" rfl
  have c0 : L2.Cls K (He.ga K "Monoid") := He.cls_ok (T.d.fact 43 (f := .cls "Monoid") rfl)
  have n0 : NoAttr K (He.ga K "Monoid") "right" := He.noat_ok (T.d.fact 51 (f := .noat "Monoid" "right") rfl)
  refine F.ok scEq (fun vs H Q E h => ?_) (fun cdv A outer s H vs Q E hr h => ?_)
  · obtain ⟨a, b, rows, rows', m, m', rfl, _⟩ := h
    rfl
  · obtain ⟨a, b, rows, rows', m, m', rfl, ⟨dx, t, u, v, ha, qa, _⟩, ⟨dy, t', u', v', hb, qb, _⟩, k⟩ := h
    refine ⟨_, PSs.nox (pss_one (ps_ret (pe_and (pe_callB call_isi rfl zI PyProof.Rows.boot_isinstance (pa_cons (pv 1) (pa_cons (pe_cl rfl g0) pa_nil))) (pe_one (pe_cmpR (op_eqD hr.units) (pe_fld (pv 0) rfl) (pe_fld (pv 1) rfl) (nomark _)))))), ?_⟩
    have ty := (T.own (x := "Monoid") (by decide)).ty c0 hb
    have is := (T.own (x := "Monoid") (by decide)).is "Monoid" (by decide)
    refine ⟨_, rfl, _, .ref _, _, _, _, rfl, .own _, ty, is, _, rfl, ?_⟩
    refine ifT (by decide +kernel) ?_
    refine ⟨_, rfl, _, _, _, _, _, rfl, ha, c0, n0, rfl, _, rfl, _, _, _, _, _, rfl, hb, c0, n0, rfl, ?_⟩
    refine ⟨_, _, qa.dp, qb.dp, trows_sh rows, trows_sh rows', ?_⟩
    rw [PyData.eqv, trows_eqv]
    exact k
theorem scPick : FnScope ["_law_source_here", "_law_some"] ["_law_source_here", "_law_some"] (defScope s_L_pick) := ⟨rfl, rfl, rfl, by decide +kernel, rfl, by decide +kernel, by decide +kernel⟩
theorem ok_pick {f : Addr} {fd : FuncData} {q : Str} (F : FunD K "_law_pick" q (defArgs s_L_pick) (defBody s_L_pick) (defScope s_L_pick) [] [] f fd) (zn : mg "len" = none)
    (DD : Def P w K mg base CX0 1 "_law_draw" ["_law_source_here", "_law_many"] spDraw) :
    FnOk P w K mg base CX0 2 f fd ["_law_source_here", "_law_some"] spPick := by
  refine F.ok scPick (fun vs H Q E h => ?_) (fun cdv A outer s H vs Q E hr h => ?_)
  · obtain ⟨l, n, ls, ys, rfl, _⟩ := h
    rfl
  · obtain ⟨l, n, ls, ys, rfl, src, n1, hls, nl, y0, y1, k⟩ := h
    refine ⟨_, PSs.nox (pss_one (ps_ret (pe_ix ix_list (pv 1) (pe_def DD hr pass0 rfl (pa_cons (pv 0) (pa_cons (pe_callB call_len_seq rfl zn boot_len (pa_cons (pv 1) pa_nil)) pa_nil))) (fun _ _ => rfl)))), ?_⟩
    refine ⟨_, rfl, _, rfl, _, rfl, ls, ys, rfl, .inl (SqL.of hls), l, n, _, rfl, src, n1, by omega, by omega, fun j H1 j0 j1 b1 src1 => ?_⟩
    obtain ⟨j, rfl⟩ : ∃ j' : Nat, j = (j' : Nat) := ⟨j.toNat, by omega⟩
    obtain ⟨y, hy⟩ := lt_get (show j < ys.length by omega)
    exact ⟨ls, ys, _, y, rfl, rfl, SqL.of (b1 _ _ nl hls), atI_nat hy, k j y H1 hy b1 src1⟩
end
end K12

set_option Elab.async false
set_option linter.all false
set_option maxRecDepth 100000
set_option maxHeartbeats 8000000
namespace K12
open PySem PySem.Spec PyProof.Rows L2 Lf
/-- rows that stand as lists of their own, beside l -/
structure RowsH (H : Hp) (l r : Addr) (rows : List (List Nat)) : Prop where
  ex : r ≠ l ∧ ∃ as : List Addr, H r = some (.lst (as.map V.ref)) ∧ as.length = rows.length ∧ ∀ (i : Nat) a row, as[i]? = some a → rows[i]? = some row → a ≠ l ∧ a ≠ r ∧ H a = some (.lst (row.map nv))
theorem RowsH.l {K : PySem.W.Frag} {H : Hp} {l r : Addr} {rows : List (List Nat)} (h : RowsH H l r rows) : RowsL K H r rows := by
  obtain ⟨_, as, a, b, c⟩ := h.ex
  exact ⟨as, SqL.of a, b, fun i x row h1 h2 => SqL.of (c i x row h1 h2).2.2⟩
theorem RowsH.but {H H' : Hp} {l r : Addr} {rows : List (List Nat)} (h : RowsH H l r rows) (e : But l H H') : RowsH H' l r rows := by
  obtain ⟨n, as, a, b, c⟩ := h.ex
  exact ⟨n, as, e _ _ n a, b, fun i x row h1 h2 => ⟨(c i x row h1 h2).1, (c i x row h1 h2).2.1, e _ _ (c i x row h1 h2).1 (c i x row h1 h2).2.2⟩⟩
/-- rows that may be written: k of them, each of wd numbers under N; none was there at H0 -/
def Loose (H0 Hc : Hp) (l p : Addr) (k wd N : Nat) : Prop := ∃ as : List Addr, Hc p = some (.lst (as.map V.ref)) ∧ as.length = k ∧ ∀ a ∈ as, a ≠ l ∧ a ≠ p ∧ H0 a = none ∧ ∃ row : List Nat, Hc a = some (.lst (row.map nv)) ∧ row.length = wd ∧ ∀ e ∈ row, e < N
theorem ixN_nat {n k : Nat} (h : k < n) : ixN n ((k : Nat) : Int) = some k := by
  unfold ixN
  rw [if_pos (by omega), if_pos (by omega)]
  rfl
section
variable {H0 Hc : Hp} {l p : Addr} {k wd N : Nat}
theorem Loose.but {H' : Hp} (h : Loose H0 Hc l p k wd N) (np : p ≠ l) (e : But l Hc H') : Loose H0 H' l p k wd N := by
  obtain ⟨as, a, b, c⟩ := h
  refine ⟨as, e _ _ np a, b, fun x hx => ?_⟩
  obtain ⟨h1, h2, h3, row, h4, h5⟩ := c x hx
  exact ⟨h1, h2, h3, row, e _ _ h1 h4, h5⟩
/-- a row of them -/
theorem Loose.at (h : Loose H0 Hc l p k wd N) {i c : Nat} (hi : i < k) (hc : c < wd) : ∃ (as : List Addr) (a : Addr) (row : List Nat) (e : Nat), Hc p = some (.lst (as.map V.ref)) ∧ as.length = k ∧ as[i]? = some a ∧ a ≠ l ∧ a ≠ p ∧ H0 a = none ∧ Hc a = some (.lst (row.map nv)) ∧ row.length = wd ∧ row[c]? = some e ∧ e < N := by
  obtain ⟨as, a, b, g⟩ := h
  obtain ⟨x, hx⟩ := lt_get (show i < as.length by omega)
  obtain ⟨h1, h2, h3, row, h4, h5, h6⟩ := g x (List.mem_of_getElem? hx)
  obtain ⟨e, he⟩ := lt_get (show c < row.length by omega)
  exact ⟨as, x, row, e, a, b, hx, h1, h2, h3, h4, h5, he, h6 e (List.mem_of_getElem? he)⟩
/-- one number is written -/
theorem Loose.set (h : Loose H0 Hc l p k wd N) {a : Addr} {row : List Nat} {c x : Nat} (ap : a ≠ p) (ha : Hc a = some (.lst (row.map nv))) (lr : row.length = wd) (hr : ∀ e ∈ row, e < N) (hx : x < N) : Loose H0 (L2.upd Hc a (.lst ((row.map nv).set c (nv x)))) l p k wd N := by
  obtain ⟨as, h1, h2, h3⟩ := h
  refine ⟨as, by rw [upd_ne ap.symm]; exact h1, h2, fun b hb => ?_⟩
  obtain ⟨g1, g2, g3, row', g4, g5, g6⟩ := h3 b hb
  refine ⟨g1, g2, g3, ?_⟩
  by_cases e : b = a
  · subst e
    refine ⟨row.set c x, by rw [upd_same, List.map_set], by rw [List.length_set]; exact lr, fun e he => ?_⟩
    rcases List.mem_or_eq_of_mem_set he with q | q
    · exact hr e q
    · rw [q]; exact hx
  · exact ⟨row', by rw [upd_ne e]; exact g4, g5, g6⟩
/-- one row is put to another place -/
theorem Loose.put {as : List Addr} (h1 : Hc p = some (.lst (as.map V.ref))) (h2 : as.length = k) (h3 : ∀ a ∈ as, a ≠ l ∧ a ≠ p ∧ H0 a = none ∧ ∃ row : List Nat, Hc a = some (.lst (row.map nv)) ∧ row.length = wd ∧ ∀ e ∈ row, e < N) {i j : Nat} {a b : Addr} (ha : a ∈ as) (hb : b ∈ as) :
    Loose H0 (L2.upd (L2.upd Hc p (.lst ((as.map V.ref).set i (.ref a)))) p (.lst (((as.map V.ref).set i (.ref a)).set j (.ref b)))) l p k wd N := by
  refine ⟨(as.set i a).set j b, by rw [upd_same, List.map_set, List.map_set], by rw [List.length_set, List.length_set]; exact h2, fun x hx => ?_⟩
  have hm : x ∈ as := by
    rcases List.mem_or_eq_of_mem_set hx with q | q
    · rcases List.mem_or_eq_of_mem_set q with q | q
      · exact q
      · rw [q]; exact ha
    · rw [q]; exact hb
  obtain ⟨g1, g2, g3, row, g4, g5⟩ := h3 x hm
  exact ⟨g1, g2, g3, row, by rw [upd_ne g2, upd_ne g2]; exact g4, g5⟩
/-- the rows as they stand -/
theorem Loose.rows {K : PySem.W.Frag} (h : Loose H0 Hc l p k wd N) : ∃ rows, RowsL K Hc p rows ∧ rows.length = k ∧ ∀ row ∈ rows, row.length = wd ∧ ∀ e ∈ row, e < N := by
  obtain ⟨as, h1, h2, h3⟩ := h
  have key : ∀ as : List Addr, (∀ a ∈ as, a ≠ l ∧ a ≠ p ∧ H0 a = none ∧ ∃ row : List Nat, Hc a = some (.lst (row.map nv)) ∧ row.length = wd ∧ ∀ e ∈ row, e < N) → ∃ rows : List (List Nat), as.length = rows.length ∧ (∀ (i : Nat) a row, as[i]? = some a → rows[i]? = some row → Hc a = some (.lst (row.map nv))) ∧ ∀ row ∈ rows, row.length = wd ∧ ∀ e ∈ row, e < N := by
    intro as
    induction as with
    | nil => intro _; exact ⟨[], rfl, fun i a row h => by simp at h, fun row h => by cases h⟩
    | cons a as ih =>
      intro h
      obtain ⟨rows, g1, g2, g3⟩ := ih fun x hx => h x (List.mem_cons_of_mem _ hx)
      obtain ⟨_, _, _, row, q1, q2⟩ := h a List.mem_cons_self
      refine ⟨row :: rows, by simp [g1], fun i x r e1 e2 => ?_, fun r hr => ?_⟩
      · cases i with
        | zero => cases e1; cases e2; exact q1
        | succ i => exact g2 i x r e1 e2
      · rcases List.mem_cons.mp hr with q | q
        · rw [q]; exact q2
        · exact g3 r q
  obtain ⟨rows, g1, g2, g3⟩ := key as h3
  exact ⟨rows, ⟨as, SqL.of h1, g1, fun i a row e1 e2 => SqL.of (g2 i a row e1 e2)⟩, by omega, g3⟩
end
abbrev NCh : List Str := ["_law_source_here", "_law_table_here", "_law_rows", "_law_many", "_law_way", "_law_turn", "_law_at", "_law_place", "_law_other", "_law_kept", "_law_row", "_law_letter"]
abbrev teCp (K : PySem.W.Frag) : TE := tCB (rListO K) (tCons (tVar 10) tNil)
abbrev teDr1 : TE := fun σ H Q => (tCons (tVar 0) (tCons (tOp (rI0 fun i j => .int (i + j)) (tVar 3) (tC (.int 1))) tNil)) σ H fun vs H1 => spDraw vs H1 Q E0
def spCh (K : PySem.W.Frag) : Sp := fun vs H Q _ => ∃ l n t rows wd, vs = [.ref l, .ref t] ∧ Src H l n ∧ n + 40 ≤ 1000000 ∧ RowsH H l t rows ∧ Form rows wd ∧ rows.length ≤ 27 ∧
  ∀ p rows' H', But l H H' → RowsL K H' p rows' → Form rows' wd → rows'.length ≤ 28 → Src H' l (n + 40) → Q (.ref p) H'
section
variable {P : Program} {w : World} {K : PySem.W.Frag} {mg : Str → Option Value} {base : Heap}
theorem scCh : FnScope NCh ["_law_source_here", "_law_table_here"] (defScope s_L_changed) := ⟨rfl, rfl, rfl, by decide +kernel, rfl, by decide +kernel, by decide +kernel⟩
theorem ok_changed {f : Addr} {fd : FuncData} {q : Str} (F : FunD K "_law_changed" q (defArgs s_L_changed) (defBody s_L_changed) (defScope s_L_changed) [] [] f fd) (T : Txt P w K mg base)
    (DD : Def P w K mg base CX0 1 "_law_draw" ["_law_source_here", "_law_many"] spDraw) :
    FnOk P w K mg base CX0 2 f fd ["_law_source_here", "_law_table_here"] (spCh K) := by
  have zn : mg "len" = none := T.fr 38 "len" rfl
  have zl : mg "list" = none := T.fr 39 "list" rfl
  have zr : mg "range" = none := T.fr 40 "range" rfl
  refine F.ok scCh (fun vs H Q E h => ?_) (fun cdv A outer s H vs Q E hr h => ?_)
  · obtain ⟨l, n, t, rows, wd, rfl, _⟩ := h
    rfl
  · obtain ⟨l, n, t, rows, wd, rfl, src, n1, RH, FO, t27, fin⟩ := h
    refine ⟨_, PSs.nox (pss_cons (ps_asg (pe_tup (pa_cons (pe_lc (own := [("_law_row", 10)]) (g := gName 10) (te := teCp K) (by rfl) scCh.nd (pi_list (pv 1)) (blkOk_by (own := [("_law_row", 10)]) (N := NCh) (sc := defScope s_L_changed) (by decide +kernel)) (fun _ _ _ _ _ => pg_name (i := 10) scCh.nd rfl (Or.inl rfl)) (fun _ _ _ _ _ => pts_nil)
        (fun _ _ _ _ _ => by exact pe_callTy call_list_of rfl zl boot_list (pa_cons (pv 10) pa_nil))) (pa_cons (pe_callB call_len_seq rfl zn boot_len (pa_cons (pv 1) pa_nil)) pa_nil))) (pg_tup rfl (pgs_cons (pg_name (i := 2) scCh.nd rfl (.inl rfl)) (pgs_cons (pg_name (i := 3) scCh.nd rfl (.inr rfl)) pgs_nil))))
      (pss_cons (ps_set (i := 4) scCh.nd rfl (.inl rfl) (pe_def DD hr pass0 rfl (pa_cons (pv 0) (pa_cons pe_int pa_nil))))
      (pss_cons (ps_for PassesOwn.never rfl (pi_range1 rfl zr (pa_cons (pe_op op_add pe_int (pe_def DD hr pass0 rfl (pa_cons (pv 0) (pa_cons pe_int pa_nil)))) pa_nil)) (pg_name (i := 5) scCh.nd rfl (.inl rfl))
        (pss_cons (ps_par (i := 6) (j := 7) rfl scCh.nd rfl rfl (by decide) rfl rfl (pa_cons (pe_def DD hr pass0 rfl (pa_cons (pv 0) (pa_cons (pv 3) pa_nil))) (pa_cons (pe_def DD hr pass0 rfl (pa_cons (pv 0) (pa_cons (pe_callB call_len_seq rfl zn boot_len (pa_cons (pe_ix ix_list (pv 2) pe_int (fun _ _ => rfl)) pa_nil)) pa_nil))) pa_nil)) (by rfl))
        (pss_cons (ps_set (i := 8) scCh.nd rfl (.inl rfl) (pe_def DD hr pass0 rfl (pa_cons (pv 0) (pa_cons (pv 3) pa_nil))))
        (pss_one (ps_if (pt_cmpR op_lt (pv 4) pe_int (nomark _))
          (pss_one (ps_asg (pv 8) (pg_sub (pe_ix ix_list (pv 2) (pv 6) (fun _ _ => rfl)) (pv 7) set_list)))
          (pss_one (ps_if (pt_cmpR op_eq (pv 4) pe_int (nomark _))
            (pss_cons (ps_set (i := 9) scCh.nd rfl (.inl rfl) (pe_ix ix_list (pe_ix ix_list (pv 2) (pv 6) (fun _ _ => rfl)) (pv 7) (fun _ _ => rfl)))
            (pss_cons (ps_asg (pe_ix ix_list (pe_ix ix_list (pv 2) (pv 8) (fun _ _ => rfl)) (pv 7) (fun _ _ => rfl)) (pg_sub (pe_ix ix_list (pv 2) (pv 6) (fun _ _ => rfl)) (pv 7) set_list))
            (pss_one (ps_asg (pv 9) (pg_sub (pe_ix ix_list (pv 2) (pv 8) (fun _ _ => rfl)) (pv 7) set_list)))))
            (pss_one (ps_if (pt_cmpR op_eq (pv 4) pe_int (nomark _))
              (pss_one (ps_asg (pe_tup (pa_cons (pe_ix ix_list (pv 2) (pv 8) (fun _ _ => rfl)) (pa_cons (pe_ix ix_list (pv 2) (pv 6) (fun _ _ => rfl)) pa_nil))) (pg_tup rfl (pgs_cons (pg_sub (pv 2) (pv 6) set_list) (pgs_cons (pg_sub (pv 2) (pv 8) set_list) pgs_nil)))))
              pss_nil)))))))))
      (pss_cons (ps_if (pt_cmpR op_eq (pv 4) pe_int (nomark _))
        (pss_one (ps_expr (pe_bm PySem.F.plainAttrs_list PySem.F.slot_list_append PySem.F.type_list_append mt_append (pv 2) (pa_cons (pe_lc (own := [("_law_letter", 11)]) (g := gName 11) (te := teDr1) (by rfl) scCh.nd (pi_list (pe_ix ix_list (pv 2) pe_int (fun _ _ => rfl))) (blkOk_by (own := [("_law_letter", 11)]) (N := NCh) (sc := defScope s_L_changed) (by decide +kernel)) (fun _ _ _ _ _ => pg_name (i := 11) scCh.nd rfl (Or.inl rfl)) (fun _ _ _ _ _ => pts_nil)
          (fun _ _ _ _ _ => by exact pe_def DD hr pass0 rfl (pa_cons (pv 0) (pa_cons (pe_op op_add (pv 3) pe_int) pa_nil)))) pa_nil)))) pss_nil)
      (pss_one (ps_ret (pv 2))))))), ?_⟩
    obtain ⟨ntl, as, hT, la, rowT⟩ := RH.ex
    obtain ⟨f1, f2, w1, w6, frow⟩ := id FO
    have sqT : ∀ {H' : Hp}, But l H H' → SqL K H' t (as.map V.ref) := fun b => SqL.of (b _ _ ntl hT)
    refine ⟨_, rfl, t, rfl, ⟨_, SqL.of hT⟩, fun D nD => ?_⟩
    have nDl := src.ne nD
    have nDt : D ≠ t := fun z => by rw [z, hT] at nD; cases nD
    refine lc_list (K := K) (a := t) (xs := as.map V.ref) (fun i Hc => But D H Hc ∧ ∃ bs : List Addr, Hc D = some (.lst (bs.map V.ref)) ∧ bs.length = i ∧ ∀ b ∈ bs, b ≠ D ∧ H b = none ∧ ∃ row : List Nat, Hc b = some (.lst (row.map nv)) ∧ row.length = wd ∧ ∀ e ∈ row, e < rows.length)
      ⟨But.upd, [], upd_same, rfl, fun b h => by cases h⟩ (fun i Hc _ ⟨b, _⟩ => SqL.of (b _ _ nDt.symm hT)) (fun i z Hc hz ⟨bc, bs, hD, lb, pb⟩ => ?_) (fun Hc ⟨bc, bs, hD, lb, pb⟩ => ?_)
    · obtain ⟨a, ha, rfl⟩ := map_get hz
      obtain ⟨row, hrow⟩ := lt_get (show i < rows.length by have := get_lt ha; omega)
      obtain ⟨nal, nat, haH⟩ := rowT i a row ha hrow
      have il := get_lt hrow
      have naD : a ≠ D := fun z => by rw [← z, haH] at nD; cases nD
      have fr := frow row (List.mem_of_getElem? hrow)
      refine ⟨rfl, yesT ⟨_, rfl, a, _, rfl, .inl (SqL.of (bc _ _ naD haH)), fun b nb => ?_⟩⟩
      have nbD : b ≠ D := fun z => by rw [z, hD] at nb; cases nb
      have nbH : H b = none := by
        cases e : H b with
        | none => rfl
        | some o => rw [bc b o nbD e] at nb; cases nb
      refine ⟨_, by rw [upd_ne nbD.symm]; exact hD, by rw [List.length_map, lb]; show i < 16777216; omega, fun c o nc e => by rw [upd_ne nc, upd_ne (ne_of_none (bc c o nc e) nb)]; exact bc c o nc e, bs ++ [b], by rw [upd_same, List.map_append]; rfl, by rw [List.length_append, lb]; rfl, fun c hc => ?_⟩
      rcases List.mem_append.mp hc with q | q
      · obtain ⟨q1, q2, row', q3, q4⟩ := pb c q
        exact ⟨q1, q2, row', by rw [upd_ne q1, upd_ne (ne_of_none q3 nb)]; exact q3, q4⟩
      · rw [List.mem_singleton.mp q]
        exact ⟨nbD, nbH, row, by rw [upd_ne nbD]; exact upd_same, fr⟩
    rw [List.length_map, la] at lb
    have bl : But l H Hc := fun b o nb e => bc b o (ne_of_none e nD) e
    have lo : Loose H Hc l D rows.length wd rows.length := ⟨bs, hD, lb, fun b hb => by
      obtain ⟨q1, q2, q3⟩ := pb b hb
      exact ⟨src.ne q2, q1, q2, q3⟩⟩
    have sc : Src Hc l n := by
      obtain ⟨a, b, c, e, r⟩ := src
      exact ⟨a, b, c, bc _ _ nDl.symm e, r⟩
    clear bc hD pb lb
    refine ⟨_, rfl, t, _, rfl, .inl (sqT bl), ?_⟩
    rw [List.length_map, la]
    refine ⟨(by show 2 ≤ sizeLine; decide), fun T' nT => ?_⟩
    have nTl := sc.ne nT
    refine ⟨T', _, rfl, SqT.of upd_same, rfl, _, _, rfl, _, _, rfl, rfl, ?_⟩
    have sT := same_upd (o := .tup [.ref D, .int (rows.length : Nat)]) nT
    have b2 := bl.trans (But.of sT)
    have lo2 := lo.but nDl (But.of sT)
    have sc2 := sc.same sT
    generalize L2.upd Hc T' (.tup [.ref D, .int (rows.length : Nat)]) = H2 at b2 lo2 sc2 ⊢
    clear bl lo sc sT nT
    refine ⟨_, rfl, l, n, 6, rfl, sc2, by omega, by decide, by decide, fun way H3 y0 y1 b3 sc3 => ?_⟩
    obtain ⟨way, rfl⟩ : ∃ y' : Nat, way = (y' : Nat) := ⟨way.toNat, by omega⟩
    refine ⟨_, rfl, l, n + 1, 3, rfl, sc3, by omega, by decide, by decide, fun tn H4 t0 t1 b4 sc4 => ?_⟩
    obtain ⟨tn, rfl⟩ : ∃ y' : Nat, tn = (y' : Nat) := ⟨tn.toNat, by omega⟩
    have lo4 := (lo2.but nDl b3).but nDl b4
    have b04 := (b2.trans b3).trans b4
    clear b2 lo2 sc2 b3 sc3 b4
    refine ⟨_, _, rfl, rfl, ((1 + tn : Nat) : Int), by push_cast; rfl, by omega, by omega, ?_⟩
    refine for_range (lo := 0) (n := 1 + tn) (fun i σ Hx => ∃ v5 v6 v7 v8 v9 : Option V, σ = [some (.ref l), some (.ref t), some (.ref D), some (nv rows.length), some (nv way), v5, v6, v7, v8, v9, none, none] ∧ But l H Hx ∧ Src Hx l (n + 2 + 3 * i) ∧ Loose H Hx l D rows.length wd rows.length)
      ⟨_, _, _, _, _, rfl, b04, sc4, lo4⟩ (fun i σ Hx hi ⟨v5, v6, v7, v8, v9, eσ, bx, sx, lx⟩ => ?_) (fun σ Hx ⟨v5, v6, v7, v8, v9, eσ, bx, sx, lx⟩ => ?_)
    · subst eσ
      rw [Int.zero_add]
      clear b04 sc4 lo4
      refine ⟨_, rfl, _, rfl, l, n + 2 + 3 * i, (rows.length : Nat), rfl, sx, by omega, by omega, by omega, fun at_ H5 a0 a1 b5 sc5 => ?_⟩
      obtain ⟨at_, rfl⟩ : ∃ y' : Nat, at_ = (y' : Nat) := ⟨at_.toNat, by omega⟩
      have b05 := bx.trans b5
      have lo5 := lx.but nDl b5
      obtain ⟨as5, x5, row5, e5, hD5, l5, hx5, _, _, _, hr5, lr5, _⟩ := lo5.at (i := 0) (c := 0) (by omega) (by omega)
      refine ⟨_, rfl, _, rfl, D, _, _, .ref x5, rfl, rfl, SqL.of hD5, atI_nat (j := 0) (get_map hx5), x5, _, rfl, .inl (SqL.of hr5), ?_⟩
      rw [List.length_map, lr5]
      refine ⟨l, n + 2 + 3 * i + 1, (wd : Nat), rfl, sc5, by omega, by omega, by omega, fun pl H6 p0 p1 b6 sc6 => ?_⟩
      obtain ⟨pl, rfl⟩ : ∃ y' : Nat, pl = (y' : Nat) := ⟨pl.toNat, by omega⟩
      refine ⟨_, _, rfl, _, rfl, _, rfl, l, n + 2 + 3 * i + 1 + 1, (rows.length : Nat), rfl, sc6, by omega, by omega, by omega, fun ot H7 o0 o1 b7 sc7 => ?_⟩
      obtain ⟨ot, rfl⟩ : ∃ y' : Nat, ot = (y' : Nat) := ⟨ot.toNat, by omega⟩
      have b07 := (b05.trans b6).trans b7
      have lo7 := (lo5.but nDl b6).but nDl b7
      clear hD5 l5 hx5 hr5 lr5 b05 lo5 b5 b6 b7 sc5 sc6 bx sx lx
      have sc7 : Src H7 l (n + 2 + 3 * (i + 1)) := sc7.up (by omega)
      have al : at_ < rows.length := by omega
      have ol : ot < rows.length := by omega
      have pw : pl < wd := by omega
      obtain ⟨as7, xa, ra, ea, hD, ls, hxa, nla, npa, nHa, hra, lra, hea, eaN⟩ := lo7.at al pw
      obtain ⟨as8, xo, ro, eo, hD8, _, hxo, nlo, npo, nHo, hro, lro, heo, eoN⟩ := lo7.at ol pw
      rw [hD] at hD8
      have e8 : as8 = as7 := by
        have := Option.some.inj hD8
        have z : as7.map V.ref = as8.map V.ref := by injection this
        exact (List.map_inj_right (fun a b h => by injection h)).mp z.symm
      subst e8
      have raN : ∀ e ∈ ra, e < rows.length := by
        obtain ⟨as', h1, _, h3⟩ := lo7
        rw [hD] at h1
        have e8 : as' = as8 := by
          have := Option.some.inj h1
          have z : as8.map V.ref = as'.map V.ref := by injection this
          exact (List.map_inj_right (fun a b h => by injection h)).mp z.symm
        subst e8
        obtain ⟨_, _, _, row, g4, _, g6⟩ := h3 xa (List.mem_of_getElem? hxa)
        rw [hra] at g4
        have z : ra.map nv = row.map nv := by have := Option.some.inj g4; injection this
        have : ra = row := (List.map_inj_right (fun a b h => by injection h with h; omega)).mp z
        rw [this]
        exact g6
      refine ⟨_, rfl, _, _, rfl, rfl, _, rfl, ?_⟩
      by_cases c3 : way < 3
      · refine ifT (decide_eq_true (by omega)) ⟨_, rfl, _, rfl, _, rfl, D, _, _, .ref xa, rfl, rfl, SqL.of hD, atI_nat (get_map hxa), _, rfl, xa, _, _, pl, rfl, rfl, hra, ixN_nat (by rw [List.length_map]; omega), ?_⟩
        exact ⟨_, _, _, _, _, rfl, fun b o nb e => by rw [upd_ne (ne_of_none e nHa)]; exact b07 b o nb e, sc7.upd nla, lo7.set npa hra lra raN ol⟩
      refine ifF (decide_eq_false (by omega)) ⟨_, rfl, rfl, _, rfl, ?_⟩
      by_cases c4 : way = 3
      · refine ifT (by subst c4; rfl) ⟨_, rfl, _, rfl, D, _, _, .ref xa, rfl, rfl, SqL.of hD, atI_nat (get_map hxa), _, rfl, xa, _, _, nv ea, rfl, rfl, SqL.of hra, atI_nat (get_map hea), ?_⟩
        refine ⟨_, rfl, _, rfl, D, _, _, .ref xo, rfl, rfl, SqL.of hD, atI_nat (get_map hxo), _, rfl, xo, _, _, nv eo, rfl, rfl, SqL.of hro, atI_nat (get_map heo), ?_⟩
        refine ⟨_, rfl, _, rfl, D, _, _, .ref xa, rfl, rfl, SqL.of hD, atI_nat (get_map hxa), _, rfl, xa, _, _, pl, rfl, rfl, hra, ixN_nat (by rw [List.length_map]; omega), ?_⟩
        have lo8 := lo7.set (c := pl) npa hra lra raN eoN
        have sc8 := sc7.upd (o := .lst ((ra.map nv).set pl (nv eo))) nla
        have b08 : But l H (L2.upd H7 xa (.lst ((ra.map nv).set pl (nv eo)))) := fun b o nb e => by rw [upd_ne (ne_of_none e nHa)]; exact b07 b o nb e
        generalize L2.upd H7 xa (.lst ((ra.map nv).set pl (nv eo))) = H8 at lo8 sc8 b08 ⊢
        obtain ⟨as9, xb, rb, eb, hD9, l9, hxb, nlb, npb, nHb, hrb, lrb, heb, ebN⟩ := lo8.at ol pw
        have rbN : ∀ e ∈ rb, e < rows.length := by
          obtain ⟨as', h1, _, h3⟩ := lo8
          rw [hD9] at h1
          have e8 : as' = as9 := by
            have := Option.some.inj h1
            have z : as9.map V.ref = as'.map V.ref := by injection this
            exact (List.map_inj_right (fun a b h => by injection h)).mp z.symm
          subst e8
          obtain ⟨_, _, _, row, g4, _, g6⟩ := h3 xb (List.mem_of_getElem? hxb)
          rw [hrb] at g4
          have z : rb.map nv = row.map nv := by have := Option.some.inj g4; injection this
          have : rb = row := (List.map_inj_right (fun a b h => by injection h with h; omega)).mp z
          rw [this]
          exact g6
        refine ⟨_, rfl, _, rfl, _, rfl, D, _, _, .ref xb, rfl, rfl, SqL.of hD9, atI_nat (get_map hxb), _, rfl, xb, _, _, pl, rfl, rfl, hrb, ixN_nat (by rw [List.length_map]; omega), ?_⟩
        exact ⟨_, _, _, _, _, rfl, fun b o nb e => by rw [upd_ne (ne_of_none e nHb)]; exact b08 b o nb e, sc8.upd nlb, lo8.set npb hrb lrb rbN eaN⟩
      refine ifF (by simp [eqV]; omega) ⟨_, rfl, rfl, _, rfl, ?_⟩
      by_cases c5 : way = 4
      case neg => exact ifF (by simp [eqV]; omega) ⟨_, _, _, _, _, rfl, b07, sc7, lo7⟩
      refine ifT (by subst c5; rfl) ?_
      refine ⟨_, rfl, _, rfl, D, _, _, .ref xo, rfl, rfl, SqL.of hD, atI_nat (get_map hxo), _, rfl, _, rfl, D, _, _, .ref xa, rfl, rfl, SqL.of hD, atI_nat (get_map hxa), (by show 2 ≤ sizeLine; decide), fun T7 nT7 => ?_⟩
      have nT7l := sc7.ne nT7
      have sT := same_upd (o := .tup [.ref xo, .ref xa]) nT7
      have hT7 : L2.upd H7 T7 (.tup [.ref xo, .ref xa]) T7 = some (.tup [.ref xo, .ref xa]) := upd_same
      have lo8 := lo7.but nDl (But.of sT)
      have sc8 := sc7.same sT
      have b08 := b07.trans (But.of sT)
      have hD8 := sT _ _ hD
      generalize L2.upd H7 T7 (.tup [.ref xo, .ref xa]) = H8 at lo8 sc8 b08 hD8 hT7 ⊢
      obtain ⟨as', h1, h2, h3⟩ := lo8
      rw [hD8] at h1
      have e8 : as' = as8 := by
        have := Option.some.inj h1
        have z : as8.map V.ref = as'.map V.ref := by injection this
        exact (List.map_inj_right (fun a b h => by injection h)).mp z.symm
      subst e8
      have nDH : H D = none := nD
      refine ⟨T7, _, rfl, SqT.of hT7, rfl, _, _, rfl, _, rfl, _, rfl, D, _, _, at_, rfl, rfl, hD8, ixN_nat (by rw [List.length_map]; omega), _, _, rfl, _, rfl, _, rfl, D, _, _, ot, rfl, rfl, upd_same, ixN_nat (by rw [List.length_set, List.length_map]; omega), rfl, ?_⟩
      exact ⟨_, _, _, _, _, rfl, fun b o nb e => by rw [upd_ne (ne_of_none e nDH), upd_ne (ne_of_none e nDH)]; exact b08 b o nb e, (sc8.upd nDl).upd nDl, Loose.put hD8 h2 h3 (List.mem_of_getElem? hxo) (List.mem_of_getElem? hxa)⟩
    subst eσ
    have sx : Src Hx l (n + 11) := sx.up (by omega)
    refine ⟨_, rfl, rfl, _, rfl, ?_⟩
    by_cases c5 : way = 5
    case neg =>
      refine ifF (by simp [eqV]; omega) ⟨_, rfl, ?_⟩
      obtain ⟨rows', r1, r2, r3⟩ := lx.rows (K := K)
      exact fin D rows' Hx bx r1 ⟨by omega, by omega, w1, w6, fun row hr => by rw [r2]; exact r3 row hr⟩ (by omega) (sx.up (by omega))
    refine ifT (by subst c5; rfl) ?_
    obtain ⟨asx, x0, row0, _, hDx, lax, hx0, nl0, np0, nH0, hr0, lr0, _⟩ := lx.at (i := 0) (c := 0) (by omega) (by omega)
    refine ⟨_, rfl, .inl ⟨rfl, _, SqL.of hDx⟩, _, rfl, D, _, _, .ref x0, rfl, rfl, SqL.of hDx, atI_nat (j := 0) (get_map hx0), x0, rfl, ⟨_, SqL.of hr0⟩, fun B nB => ?_⟩
    have nBl := sx.ne nB
    have nBD : B ≠ D := fun z => by rw [z, hDx] at nB; cases nB
    have nB0 : x0 ≠ B := fun z => by rw [← z, hr0] at nB; cases nB
    refine lc_list (K := K) (a := x0) (xs := row0.map nv) (fun c He => (∀ b o, b ≠ l → b ≠ B → Hx b = some o → He b = some o) ∧ Src He l (n + 11 + c) ∧ ∃ acc : List Nat, He B = some (.lst (acc.map nv)) ∧ acc.length = c ∧ ∀ e ∈ acc, e < rows.length + 1)
      ⟨fun b o _ nb e => by rw [upd_ne nb]; exact e, sx.upd nBl, [], upd_same, rfl, fun e he => by cases he⟩ (fun c He _ ⟨be, _⟩ => SqL.of (be _ _ nl0 nB0 hr0)) (fun c z He hz ⟨be, se, acc, hB, lacc, oacc⟩ => ?_) (fun He ⟨be, se, acc, hB, lacc, oacc⟩ => ?_)
    · obtain ⟨x, hx, rfl⟩ := map_get hz
      have cl := get_lt hx
      refine ⟨rfl, yesT ?_⟩
      refine ⟨_, rfl, _, rfl, _, _, rfl, rfl, l, n + 11 + c, ((rows.length + 1 : Nat) : Int), by push_cast; rfl, se, by omega, by omega, by omega, fun y H6 y0 y1 b6 src6 => ?_⟩
      obtain ⟨y, rfl⟩ : ∃ y' : Nat, y = (y' : Nat) := ⟨y.toNat, by omega⟩
      refine ⟨_, b6 _ _ nBl hB, by rw [List.length_map, lacc]; show c < 16777216; omega, fun b o nl nb e => by rw [upd_ne nb]; exact b6 _ _ nl (be b o nl nb e), src6.upd nBl, acc ++ [y], by rw [upd_same, List.map_append]; rfl, by rw [List.length_append, lacc]; rfl, fun e he => ?_⟩
      rcases List.mem_append.mp he with h | h
      · exact oacc e h
      · rw [List.mem_singleton.mp h]
        omega
    rw [List.length_map, lr0] at lacc
    rw [List.length_map, lr0] at se
    have hDe := be _ _ nDl nBD.symm hDx
    refine ⟨D, _, _, rfl, rfl, hDe, by rw [List.length_map, lax]; show rows.length < 16777216; omega, _, rfl, ?_⟩
    have nBH : H B = none := bx.nil nBl nB
    obtain ⟨asy, h1, h2, h3⟩ := lx
    have lz : Loose H (L2.upd He D (.lst (asx.map V.ref ++ [.ref B]))) l D (rows.length + 1) wd (rows.length + 1) := by
      rw [hDx] at h1
      have e8 : asy = asx := by
        have := Option.some.inj h1
        have z : asx.map V.ref = asy.map V.ref := by injection this
        exact (List.map_inj_right (fun a b h => by injection h)).mp z.symm
      subst e8
      refine ⟨asy ++ [B], by rw [upd_same, List.map_append]; rfl, by rw [List.length_append, h2]; rfl, fun a ha => ?_⟩
      rcases List.mem_append.mp ha with q | q
      · obtain ⟨g1, g2, g3, row, g4, g5, g6⟩ := h3 a q
        exact ⟨g1, g2, g3, row, by rw [upd_ne g2]; exact be _ _ g1 (ne_of_none g4 nB) g4, g5, fun e he => by have := g6 e he; omega⟩
      · rw [List.mem_singleton.mp q]
        exact ⟨nBl, nBD, nBH, acc, by rw [upd_ne nBD]; exact hB, lacc, oacc⟩
    obtain ⟨rows', r1, r2, r3⟩ := lz.rows (K := K)
    refine fin D rows' _ (fun b o nb e => ?_) r1 ⟨by omega, by omega, w1, w6, fun row hr => by rw [r2]; exact r3 row hr⟩ (by omega) ((se.up (by omega)).upd nDl)
    rw [upd_ne (ne_of_none e nD)]
    have := bx b o nb e
    exact be b o nb (ne_of_none this nB) this
end
end K12

set_option Elab.async false
set_option linter.all false
set_option maxRecDepth 100000
set_option maxHeartbeats 8000000
namespace K12
open PySem PySem.Spec PyProof.Rows L2 Lf
def Flat (v : V) : Prop := v = .non ∨ (∃ i, v = .int i) ∨ (∃ b, v = .bl b) ∨ ∃ s, v = .str s
/-- what may stand as a row -/
inductive Rw (H : Hp) (l : Addr) : V → Prop
  | lst {a : Addr} {xs : List V} (ne : a ≠ l) (h : H a = some (.lst xs)) (ok : ∀ v ∈ xs, Flat v) : Rw H l (.ref a)
  | dct {a : Addr} (ne : a ≠ l) (h : H a = some (.dK [])) : Rw H l (.ref a)
  | one {v : V} (h : Flat v) : Rw H l v
theorem Rw.but {H H' : Hp} {l : Addr} {v : V} (h : Rw H l v) (e : But l H H') : Rw H' l v := by
  cases h with
  | lst ne h ok => exact .lst ne (e _ _ ne h) ok
  | dct ne h => exact .dct ne (e _ _ ne h)
  | one h => exact .one h
theorem Rw.same {H H' : Hp} {l : Addr} {v : V} (h : Rw H l v) (e : Same H H') : Rw H' l v := h.but (But.of e)
theorem Flat.num {K : PySem.W.Frag} {H : Hp} {v : V} (h : Flat v) : ∃ o, NumK K H v o := by
  rcases h with rfl | ⟨i, rfl⟩ | ⟨b, rfl⟩ | ⟨s, rfl⟩
  · exact ⟨_, .oth (.base .non) (show kitB "NoneType" "int" = some false by decide +kernel)⟩
  · exact ⟨_, .int i⟩
  · exact ⟨_, .bl b⟩
  · exact ⟨_, .oth (.base (.str s)) (show kitB "str" "int" = some false by decide +kernel)⟩
theorem paired_ex {α β : Type} {R : α → β → Prop} : ∀ {xs : List α}, (∀ x ∈ xs, ∃ y, R x y) → ∃ ys, Paired R xs ys
  | [], _ => ⟨[], .nil⟩
  | x :: xs, h => by
    obtain ⟨y, hy⟩ := h x List.mem_cons_self
    obtain ⟨ys, p⟩ := paired_ex (xs := xs) fun z hz => h z (List.mem_cons_of_mem _ hz)
    exact ⟨y :: ys, .cons hy p⟩
theorem Rw.row {K : PySem.W.Frag} {H : Hp} {l : Addr} {v : V} (h : Rw H l v) : ∃ r, RowV K H v r := by
  cases h with
  | lst ne h ok =>
    obtain ⟨os, p⟩ := paired_ex fun x hx => (ok x hx).num (K := K) (H := H)
    exact ⟨some os, _, .lst (SqL.of h), p⟩
  | dct ne h => exact ⟨none, .oth (.base (.dK h)) (show kitB "dict" "list" = some false by decide +kernel) (show kitB "dict" "tuple" = some false by decide +kernel)⟩
  | one h =>
    rcases h with rfl | ⟨i, rfl⟩ | ⟨b, rfl⟩ | ⟨s, rfl⟩
    · exact ⟨none, .oth (.base .non) (show kitB "NoneType" "list" = some false by decide +kernel) (show kitB "NoneType" "tuple" = some false by decide +kernel)⟩
    · exact ⟨none, .oth (.base (.int i)) (show kitB "int" "list" = some false by decide +kernel) (show kitB "int" "tuple" = some false by decide +kernel)⟩
    · exact ⟨none, .oth (.base (.bl b)) (show kitB "bool" "list" = some false by decide +kernel) (show kitB "bool" "tuple" = some false by decide +kernel)⟩
    · exact ⟨none, .oth (.base (.str s)) (show kitB "str" "list" = some false by decide +kernel) (show kitB "str" "tuple" = some false by decide +kernel)⟩
theorem tab_of {K : PySem.W.Frag} {H : Hp} {l a : Addr} {vs : List V} (h : SqL K H a vs ∨ SqT K H a vs) (p : ∀ v ∈ vs, Rw H l v) : ∃ t, TabV K H (.ref a) t := by
  obtain ⟨rs, q⟩ := paired_ex fun x hx => (p x hx).row (K := K)
  rcases h with h | h
  · exact ⟨some rs, vs, .lst h, q⟩
  · exact ⟨some rs, vs, .tup h, q⟩
theorem cut_mem {xs : List V} {lo hi : Option Int} {v : V} (h : v ∈ cutV xs lo hi) : v ∈ xs := by
  unfold cutV at h
  exact List.mem_of_mem_drop (List.mem_of_mem_take h)
theorem cut_len {xs : List V} {lo hi : Option Int} : (cutV xs lo hi).length ≤ xs.length := by
  unfold cutV
  rw [List.length_take, List.length_drop]
  omega
theorem rep_mem {n : Nat} {xs : List V} {v : V} (h : v ∈ (List.replicate n xs).flatten) : v ∈ xs := by
  obtain ⟨l, h1, h2⟩ := List.mem_flatten.mp h
  rw [(List.mem_replicate.mp h1).2] at h2
  exact h2
/-- a term that makes a row, from H0 on -/
def GE (σ : L2.St) (H0 : Hp) (l : Addr) (X : TE) : Prop := ∀ (H : Hp) (Q : V → Hp → Prop), Same H0 H → (∀ v H', Same H H' → Rw H' l v → Q v H') → X σ H Q
def GA (σ : L2.St) (H0 : Hp) (l : Addr) (n : Nat) (A : TA) : Prop := ∀ (H : Hp) (Q : List V → Hp → Prop), Same H0 H → (∀ vs H', Same H H' → vs.length = n → (∀ v ∈ vs, Rw H' l v) → Q vs H') → A σ H Q
section
variable {K : PySem.W.Frag} {σ : L2.St} {H0 : Hp} {l D a tt : Addr} {n at_ : Nat} {vs ts : List V} {row : List Nat}
theorem GA.nil : GA σ H0 l 0 tNil := fun H Q _ k => k [] H (L2.Same.refl _) rfl (fun v h => by cases h)
theorem GA.cons {X : TE} {A : TA} {m : Nat} (hx : GE σ H0 l X) (ha : GA σ H0 l m A) : GA σ H0 l (m + 1) (tCons X A) := fun H Q s k =>
  hx H _ s fun v H1 s1 r1 => ha H1 _ (s.trans s1) fun vs H2 s2 lv r2 => k (v :: vs) H2 (s1.trans s2) (by rw [List.length_cons, lv]) fun u hu => by
    rcases List.mem_cons.mp hu with q | q
    · rw [q]; exact r1.same s2
    · exact r2 u q
/-- a list of rows -/
theorem GA.list {A : TA} {m : Nat} (ha : GA σ H0 l m A) (hm : m ≤ 1000) (src : Src H0 l n) (H : Hp) (Q : V → Hp → Prop) (s : Same H0 H) (k : ∀ p vs H', Same H H' → H p = none → H' p = some (.lst vs) → vs.length = m → (∀ v ∈ vs, Rw H' l v) → Q (.ref p) H') : tLst A σ H Q :=
  ha H _ s fun vs H1 s1 lv r => ⟨by rw [lv]; show m ≤ 16777216; omega, fun p np => k p vs _ (s1.trans (same_upd np)) (nil_of s1 np) upd_same lv fun v hv => (r v hv).same (same_upd np)⟩
theorem ge_flat {v : V} (h : Flat v) : GE σ H0 l (tC v) := fun H Q s k => k v H (L2.Same.refl _) (.one h)
theorem ge_nil (src : Src H0 l n) : GE σ H0 l (tLst tNil) := fun H Q s k => ⟨by show 0 ≤ 16777216; omega, fun p np => k _ _ (same_upd np) (.lst ((src.same s).ne np) upd_same fun v h => by cases h)⟩
theorem ge_dict (src : Src H0 l n) : GE σ H0 l tDNewK := fun H Q s k => fun p np => k _ _ (same_upd np) (.dct ((src.same s).ne np) upd_same)
abbrev teRw (K : PySem.W.Frag) : TE := tOp (rIxL K) (tVar 2) (tVar 3)
/-- X + rows[at][1:], X a list of one -/
abbrev teTl (K : PySem.W.Frag) (X : TE) : TE := tOp (rCatL K) (tLst (tCons X tNil)) (tSl (rSlL K) (teRw K) (tPart (tC (.int 1))) tNoPart)
theorem row_flat {row : List Nat} : ∀ v ∈ row.map nv, Flat v := fun v hv => by
  obtain ⟨i, _, rfl⟩ := List.mem_map.mp hv
  exact .inr (.inl ⟨_, rfl⟩)
/-- what stands where -/
structure Cg (K : PySem.W.Frag) (σ : L2.St) (H0 : Hp) (l D a tt : Addr) (n at_ : Nat) (vs ts : List V) (row : List Nat) : Prop where
  src : Src H0 l n
  s1 : σ[1]? = some (some (.ref tt))
  s2 : σ[2]? = some (some (.ref D))
  s3 : σ[3]? = some (some (nv at_))
  t : H0 tt = some (.lst ts)
  d : H0 D = some (.lst vs)
  i : vs[at_]? = some (.ref a)
  r : H0 a = some (.lst (row.map nv))
  z : row.length ≤ 6
theorem Cg.gr (c : Cg K σ H0 l D a tt n at_ vs ts row) {H : Hp} {Q : V → Hp → Prop} (s : Same H0 H) (k : Q (.ref a) H) : teRw K σ H Q :=
  ⟨_, c.s2, _, c.s3, D, vs, _, .ref a, rfl, rfl, SqL.of (s _ _ c.d), atI_nat c.i, k⟩
theorem Cg.tail (c : Cg K σ H0 l D a tt n at_ vs ts row) {X : TE} {v : V} (f : Flat v) (hx : ∀ H (Q : V → Hp → Prop), Same H0 H → Q v H → X σ H Q) : GE σ H0 l (teTl K X) := fun H Q s k =>
  hx H _ s ⟨by show 1 ≤ 16777216; omega, fun p np => c.gr (s.trans (same_upd np)) ⟨1, rfl, a, row.map nv, rfl, SqL.of ((s.trans (same_upd np)) _ _ c.r), fun q nq => ⟨p, q, _, _, rfl, rfl, SqL.of (same_upd nq _ _ upd_same), SqL.of upd_same, (by
    have := cut_len (xs := row.map nv) (lo := some 1) (hi := none)
    rw [List.length_map] at this
    have := c.z
    show 1 + _ ≤ 16777216
    omega), fun N nN => k _ _ (((same_upd np).trans (same_upd nq)).trans (same_upd nN)) (.lst ((((c.src.same s).same (same_upd np)).same (same_upd nq)).ne nN) upd_same fun u hu => by
      rcases List.mem_append.mp hu with h | h
      · rw [List.mem_singleton.mp h]; exact f
      · exact row_flat u (cut_mem h))⟩⟩⟩
theorem Cg.more (c : Cg K σ H0 l D a tt n at_ vs ts row) : GE σ H0 l (tOp (rCatL K) (teRw K) (tLst (tCons (tC (.int 0)) tNil))) := fun H Q s k =>
  c.gr s ⟨by show 1 ≤ 16777216; omega, fun p np => ⟨a, p, _, _, rfl, rfl, SqL.of ((s.trans (same_upd np)) _ _ c.r), SqL.of upd_same, (by have := c.z; rw [List.length_map]; show row.length + 1 ≤ 16777216; omega), fun N nN => k _ _ ((same_upd np).trans (same_upd nN)) (.lst (((c.src.same s).same (same_upd np)).ne nN) upd_same fun u hu => by
    rcases List.mem_append.mp hu with h | h
    · exact row_flat u h
    · rw [List.mem_singleton.mp h]; exact .inr (.inl ⟨_, rfl⟩))⟩⟩
theorem Cg.cut (c : Cg K σ H0 l D a tt n at_ vs ts row) : GE σ H0 l (tSl (rSlL K) (teRw K) tNoPart (tPart (tUn (rU fun i => .int (-i)) (tC (.int 1))))) := fun H Q s k =>
  c.gr s ⟨1, rfl, _, rfl, a, row.map nv, rfl, SqL.of (s _ _ c.r), fun q nq => k _ _ (same_upd nq) (.lst ((c.src.same s).ne nq) upd_same fun u hu => row_flat u (cut_mem hu))⟩
theorem Cg.nones (c : Cg K σ H0 l D a tt n at_ vs ts row) : GE σ H0 l (tOp rRep (tLst (tCons (tC .non) tNil)) (tCB (rLenS K) (tCons (teRw K) tNil))) := fun H Q s k =>
  ⟨by show 1 ≤ 16777216; omega, fun p np => c.gr (s.trans (same_upd np)) ⟨a, _, rfl, .inl (SqL.of ((s.trans (same_upd np)) _ _ c.r)), by
    have := c.z
    rw [List.length_map]
    exact ⟨p, _, _, rfl, rfl, upd_same, by omega, by omega, by rw [Int.toNat_natCast]; show 1 * row.length ≤ 16777216; omega, fun q nq => k _ _ ((same_upd np).trans (same_upd nq)) (.lst (((c.src.same s).same (same_upd np)).ne nq) upd_same fun u hu => by
      rw [List.mem_singleton.mp (rep_mem hu)]; exact .inl rfl)⟩⟩⟩
theorem ge_zeros (src : Src H0 l n) {m : Nat} (hm : m ≤ 20) : GE σ H0 l (tOp rRep (tLst (tCons (tC (.int 0)) tNil)) (tC (.int (m : Nat)))) := fun H Q s k =>
  ⟨by show 1 ≤ 16777216; omega, fun p np => ⟨p, _, _, rfl, rfl, upd_same, by omega, by omega, by rw [Int.toNat_natCast]; show 1 * m ≤ 16777216; omega, fun q nq => k _ _ ((same_upd np).trans (same_upd nq)) (.lst (((src.same s).same (same_upd np)).ne nq) upd_same fun u hu => by
    rw [List.mem_singleton.mp (rep_mem hu)]; exact .inr (.inl ⟨_, rfl⟩))⟩⟩
end
theorem seq_set {A : TA} {i : Nat} {u : TS} {Ds : Ends} {σ : L2.St} {H : Hp} (h : tLst A σ H fun x H1 => gName i x σ H1 fun σ2 H2 => u Ds σ2 H2) : tSeq (tAsg (tLst A) (gName i)) u Ds σ H := h
abbrev NSp : List Str := ["_law_source_here", "_law_table_here", "_law_rows", "_law_at", "_law_bad", "_law_row"]
abbrev teCs (K : PySem.W.Frag) : TE := tCB (rListO K) (tCons (tVar 5) tNil)
def spSpoilt (K : PySem.W.Frag) : Sp := fun vs H Q _ => ∃ l n t rows wd, vs = [.ref l, .ref t] ∧ Src H l n ∧ n + 40 ≤ 1000000 ∧ RowsH H l t rows ∧ Form rows wd ∧ rows.length ≤ 27 ∧
  ∀ x tb H', But l H H' → TabV K H' x tb → Src H' l (n + 40) → Q x H'
section
variable {P : Program} {w : World} {K : PySem.W.Frag} {mg : Str → Option Value} {base : Heap}
theorem scSp : FnScope NSp ["_law_source_here", "_law_table_here"] (defScope s_L_spoilt) := ⟨rfl, rfl, rfl, by decide +kernel, rfl, by decide +kernel, by decide +kernel⟩
theorem ok_spoilt {f : Addr} {fd : FuncData} {q : Str} (F : FunD K "_law_spoilt" q (defArgs s_L_spoilt) (defBody s_L_spoilt) (defScope s_L_spoilt) [] [] f fd) (T : Txt P w K mg base)
    (DD : Def P w K mg base CX0 1 "_law_draw" ["_law_source_here", "_law_many"] spDraw) (DP : Def P w K mg base CX0 2 "_law_pick" ["_law_source_here", "_law_some"] spPick) :
    FnOk P w K mg base CX0 3 f fd ["_law_source_here", "_law_table_here"] (spSpoilt K) := by
  have zn : mg "len" = none := T.fr 38 "len" rfl
  have zl : mg "list" = none := T.fr 39 "list" rfl
  have zt : mg "tuple" = none := T.fr 41 "tuple" rfl
  refine F.ok scSp (fun vs H Q E h => ?_) (fun cdv A outer s H vs Q E hr h => ?_)
  · obtain ⟨l, n, t, rows, wd, rfl, _⟩ := h
    rfl
  · obtain ⟨l, n, t, rows, wd, rfl, src, n1, RH, FO, t27, fin⟩ := h
    have R1 : Room 1 _ := hr.mono (by decide)
    refine ⟨_, PSs.nox (pss_cons (ps_par (i := 2) (j := 3) rfl scSp.nd rfl rfl (by decide) rfl rfl (pa_cons (pe_lc (own := [("_law_row", 5)]) (g := gName 5) (te := teCs K) (by rfl) scSp.nd (pi_list (pv 1)) (blkOk_by (own := [("_law_row", 5)]) (N := NSp) (sc := defScope s_L_spoilt) (by decide +kernel)) (fun _ _ _ _ _ => pg_name (i := 5) scSp.nd rfl (Or.inl rfl)) (fun _ _ _ _ _ => pts_nil)
        (fun _ _ _ _ _ => by exact pe_callTy call_list_of rfl zl boot_list (pa_cons (pv 5) pa_nil))) (pa_cons (pe_def DD R1 pass0 rfl (pa_cons (pv 0) (pa_cons (pe_callB call_len_seq rfl zn boot_len (pa_cons (pv 1) pa_nil)) pa_nil))) pa_nil)) (by rfl))
      (pss_cons (ps_set (i := 4) scSp.nd rfl (.inl rfl) (pe_lst (pa_cons (pe_op op_catL (pe_ix ix_list (pv 2) (pv 3) (fun _ _ => rfl)) (pe_lst (pa_cons pe_int pa_nil))) (pa_cons (pe_lst pa_nil) (pa_cons pe_non (pa_cons pe_int (pa_cons pe_str (pa_cons (pe_slice sl_list (pe_ix ix_list (pv 2) (pv 3) (fun _ _ => rfl)) po_none (po_some (pe_un un_neg pe_int))) (pa_cons pe_dnewK
          (pa_cons (pe_op op_catL (pe_lst (pa_cons (pe_callB call_len_seq rfl zn boot_len (pa_cons (pv 1) pa_nil)) pa_nil)) (pe_slice sl_list (pe_ix ix_list (pv 2) (pv 3) (fun _ _ => rfl)) (po_some pe_int) po_none))
          (pa_cons (pe_op op_catL (pe_lst (pa_cons pe_bl pa_nil)) (pe_slice sl_list (pe_ix ix_list (pv 2) (pv 3) (fun _ _ => rfl)) (po_some pe_int) po_none)) pa_nil)))))))))))
      (pss_cons (ps_set (i := 4) scSp.nd rfl (.inl rfl) (pe_op op_catL (pv 4) (pe_lst (pa_cons (pe_op op_catL (pe_lst (pa_cons (pe_un un_neg pe_int) pa_nil)) (pe_slice sl_list (pe_ix ix_list (pv 2) (pv 3) (fun _ _ => rfl)) (po_some pe_int) po_none))
          (pa_cons (pe_op op_catL (pe_lst (pa_cons pe_str pa_nil)) (pe_slice sl_list (pe_ix ix_list (pv 2) (pv 3) (fun _ _ => rfl)) (po_some pe_int) po_none))
          (pa_cons (pe_op op_rep (pe_lst (pa_cons pe_non pa_nil)) (pe_callB call_len_seq rfl zn boot_len (pa_cons (pe_ix ix_list (pv 2) (pv 3) (fun _ _ => rfl)) pa_nil)))
          (pa_cons (pe_op op_rep (pe_lst (pa_cons pe_int pa_nil)) pe_int) pa_nil)))))))
      (pss_cons (ps_asg (pe_def DP hr pass0 rfl (pa_cons (pv 0) (pa_cons (pv 4) pa_nil))) (pg_sub (pv 2) (pv 3) set_list))
      (pss_one (ps_ret (pe_def DP hr pass0 rfl (pa_cons (pv 0) (pa_cons (pe_lst (pa_cons (pv 2) (pa_cons (pe_callTy call_tuple_of rfl zt PyProof.Rows.boot_tuple (pa_cons (pv 2) pa_nil)) (pa_cons (pe_op op_catL (pv 2) (pe_lst (pa_cons (pe_op op_rep (pe_lst (pa_cons pe_int pa_nil)) pe_int) pa_nil))) pa_nil)))) pa_nil))))))))), ?_⟩
    obtain ⟨ntl, as, hT, la, rowT⟩ := RH.ex
    obtain ⟨f1, f2, w1, w6, frow⟩ := id FO
    refine ⟨_, rfl, t, rfl, ⟨_, SqL.of hT⟩, fun D nD => ?_⟩
    have nDl := src.ne nD
    have nDt : D ≠ t := fun z => by rw [z, hT] at nD; cases nD
    refine lc_list (K := K) (a := t) (xs := as.map V.ref) (fun i Hc => But D H Hc ∧ ∃ bs : List Addr, Hc D = some (.lst (bs.map V.ref)) ∧ bs.length = i ∧ ∀ b ∈ bs, b ≠ D ∧ H b = none ∧ ∃ row : List Nat, Hc b = some (.lst (row.map nv)) ∧ row.length = wd ∧ ∀ e ∈ row, e < rows.length)
      ⟨But.upd, [], upd_same, rfl, fun b h => by cases h⟩ (fun i Hc _ ⟨b, _⟩ => SqL.of (b _ _ nDt.symm hT)) (fun i z Hc hz ⟨bc, bs, hD, lb, pb⟩ => ?_) (fun Hc ⟨bc, bs, hD, lb, pb⟩ => ?_)
    · obtain ⟨a, ha, rfl⟩ := map_get hz
      obtain ⟨row, hrow⟩ := lt_get (show i < rows.length by have := get_lt ha; omega)
      obtain ⟨nal, nat, haH⟩ := rowT i a row ha hrow
      have il := get_lt hrow
      have naD : a ≠ D := fun z => by rw [← z, haH] at nD; cases nD
      have fr := frow row (List.mem_of_getElem? hrow)
      refine ⟨rfl, yesT ⟨_, rfl, a, _, rfl, .inl (SqL.of (bc _ _ naD haH)), fun b nb => ?_⟩⟩
      have nbD : b ≠ D := fun z => by rw [z, hD] at nb; cases nb
      have nbH : H b = none := by
        cases e : H b with
        | none => rfl
        | some o => rw [bc b o nbD e] at nb; cases nb
      refine ⟨_, by rw [upd_ne nbD.symm]; exact hD, by rw [List.length_map, lb]; show i < 16777216; omega, fun c o nc e => by rw [upd_ne nc, upd_ne (ne_of_none (bc c o nc e) nb)]; exact bc c o nc e, bs ++ [b], by rw [upd_same, List.map_append]; rfl, by rw [List.length_append, lb]; rfl, fun c hc => ?_⟩
      rcases List.mem_append.mp hc with q | q
      · obtain ⟨q1, q2, row', q3, q4⟩ := pb c q
        exact ⟨q1, q2, row', by rw [upd_ne q1, upd_ne (ne_of_none q3 nb)]; exact q3, q4⟩
      · rw [List.mem_singleton.mp q]
        exact ⟨nbD, nbH, row, by rw [upd_ne nbD]; exact upd_same, fr⟩
    rw [List.length_map, la] at lb
    have bl : But l H Hc := fun b o nb e => bc b o (ne_of_none e nD) e
    have lo : Loose H Hc l D rows.length wd rows.length := ⟨bs, hD, lb, fun b hb => by
      obtain ⟨q1, q2, q3⟩ := pb b hb
      exact ⟨src.ne q2, q1, q2, q3⟩⟩
    have sc : Src Hc l n := by
      obtain ⟨a, b, c, e, r⟩ := src
      exact ⟨a, b, c, bc _ _ nDl.symm e, r⟩
    clear bc hD pb lb
    refine ⟨_, rfl, _, rfl, t, _, rfl, .inl (SqL.of (bl _ _ ntl hT)), ?_⟩
    rw [List.length_map, la]
    refine ⟨l, n, (rows.length : Nat), rfl, sc, by omega, by omega, by omega, fun at_ H2 a0 a1 b2 sc2 => ?_⟩
    obtain ⟨at_, rfl⟩ : ∃ y' : Nat, at_ = (y' : Nat) := ⟨at_.toNat, by omega⟩
    have lo2 := lo.but nDl b2
    have b02 := bl.trans b2
    clear bl lo sc b2
    obtain ⟨as2, h1, h2, h3⟩ := id lo2
    obtain ⟨as2', a, row, _, h1', _, ha, nal, naD, _, har, lrow, _⟩ := lo2.at (i := at_) (c := 0) (by omega) (by omega)
    rw [h1] at h1'
    have e8 : as2' = as2 := by
      have := Option.some.inj h1'
      have z : as2.map V.ref = as2'.map V.ref := by injection this
      exact (List.map_inj_right (fun a b h => by injection h)).mp z.symm
    subst e8
    refine ⟨_, _, rfl, ?_⟩
    have cg : ∀ v4 : Option V, Cg K [some (.ref l), some (.ref t), some (.ref D), some (nv at_), v4, none] H2 l D a t (n + 1) at_ (as2'.map V.ref) (as.map V.ref) row := fun v4 => ⟨sc2, rfl, rfl, rfl, b02 _ _ ntl hT, h1, get_map ha, har, by omega⟩
    have fi : ∀ i : Int, Flat (.int i) := fun i => .inr (.inl ⟨i, rfl⟩)
    have fs : ∀ s : Str, Flat (.str s) := fun s => .inr (.inr (.inr ⟨s, rfl⟩))
    have rw2 : ∀ v ∈ as2'.map V.ref, Rw H2 l v := fun v hv => by
      obtain ⟨b, hb, rfl⟩ := List.mem_map.mp hv
      obtain ⟨g1, g2, g3, r, g4, g5⟩ := h3 b hb
      exact .lst g1 g4 row_flat
    have g1 : GA [some (.ref l), some (.ref t), some (.ref D), some (nv at_), none, none] H2 l 9 (tCons (tOp (rCatL K) (teRw K) (tLst (tCons (tC (.int 0)) tNil))) (tCons (tLst tNil) (tCons (tC .non) (tCons (tC (.int 5)) (tCons (tC (.str "0")) (tCons (tSl (rSlL K) (teRw K) tNoPart (tPart (tUn (rU fun i => .int (-i)) (tC (.int 1))))) (tCons tDNewK (tCons (teTl K (tCB (rLenS K) (tCons (tVar 1) tNil))) (tCons (teTl K (tC (.bl true))) tNil))))))))) :=
      GA.cons (cg none).more (GA.cons (ge_nil sc2) (GA.cons (ge_flat (.inl rfl)) (GA.cons (ge_flat (fi _)) (GA.cons (ge_flat (fs _)) (GA.cons (cg none).cut (GA.cons (ge_dict sc2) (GA.cons ((cg none).tail (fi ((as.map V.ref).length : Nat)) fun H' Q' s' k' => ⟨_, rfl, t, as.map V.ref, rfl, .inl (SqL.of (s' _ _ (b02 _ _ ntl hT))), k'⟩) (GA.cons ((cg none).tail (v := .bl true) (.inr (.inr (.inl ⟨_, rfl⟩))) fun H' Q' s' k' => k') GA.nil))))))))
    have g2 : ∀ v4 : Option V, GA [some (.ref l), some (.ref t), some (.ref D), some (nv at_), v4, none] H2 l 4 (tCons (teTl K (tUn (rU fun i => .int (-i)) (tC (.int 1)))) (tCons (teTl K (tC (.str "0"))) (tCons (tOp rRep (tLst (tCons (tC .non) tNil)) (tCB (rLenS K) (tCons (teRw K) tNil))) (tCons (tOp rRep (tLst (tCons (tC (.int 0)) tNil)) (tC (.int (7 : Nat)))) tNil)))) := fun v4 =>
      GA.cons ((cg v4).tail (v := .int (-1)) (fi _) fun H' Q' s' k' => ⟨1, rfl, k'⟩) (GA.cons ((cg v4).tail (v := .str "0") (fs _) fun H' Q' s' k' => k') (GA.cons (cg v4).nones (GA.cons (ge_zeros sc2 (m := 7) (by decide)) GA.nil)))
    dsimp only
    refine seq_set ?_
    refine g1.list (by decide) sc2 H2 _ (L2.Same.refl _) fun p1 vs1 H3 s3 np1 hp1 lv1 rv1 => ?_
    refine ⟨_, rfl, (g2 _).list (by decide) sc2 H3 _ s3 fun p2 vs2 H4 s4 np2 hp2 lv2 rv2 => ?_⟩
    refine ⟨p1, p2, _, _, rfl, rfl, SqL.of (s4 _ _ hp1), SqL.of hp2, by rw [lv1, lv2]; show 9 + 4 ≤ 16777216; omega, fun p3 np3 => ?_⟩
    have u5 := same_upd (o := .lst (vs1 ++ vs2)) np3
    have s05 := (s3.trans s4).trans u5
    have sc5 := sc2.same s05
    have np3l : p3 ≠ l := ((sc2.same s3).same s4).ne np3
    have h5 : L2.upd H4 p3 (.lst (vs1 ++ vs2)) p3 = some (.lst (vs1 ++ vs2)) := upd_same
    have rv5 : ∀ v ∈ vs1 ++ vs2, Rw (L2.upd H4 p3 (.lst (vs1 ++ vs2))) l v := fun v hv => by
      rcases List.mem_append.mp hv with q | q
      · exact ((rv1 v q).same s4).same u5
      · exact (rv2 v q).same u5
    generalize L2.upd H4 p3 (.lst (vs1 ++ vs2)) = H5 at s05 sc5 h5 rv5 ⊢
    clear u5 np3 hp1 hp2 rv1 rv2 s3 s4 np1 np2
    refine ⟨_, rfl, _, rfl, l, n + 1, p3, _, rfl, sc5, by omega, h5, np3l, by rw [List.length_append, lv1, lv2]; decide, by rw [List.length_append, lv1, lv2]; decide, fun k y H6 hy b6 sc6 => ?_⟩
    have ry := (rv5 y (List.mem_of_getElem? hy)).but b6
    have hD6 := b6 _ _ nDl (s05 _ _ h1)
    have rw6 : ∀ v ∈ as2'.map V.ref, Rw H6 l v := fun v hv => ((rw2 v hv).same s05).but b6
    refine ⟨_, rfl, _, rfl, D, _, _, at_, rfl, rfl, hD6, ixN_nat (by rw [List.length_map]; omega), ?_⟩
    have nDr : ∀ v, Rw H6 l v → Rw (L2.upd H6 D (.lst ((as2'.map V.ref).set at_ y))) l v ∨ v = .ref D := fun v hv => by
      by_cases e : v = .ref D
      · exact .inr e
      · refine .inl ?_
        cases hv with
        | lst ne h ok => exact .lst ne (by rw [upd_ne (fun z => e (by rw [z]))]; exact h) ok
        | dct ne h => exact .dct ne (by rw [upd_ne (fun z => e (by rw [z]))]; exact h)
        | one h => exact .one h
    have yD : y ≠ .ref D := fun z => by
      subst z
      cases ry with
      | lst ne h ok =>
        rw [hD6] at h
        cases h
        have := ok (.ref a) (List.mem_of_getElem? (get_map ha))
        rcases this with q | ⟨_, q⟩ | ⟨_, q⟩ | ⟨_, q⟩ <;> cases q
      | dct ne h => rw [hD6] at h; cases h
      | one h => rcases h with q | ⟨_, q⟩ | ⟨_, q⟩ | ⟨_, q⟩ <;> cases q
    have hD7 : L2.upd H6 D (.lst ((as2'.map V.ref).set at_ y)) D = some (.lst ((as2'.map V.ref).set at_ y)) := upd_same
    have rw7 : ∀ v ∈ (as2'.map V.ref).set at_ y, Rw (L2.upd H6 D (.lst ((as2'.map V.ref).set at_ y))) l v := fun v hv => by
      rcases List.mem_or_eq_of_mem_set hv with q | q
      · rcases nDr v (rw6 v q) with r | r
        · exact r
        · subst r
          obtain ⟨b, hb, e⟩ := List.mem_map.mp q
          injection e with e
          exact absurd e (h3 b hb).2.1
      · subst q
        exact (nDr _ ry).resolve_right yD
    have b07 : But l H (L2.upd H6 D (.lst ((as2'.map V.ref).set at_ y))) := fun b o nb e => by
      rw [upd_ne (ne_of_none e nD)]
      exact b6 b o nb (s05 b o (b02 b o nb e))
    have sc7 := sc6.upd (o := .lst ((as2'.map V.ref).set at_ y)) nDl
    have l7 : ((as2'.map V.ref).set at_ y).length = rows.length := by rw [List.length_set, List.length_map, h2]
    generalize (as2'.map V.ref).set at_ y = ws at hD7 rw7 b07 sc7 l7 ⊢
    generalize L2.upd H6 D (.lst ws) = H7 at hD7 rw7 b07 sc7 ⊢
    clear nDr rw6 ry hD6
    refine ⟨_, rfl, _, rfl, _, rfl, D, ws, rfl, .inl ⟨SqL.of hD7, fun tp ntp => ?_⟩⟩
    have u8 := same_upd (o := .tup ws) ntp
    have h8 : L2.upd H7 tp (.tup ws) tp = some (.tup ws) := upd_same
    have ntpl := sc7.ne ntp
    generalize L2.upd H7 tp (.tup ws) = H8 at u8 h8 ⊢
    have g3 : GA [some (.ref l), some (.ref t), some (.ref D), some (nv at_), some (.ref p3), none] H8 l 1 (tCons (tOp rRep (tLst (tCons (tC (.int 0)) tNil)) (tC (.int (9 : Nat)))) tNil) := GA.cons (ge_zeros (sc7.same u8) (m := 9) (by decide)) GA.nil
    refine ⟨_, rfl, g3.list (by decide) (sc7.same u8) H8 _ (L2.Same.refl _) fun p4 vs4 H9 s9 np4 hp4 lv4 rv4 => ?_⟩
    refine ⟨D, p4, _, _, rfl, rfl, SqL.of ((u8.trans s9) _ _ hD7), SqL.of hp4, by rw [l7, lv4]; show rows.length + 1 ≤ 16777216; omega, fun p5 np5 => ⟨by show 3 ≤ 16777216; omega, fun p6 np6 => ?_⟩⟩
    have u10 := same_upd (o := .lst (ws ++ vs4)) np5
    have u11 := same_upd (o := .lst [V.ref D, V.ref tp, V.ref p5]) np6
    have s79 := (u8.trans s9).trans (u10.trans u11)
    have s89 := s9.trans (u10.trans u11)
    have h10 : L2.upd (L2.upd H9 p5 (.lst (ws ++ vs4))) p6 (.lst [V.ref D, V.ref tp, V.ref p5]) p5 = some (.lst (ws ++ vs4)) := u11 _ _ upd_same
    have np5l := (((sc7.same u8).same s9)).ne np5
    have np6l := (((sc7.same u8).same s9).same u10).ne np6
    have rv10 : ∀ v ∈ vs4, Rw (L2.upd (L2.upd H9 p5 (.lst (ws ++ vs4))) p6 (.lst [V.ref D, V.ref tp, V.ref p5])) l v := fun v hv => (rv4 v hv).same (u10.trans u11)
    have h11 : L2.upd (L2.upd H9 p5 (.lst (ws ++ vs4))) p6 (.lst [V.ref D, V.ref tp, V.ref p5]) p6 = some (.lst [V.ref D, V.ref tp, V.ref p5]) := upd_same
    generalize L2.upd (L2.upd H9 p5 (.lst (ws ++ vs4))) p6 (.lst [V.ref D, V.ref tp, V.ref p5]) = H10 at s79 s89 h10 rv10 h11 ⊢
    refine ⟨l, n + 1 + 1, p6, _, rfl, sc7.same s79, by omega, h11, np6l, by show 0 < 3; decide, by show 3 ≤ 1000; decide, fun k y H11 hy b11 sc11 => ?_⟩
    have rwz : ∀ v ∈ ws, Rw H11 l v := fun v hv => ((rw7 v hv).same s79).but b11
    have bz : But l H H11 := (b07.trans (But.of s79)).trans b11
    have ns := sc11.up (show n + 1 + 1 + 1 ≤ n + 40 by omega)
    match k with
    | 0 =>
      cases hy
      obtain ⟨tb, htb⟩ := tab_of (K := K) (.inl (SqL.of (b11 _ _ nDl (s79 _ _ hD7)))) rwz
      exact fin _ tb _ bz htb ns
    | 1 =>
      cases hy
      obtain ⟨tb, htb⟩ := tab_of (K := K) (.inr (SqT.of (b11 _ _ ntpl (s89 _ _ h8)))) rwz
      exact fin _ tb _ bz htb ns
    | 2 =>
      cases hy
      obtain ⟨tb, htb⟩ := tab_of (K := K) (.inl (SqL.of (b11 _ _ np5l h10))) fun v hv => by
        rcases List.mem_append.mp hv with q | q
        · exact rwz v q
        · exact (rv10 v q).but b11
      exact fin _ tb _ bz htb ns
    | k + 3 => simp at hy
end
end K12

set_option Elab.async false
set_option linter.all false
set_option maxRecDepth 100000
set_option maxHeartbeats 8000000
namespace K12
open PySem PySem.Spec PyProof.Rows L2 Lf
variable {t : Option (List RowD)} {v : Option (Str × Int)}
theorem row_inj {r s : List Nat} (h : (r.map fun t => some ((t : Nat) : Int)) = s.map fun t => some ((t : Nat) : Int)) : r = s := (List.map_inj_right (fun a b h => by have := Option.some.inj h; omega)).mp h
theorem tabD_inj {r s : List (List Nat)} (h : tabD r = tabD s) : r = s := (List.map_inj_right (fun a b h => row_inj (Option.some.inj h))).mp h
theorem Vd.l1 (h : Vd t v) (b : ∀ rs, t = some rs → lenOk rs = false) : v = some (("form" : Str), (-1 : Int)) := by
  cases h with
  | len => rfl
  | row e l => rw [b _ e] at l; cases l
  | ord e F => have := b _ e; rw [F.ok.1] at this; cases this
  | prod e F => have := b _ e; rw [F.ok.1] at this; cases this
  | ok e F => have := b _ e; rw [F.ok.1] at this; cases this
theorem Vd.l2 (h : Vd t v) {rs : List RowD} {i : Nat} {r : RowD} (e : t = some rs) (l : lenOk rs = true) (hi : rs[i]? = some r) (pre : ∀ (j : Nat) r', j < i → rs[j]? = some r' → rowOk rs.length (rs.getD 0 none) r' = true) (no : rowOk rs.length (rs.getD 0 none) r = false) : v = some (("form" : Str), ((i : Nat) : Int)) := by
  subst e
  cases h with
  | len b => rw [b _ rfl] at l; cases l
  | row e l' hi' pre' no' =>
    cases e
    rename_i i' _
    rcases Nat.lt_trichotomy i i' with z | z | z
    · rw [pre' i r z hi] at no; cases no
    · rw [z]
    · rw [pre i' _ z hi'] at no'; cases no'
  | ord e F => cases e; rw [F.ok.2 i r hi] at no; cases no
  | prod e F => cases e; rw [F.ok.2 i r hi] at no; cases no
  | ok e F => cases e; rw [F.ok.2 i r hi] at no; cases no
theorem Vd.l3 (h : Vd t v) {rs : List RowD} (e : t = some rs) (l : lenOk rs = true) (all : ∀ (i : Nat) r, rs[i]? = some r → rowOk rs.length (rs.getD 0 none) r = true) : ∃ rows wd, t = some (tabD rows) ∧ Form rows wd := by
  cases h with
  | len b => rw [b _ e] at l; cases l
  | row e' l' hi' pre' no' => rw [e] at e'; cases e'; rw [all _ _ hi'] at no'; cases no'
  | ord e' F => exact ⟨_, _, e', F⟩
  | prod e' F => exact ⟨_, _, e', F⟩
  | ok e' F => exact ⟨_, _, e', F⟩
theorem made_up {rows : List (List Nat)} {k l : Nat} (h : Mon.madeTab 0 (rows.take (k + 1)) [] = none) (hl : k < l) : Mon.madeTab 0 (rows.take l) [] = none := by
  rw [show rows.take l = rows.take (k + 1) ++ (rows.take l).drop (k + 1) by
    rw [show rows.take (k + 1) = (rows.take l).take (k + 1) by rw [List.take_take, Nat.min_eq_left (by omega)], List.take_append_drop]]
  rw [Mon.madeTab_app, h]
  rfl
theorem made_no {rows : List (List Nat)} {k : Nat} {m : List (Nat × Nat)} (h : Mon.madeTab 0 (rows.take (k + 1)) [] = none) (hm : Mon.madeTab 0 rows [] = some m) : False := by
  rw [← List.take_append_drop (k + 1) rows, Mon.madeTab_app, h] at hm
  cases hm
theorem Vd.l4 (h : Vd t v) {rows : List (List Nat)} {wd i : Nat} {m' : List (Nat × Nat)} (e : t = some (tabD rows)) (F : Form rows wd) (hi : i < rows.length) (a : Mon.madeTab 0 (rows.take i) [] = some m') (b : Mon.madeTab 0 (rows.take (i + 1)) [] = none) : v = some (("order" : Str), ((i : Nat) : Int)) := by
  cases h with
  | len c => have := c _ e; rw [F.ok.1] at this; cases this
  | row e' l' hi' pre' no' => rw [e] at e'; cases e'; rw [F.ok.2 _ _ hi'] at no'; cases no'
  | ord e' F' hi' a' b' =>
    rw [e] at e'
    cases tabD_inj (Option.some.inj e')
    rename_i i' _
    rcases Nat.lt_trichotomy i i' with z | z | z
    · rw [made_up b z] at a'; cases a'
    · rw [z]
    · rw [made_up b' z] at a; cases a
  | prod e' F' a' => rw [e] at e'; cases tabD_inj (Option.some.inj e'); exact (made_no b a').elim
  | ok e' F' a' => rw [e] at e'; cases tabD_inj (Option.some.inj e'); exact (made_no b a').elim
theorem Vd.l5 (h : Vd t v) {rows : List (List Nat)} {wd i : Nat} {m : List (Nat × Nat)} (e : t = some (tabD rows)) (F : Form rows wd) (a : Mon.madeTab 0 rows [] = some m) (hi : i < rows.length) (pre : ∀ j, j < i → gRow rows (Mon.leftTab rows m) j) (no : ¬ gRow rows (Mon.leftTab rows m) i) : v = some (("product" : Str), ((i : Nat) : Int)) := by
  cases h with
  | len c => have := c _ e; rw [F.ok.1] at this; cases this
  | row e' l' hi' pre' no' => rw [e] at e'; cases e'; rw [F.ok.2 _ _ hi'] at no'; cases no'
  | ord e' F' hi' a' b' => rw [e] at e'; cases tabD_inj (Option.some.inj e'); exact (made_no b' a).elim
  | prod e' F' a' hi' pre' no' =>
    rw [e] at e'
    cases tabD_inj (Option.some.inj e')
    rw [a] at a'
    cases a'
    rename_i i'
    rcases Nat.lt_trichotomy i i' with z | z | z
    · exact absurd (pre' i z) no
    · rw [z]
    · exact absurd (pre i' z) no'
  | ok e' F' a' g => rw [e] at e'; cases tabD_inj (Option.some.inj e'); rw [a] at a'; cases a'; exact absurd (g i) no
theorem Vd.l6 (h : Vd t v) {rows : List (List Nat)} {wd : Nat} {m : List (Nat × Nat)} (e : t = some (tabD rows)) (F : Form rows wd) (a : Mon.madeTab 0 rows [] = some m) (g : ∀ i, gRow rows (Mon.leftTab rows m) i) : v = none := by
  cases h with
  | len c => have := c _ e; rw [F.ok.1] at this; cases this
  | row e' l' hi' pre' no' => rw [e] at e'; cases e'; rw [F.ok.2 _ _ hi'] at no'; cases no'
  | ord e' F' hi' a' b' => rw [e] at e'; cases tabD_inj (Option.some.inj e'); exact (made_no b' a).elim
  | prod e' F' a' hi' pre' no' => rw [e] at e'; cases tabD_inj (Option.some.inj e'); rw [a] at a'; cases a'; exact absurd (g _) no'
  | ok => rfl
end K12

set_option Elab.async false
set_option linter.all false
set_option maxRecDepth 100000
set_option maxHeartbeats 8000000
namespace K12
open PySem PySem.Spec PyProof.Rows L2 Lf
abbrev NDu : List Str := ["_law_right_here", "_law_what", "_law_ask", "_law_place"]
def spDue (K : PySem.W.Frag) : Sp := fun vs H Q _ => ∃ x t v, vs = [x] ∧ TabV K H x t ∧ Vd t v ∧ Told H v Q
section
variable {P : Program} {w : World} {K : PySem.W.Frag} {mg : Str → Option Value} {base : Heap}
theorem scDu : FnScope NDu ["_law_right_here"] (defScope s_L_due) := ⟨rfl, rfl, rfl, by decide +kernel, rfl, by decide +kernel, by decide +kernel⟩
theorem ok_due {f : Addr} {fd : FuncData} {q : Str} (F : FunD K "_law_due" q (defArgs s_L_due) (defBody s_L_due) (defScope s_L_due) [] [] f fd) (T : Txt P w K mg base)
    {f1 f2 f3 : Addr} {d1 d2 d3 : FuncData} (g1 : mg "_law_form_due" = some (.ref f1)) (g2 : mg "_law_order_due" = some (.ref f2)) (g3 : mg "_law_product_due" = some (.ref f3))
    (k1 : PySem.W.keepIn K (.ref f1) = true) (k2 : PySem.W.keepIn K (.ref f2) = true) (k3 : PySem.W.keepIn K (.ref f3) = true)
    (F1 : FnOk P w K mg base CX0 1 f1 d1 ["_law_right_here"] (spFd K)) (F2 : FnOk P w K mg base CX0 1 f2 d2 ["_law_right_here"] (spOrd K)) (F3 : FnOk P w K mg base CX0 2 f3 d3 ["_law_right_here"] (spPd K))
    (b1 : Binds K d1 ["_law_right_here"] []) (b2 : Binds K d2 ["_law_right_here"] []) (b3 : Binds K d3 ["_law_right_here"] []) :
    FnOk P w K mg base CX0 3 f fd ["_law_right_here"] (spDue K) := by
  refine F.ok scDu (fun vs H Q E h => ?_) (fun cdv A outer s H vs Q E hr h => ?_)
  · obtain ⟨x, t, v, rfl, _⟩ := h
    rfl
  · obtain ⟨x, t, v, rfl, tv, vd, kn, ks⟩ := h
    have r1 : Room 1 _ := hr.mono (by decide)
    refine ⟨_, PSs.nox (pss_cons (ps_for PassesOwn.never rfl (pi_tup (pe_tup (pa_cons (pe_tup (pa_cons pe_str (pa_cons (pe_cl rfl g1) pa_nil))) (pa_cons (pe_tup (pa_cons pe_str (pa_cons (pe_cl rfl g2) pa_nil))) (pa_cons (pe_tup (pa_cons pe_str (pa_cons (pe_cl rfl g3) pa_nil))) pa_nil))))) (pg_tup rfl (pgs_cons (pg_name (i := 1) scDu.nd rfl (.inl rfl)) (pgs_cons (pg_name (i := 2) scDu.nd rfl (.inl rfl)) pgs_nil)))
        (pss_cons (ps_set (i := 3) scDu.nd rfl (.inl rfl) (PE.or (pe_callL (i := 2) F1 r1 rfl (.inl rfl) k1 b1 .nil pass0 (pa_cons (pv 0) pa_nil)) (PE.or (pe_callL (i := 2) F2 r1 rfl (.inl rfl) k2 b2 .nil pass0 (pa_cons (pv 0) pa_nil)) (pe_callL (i := 2) F3 hr rfl (.inl rfl) k3 b3 .nil pass0 (pa_cons (pv 0) pa_nil)))))
        (pss_one (ps_if (pt_cmpR op_notN (pv 3) pe_non (nomark _)) (pss_one (ps_ret (pe_tup (pa_cons (pv 1) (pa_cons (pv 3) pa_nil))))) pss_nil))))
      (pss_one (ps_ret pe_non))), ?_⟩
    refine ⟨(by show 2 ≤ sizeLine; decide), fun p1 n1 => ⟨(by show 2 ≤ sizeLine; decide), fun p2 n2 => ⟨(by show 2 ≤ sizeLine; decide), fun p3 n3 => ⟨(by show 3 ≤ sizeLine; decide), fun tt nt => ⟨tt, rfl, ⟨_, SqT.of upd_same⟩, ?_⟩⟩⟩⟩⟩
    have e4 := same_upd (o := .tup [.ref p1, .ref p2, .ref p3]) nt
    have e3 := (same_upd (o := .tup [.str ("product" : Str), .ref f3]) n3).trans e4
    have e2 := (same_upd (o := .tup [.str ("order" : Str), .ref f2]) n2).trans e3
    have e1 := (same_upd (o := .tup [.str ("form" : Str), .ref f1]) n1).trans e2
    generalize hHt : L2.upd (L2.upd (L2.upd (L2.upd H p1 (.tup [.str ("form" : Str), .ref f1])) p2 (.tup [.str ("order" : Str), .ref f2])) p3 (.tup [.str ("product" : Str), .ref f3])) tt (.tup [.ref p1, .ref p2, .ref p3]) = Ht at e1 e2 e3 e4 ⊢
    have ht : Ht tt = some (.tup [.ref p1, .ref p2, .ref p3]) := by rw [← hHt]; exact upd_same
    have h3 : Ht p3 = some (.tup [.str ("product" : Str), .ref f3]) := e4 _ _ upd_same
    have h2 : Ht p2 = some (.tup [.str ("order" : Str), .ref f2]) := e3 _ _ upd_same
    have h1 : Ht p1 = some (.tup [.str ("form" : Str), .ref f1]) := e2 _ _ upd_same
    clear hHt e2 e3 e4
    refine for_tup (K := K) (a := tt) (xs := [.ref p1, .ref p2, .ref p3]) (fun i σ Hn => ∃ v1 v2 v3 : Option V, σ = [some x, v1, v2, v3] ∧ Same Ht Hn ∧ (1 ≤ i → ∃ rows wd, t = some (tabD rows) ∧ Form rows wd ∧ (2 ≤ i → ∃ m, Mon.madeTab 0 rows [] = some m) ∧ (3 ≤ i → v = none))) ⟨none, none, none, rfl, L2.Same.refl _, fun h => absurd h (by decide)⟩ (fun i σ Hn _ ⟨_, _, _, _, s, _⟩ => SqT.of (s _ _ ht)) (fun i y σ Hn hy ⟨v1, v2, v3, eσ, sn, st⟩ => ?_) (fun σ Hn ⟨v1, v2, v3, eσ, sn, st⟩ => ?_)
    · subst eσ
      have sH := e1.trans sn
      have tell : ∀ {wh : Str} {i : Int} {H' : Hp}, v = some (wh, i) → Same Hn H' → ∀ p, H' p = none → Q (.ref p) (L2.upd H' p (.tup [.str wh, .int i])) := fun {wh i H'} e s p np => ks wh i e p _ (nil_of (sH.trans s) np) ((sH.trans s).trans (same_upd np)) upd_same
      match i with
      | 0 =>
        cases hy
        refine ⟨p1, _, rfl, SqT.of (sn _ _ h1), rfl, _, _, rfl, _, _, rfl, rfl, ?_⟩
        refine .inl ⟨rfl, _, rfl, x, t, rfl, tv.same sH, fun b H' s => ?_, fun rs e l => ⟨fun all H' s => ?_, fun j r hj pre no H' s => ?_⟩⟩
        · exact ⟨_, rfl, rfl, _, rfl, ifT rfl ⟨_, rfl, _, rfl, (by show 2 ≤ sizeLine; decide), tell (vd.l1 b) s⟩⟩
        · obtain ⟨rows, wd, e', FO⟩ := vd.l3 e l all
          exact ⟨_, rfl, rfl, _, rfl, ifF rfl ⟨_, _, _, rfl, sn.trans s, fun _ => ⟨rows, wd, e', FO, fun h => absurd h (by decide), fun h => absurd h (by decide)⟩⟩⟩
        · exact ⟨_, rfl, rfl, _, rfl, ifT rfl ⟨_, rfl, _, rfl, (by show 2 ≤ sizeLine; decide), tell (vd.l2 e l hj pre no) s⟩⟩
      | 1 =>
        cases hy
        obtain ⟨rows, wd, e, FO, _, _⟩ := st (by decide)
        subst e
        obtain ⟨r, rfl, R⟩ := rows_of (tv.same sH)
        refine ⟨p2, _, rfl, SqT.of (sn _ _ h2), rfl, _, _, rfl, _, _, rfl, rfl, ?_⟩
        refine .inr (.inl ⟨rfl, _, rfl, r, rows, wd, rfl, R, FO, fun m hm H' s => ?_, fun j m' hj a b H' s => ?_⟩)
        · exact ⟨_, rfl, rfl, _, rfl, ifF rfl ⟨_, _, _, rfl, sn.trans s, fun _ => ⟨rows, wd, rfl, FO, fun _ => ⟨m, hm⟩, fun h => absurd h (by decide)⟩⟩⟩
        · exact ⟨_, rfl, rfl, _, rfl, ifT rfl ⟨_, rfl, _, rfl, (by show 2 ≤ sizeLine; decide), tell (vd.l4 rfl FO hj a b) s⟩⟩
      | 2 =>
        cases hy
        obtain ⟨rows, wd, e, FO, hm, _⟩ := st (by decide)
        obtain ⟨m, hm⟩ := hm (by decide)
        subst e
        obtain ⟨r, rfl, R⟩ := rows_of (tv.same sH)
        refine ⟨p3, _, rfl, SqT.of (sn _ _ h3), rfl, _, _, rfl, _, _, rfl, rfl, ?_⟩
        refine .inr (.inr ⟨rfl, _, rfl, r, rows, wd, m, rfl, R, FO, hm, fun g H' s => ?_, fun j hj pre no H' s => ?_⟩)
        · exact ⟨_, rfl, rfl, _, rfl, ifF rfl ⟨_, _, _, rfl, sn.trans s, fun _ => ⟨rows, wd, rfl, FO, fun _ => ⟨m, hm⟩, fun _ => vd.l6 rfl FO hm g⟩⟩⟩
        · exact ⟨_, rfl, rfl, _, rfl, ifT rfl ⟨_, rfl, _, rfl, (by show 2 ≤ sizeLine; decide), tell (vd.l5 rfl FO hm hj pre no) s⟩⟩
      | i + 3 => simp at hy
    · subst eσ
      obtain ⟨rows, wd, _, _, _, hv⟩ := st (show 1 ≤ 3 by decide)
      exact kn (hv (show 3 ≤ 3 by decide)) _ (e1.trans sn)
end
end K12

set_option Elab.async false
set_option linter.all false
set_option maxRecDepth 100000
set_option maxHeartbeats 8000000
namespace K12
open PySem PySem.Spec PyProof.Rows L2 Lf
/-- the first place at which a table's products don't go together, or none -/
theorem first_bad (rows L : List (List Nat)) : (∀ i, gRow rows L i) ∨ ∃ i, i < rows.length ∧ (∀ j, j < i → gRow rows L j) ∧ ¬ gRow rows L i := by
  have key : ∀ n, (∀ j, j < n → gRow rows L j) ∨ ∃ i, i < n ∧ (∀ j, j < i → gRow rows L j) ∧ ¬ gRow rows L i := by
    intro n
    induction n with
    | zero => exact .inl fun j h => absurd h (Nat.not_lt_zero _)
    | succ n ih =>
      rcases ih with h | ⟨i, h1, h2, h3⟩
      · by_cases z : gRow rows L n
        · refine .inl fun j hj => ?_
          by_cases e : j < n
          · exact h j e
          · rw [show j = n by omega]; exact z
        · exact .inr ⟨n, Nat.lt_succ_self n, h, z⟩
      · exact .inr ⟨i, by omega, h2, h3⟩
  rcases key rows.length with h | h
  · refine .inl fun i => ?_
    by_cases hi : i < rows.length
    · exact h i hi
    · intro c row t li lt g1
      rw [List.getElem?_eq_none (by omega)] at g1
      cases g1
  · exact .inr h
/-- the first of the numbers under n that is no good, or none -/
theorem first_no {p : Nat → Prop} : ∀ n, (∀ j, j < n → p j) ∨ ∃ i, i < n ∧ (∀ j, j < i → p j) ∧ ¬ p i
  | 0 => .inl fun j h => absurd h (Nat.not_lt_zero _)
  | n + 1 => by
    rcases first_no (p := p) n with h | ⟨i, h1, h2, h3⟩
    · by_cases z : p n
      · refine .inl fun j hj => ?_
        by_cases e : j < n
        · exact h j e
        · rw [show j = n by omega]; exact z
      · exact .inr ⟨n, Nat.lt_succ_self n, h, z⟩
    · exact .inr ⟨i, by omega, h2, h3⟩
def num (o : Option Int) : Nat := (o.getD 0).toNat
def rowN (r : RowD) : List Nat := (r.getD []).map num
theorem btw_inv {n : Nat} {o : Option Int} (h : btw 0 ((n : Int) - 1) o = true) : o = some ((num o : Nat) : Int) ∧ num o < n := by
  cases o with
  | none => cases h
  | some i =>
    obtain ⟨a, b⟩ := Bool.and_eq_true_iff.mp h
    have a := of_decide_eq_true a
    have b := of_decide_eq_true b
    unfold num
    refine ⟨?_, ?_⟩
    · show some i = some ((i.toNat : Nat) : Int)
      rw [Int.toNat_of_nonneg a]
    · show i.toNat < n
      omega
/-- a table whose rows have the form is one of numbers -/
theorem form_tab {rs : List RowD} (l : lenOk rs = true) (all : ∀ (i : Nat) r, rs[i]? = some r → rowOk rs.length (rs.getD 0 none) r = true) : rs = tabD (rs.map rowN) ∧ Form (rs.map rowN) (rowN (rs.getD 0 none)).length := by
  obtain ⟨l1, l2⟩ := Bool.and_eq_true_iff.mp l
  have l1 := of_decide_eq_true l1
  have l2 := of_decide_eq_true l2
  have one : ∀ r ∈ rs, ∃ os, r = some os ∧ 1 ≤ os.length ∧ os.length ≤ 6 ∧ (rs.getD 0 none).map List.length = some os.length ∧ ∀ o ∈ os, btw 0 ((rs.length : Int) - 1) o = true := fun r hr => by
    obtain ⟨i, hi⟩ := List.getElem?_of_mem hr
    have a := all i r hi
    cases r with
    | none => cases a
    | some os =>
      rw [rowOk_some] at a
      obtain ⟨a1, a2⟩ := Bool.and_eq_true_iff.mp a
      obtain ⟨a3, a4⟩ := Bool.and_eq_true_iff.mp a1
      obtain ⟨a5, a6⟩ := Bool.and_eq_true_iff.mp a3
      have a5 := of_decide_eq_true a5
      have a6 := of_decide_eq_true a6
      exact ⟨os, rfl, by omega, by omega, of_decide_eq_true a4, List.all_eq_true.mp a2⟩
  obtain ⟨r0, hr0⟩ := lt_get (show 0 < rs.length by omega)
  have eg : rs.getD 0 none = r0 := by rw [List.getD_eq_getElem?_getD, hr0]; rfl
  obtain ⟨os0, e0, w1, w6, _, _⟩ := one r0 (List.mem_of_getElem? hr0)
  subst e0
  rw [eg] at one ⊢
  have lw : (rowN (some os0)).length = os0.length := List.length_map _
  refine ⟨?_, ?_⟩
  · refine List.ext_getElem? fun i => ?_
    unfold tabD
    rw [List.getElem?_map, List.getElem?_map]
    by_cases hi : i < rs.length
    · obtain ⟨r, hr⟩ := lt_get hi
      obtain ⟨os, e, _, _, _, b⟩ := one r (List.mem_of_getElem? hr)
      subst e
      rw [hr]
      show some (some os) = some (some ((os.map num).map fun t => some ((t : Nat) : Int)))
      rw [List.map_map]
      congr 2
      have : List.map ((fun t => some ((t : Nat) : Int)) ∘ num) os = List.map id os := List.map_congr_left fun o ho => (btw_inv (b o ho)).1.symm
      rw [this, List.map_id]
    · rw [List.getElem?_eq_none (by omega)]
      rfl
  · refine ⟨by rw [List.length_map]; omega, by rw [List.length_map]; omega, by omega, by omega, fun row hr => ?_⟩
    obtain ⟨r, hr2, rfl⟩ := List.mem_map.mp hr
    obtain ⟨os, e, _, _, le, b⟩ := one r hr2
    subst e
    have le : os0.length = os.length := Option.some.inj le
    refine ⟨by rw [lw]; show (os.map num).length = _; rw [List.length_map, le], fun t ht => ?_⟩
    obtain ⟨o, ho, rfl⟩ := List.mem_map.mp (show t ∈ os.map num from ht)
    rw [List.length_map]
    exact (btw_inv (b o ho)).2
/-- every table is told -/
theorem Vd.total (t : Option (List RowD)) : ∃ v, Vd t v := by
  cases t with
  | none => exact ⟨_, .len fun _ z => nomatch z⟩
  | some rs =>
    cases l : lenOk rs with
    | false => exact ⟨_, .len fun _ z => by cases z; exact l⟩
    | true =>
      rcases first_no (p := fun i => ∀ r, rs[i]? = some r → rowOk rs.length (rs.getD 0 none) r = true) rs.length with h | ⟨i, hi, pre, no⟩
      · obtain ⟨e, FO⟩ := form_tab l fun i r hr => h i (get_lt hr) r hr
        generalize rs.map rowN = rows at e FO
        generalize (rowN (rs.getD 0 none)).length = wd at FO
        subst e
        rcases first_no (p := fun i => Mon.madeTab 0 (rows.take (i + 1)) [] ≠ none) rows.length with g | ⟨i, hi, pre, no⟩
        · obtain ⟨m, hm⟩ : ∃ m, Mon.madeTab 0 rows [] = some m := by
            have z := g (rows.length - 1) (by have := FO.1; omega)
            rw [show rows.length - 1 + 1 = rows.length by have := FO.1; omega, List.take_length] at z
            cases e : Mon.madeTab 0 rows [] with
            | none => exact absurd e z
            | some m => exact ⟨m, rfl⟩
          rcases first_bad rows (Mon.leftTab rows m) with q | ⟨i, hi, pre, no⟩
          · exact ⟨_, .ok rfl FO hm q⟩
          · exact ⟨_, .prod rfl FO hm hi pre no⟩
        · have no : Mon.madeTab 0 (rows.take (i + 1)) [] = none := Classical.byContradiction no
          obtain ⟨m', hm'⟩ : ∃ m', Mon.madeTab 0 (rows.take i) [] = some m' := by
            cases i with
            | zero => exact ⟨[], by simp [Mon.madeTab]⟩
            | succ i =>
              cases e : Mon.madeTab 0 (rows.take (i + 1)) [] with
              | none => exact absurd e (pre i (Nat.lt_succ_self i))
              | some m => exact ⟨m, rfl⟩
          exact ⟨_, .ord rfl FO hi hm' no⟩
      · obtain ⟨r, hr⟩ := lt_get hi
        refine ⟨_, .row rfl l hr (fun j r' hj hr' => pre j hj r' hr') ?_⟩
        cases e : rowOk rs.length (rs.getD 0 none) r with
        | false => rfl
        | true => exact absurd (fun r2 h2 => by rw [hr] at h2; cases h2; exact e) no
end K12

set_option Elab.async false
set_option linter.all false
set_option maxRecDepth 100000
set_option maxHeartbeats 8000000
namespace K12
open PySem PySem.Spec PyProof.Rows L2 Lf
theorem mo_neD {P : Program} {w : World} {K : PySem.W.Frag} {mg : Str → Option Value} {base : Heap} (T : Txt P w K mg base) {H : Hp} {a b : Addr} {rows rows' : List (List Nat)} {m m' : List (Nat × Nat)} {Q : VK} (ha : Mo K H a rows m) (hb : Mo K H b rows' m') (k : Q (.bl (!decide (rows = rows'))) H) :
    rOwnNe K (He.ga K "Monoid") (spEq K) E0 (.ref a) (.ref b) H Q := by
  have cl : L2.Cls K (He.ga K "Monoid") := He.cls_ok (T.d.fact 43 (f := .cls "Monoid") rfl)
  obtain ⟨dx, t, u, v, e1, _⟩ := id ha.ex
  obtain ⟨dy, t', u', v', e2, _⟩ := id hb.ex
  exact ⟨a, dx, _, _, rfl, e1, (T.own (x := "Monoid") (by decide)).ty cl e2, (T.ops (x := "Monoid") (by decide)).notFirst (List.mem_map.mpr ⟨"Monoid", by decide, rfl⟩), a, b, rows, rows', m, m', rfl, ha, hb, _, rfl, k⟩
theorem mo_eqD {P : Program} {w : World} {K : PySem.W.Frag} {mg : Str → Option Value} {base : Heap} (T : Txt P w K mg base) {H : Hp} {a b : Addr} {rows rows' : List (List Nat)} {m m' : List (Nat × Nat)} {Q : VK} (ha : Mo K H a rows m) (hb : Mo K H b rows' m') (k : Q (.bl (decide (rows = rows'))) H) :
    rOwnEq K (He.ga K "Monoid") (spEq K) E0 (.ref a) (.ref b) H Q := by
  have cl : L2.Cls K (He.ga K "Monoid") := He.cls_ok (T.d.fact 43 (f := .cls "Monoid") rfl)
  obtain ⟨dx, t, u, v, e1, _⟩ := id ha.ex
  obtain ⟨dy, t', u', v', e2, _⟩ := id hb.ex
  exact ⟨a, dx, _, _, rfl, e1, (T.own (x := "Monoid") (by decide)).ty cl e2, (T.ops (x := "Monoid") (by decide)).notFirst (List.mem_map.mpr ⟨"Monoid", by decide, rfl⟩), a, b, rows, rows', m, m', rfl, ha, hb, k⟩
theorem sqT_solid {K : PySem.W.Frag} {H H' : Hp} {a : Addr} {xs : List V} (s : Solid H H') (h : SqT K H a xs) : SqT K H' a xs := by
  rcases h with (h | ⟨o, h⟩) | h
  · exact .inl (.inl (s _ _ h fun _ z => nomatch z))
  · exact .inl (.inr ⟨o, s _ _ h fun _ z => nomatch z⟩)
  · exact .inr h
theorem RowsT.solid {K : PySem.W.Frag} {H H' : Hp} {r : Addr} {rows : List (List Nat)} (h : RowsT K H r rows) (s : Solid H H') : RowsT K H' r rows := by
  obtain ⟨as, h1, h2, h3⟩ := h.ex
  exact ⟨as, sqT_solid s h1, h2, fun i a row g1 g2 => sqT_solid s (h3 i a row g1 g2)⟩
theorem MadeT.solid {K : PySem.W.Frag} {H H' : Hp} {r : Addr} {m : List (Nat × Nat)} (h : MadeT K H r m) (s : Solid H H') : MadeT K H' r m := by
  obtain ⟨as, h1, h2, h3⟩ := h.ex
  exact ⟨as, sqT_solid s h1, h2, fun i a row g1 g2 => sqT_solid s (h3 i a row g1 g2)⟩
theorem Mo.solid {K : PySem.W.Frag} {H H' : Hp} {x : Addr} {rows : List (List Nat)} {m : List (Nat × Nat)} (h : Mo K H x rows m) (s : Solid H H') : Mo K H' x rows m := by
  obtain ⟨dx, t, u, v, h1, h2, h3, h4⟩ := h.ex
  exact ⟨dx, t, u, v, s _ _ h1 (fun _ z => nomatch z), h2.solid s, h3.solid s, h4.solid s⟩
theorem Mo.butL {K : PySem.W.Frag} {H H' : Hp} {l x : Addr} {n : Nat} {rows : List (List Nat)} {m : List (Nat × Nat)} (h : Mo K H x rows m) (s : Src H l n) (b : But l H H') : Mo K H' x rows m := by
  obtain ⟨_, _, _, e⟩ := s.un
  exact h.solid (Lf.But.solid e b)
/-- what is told, as data -/
def dV : Option (Str × Int) → PyData
  | none => .none
  | some (w, i) => .tuple [.str w, .int i]
theorem si_sh {a : Str} {i : Int} (ha : PyData.strOk a = true) : SeqAt.shaped (.tuple [.str a, .int i]) = true := by
  unfold SeqAt.shaped
  simp [PyData.canLay0, PyData.canLayAll0, PyData.depth, PyData.depthAll, ha]
theorem Vd.sh {t : Option (List RowD)} {v : Option (Str × Int)} (h : Vd t v) : SeqAt.shaped (dV v) = true := by
  cases h
  case len => exact si_sh (by decide +kernel)
  case row => exact si_sh (by decide +kernel)
  case ord => exact si_sh (by decide +kernel)
  case prod => exact si_sh (by decide +kernel)
  case ok => rfl
theorem told_of {K : PySem.W.Frag} {H : Hp} {v : Option (Str × Int)} {Q : VK} (k : ∀ x H', Same H H' → Dp K H' x (dV v) → Q x H') : Told H v Q :=
  ⟨fun e H' s => k .non H' s (by rw [e]; exact .non), fun w i e p H' np s hp => k _ H' s (by rw [e]; exact .tup (SqT.of hp) (.cons (.str w) (.cons (.int i) .nil)))⟩
theorem isN_dV {K : PySem.W.Frag} {H : Hp} {v : Option (Str × Int)} {x : V} (h : Dp K H x (dV v)) : decide (x = V.non) = v.isNone := by
  cases v with
  | none => cases h; rfl
  | some p =>
    obtain ⟨w, i⟩ := p
    cases h
    rfl
theorem lrows_eqv : ∀ (r s : List (List Nat)), PyData.eqvAll (r.map dL) (s.map dL) = decide (r = s)
  | [], [] => by simp [PyData.eqvAll]
  | [], y :: s => by simp [PyData.eqvAll]
  | x :: r, [] => by simp [PyData.eqvAll]
  | x :: r, y :: s => by
    rw [List.map_cons, List.map_cons, PyData.eqvAll, dL_eqv, lrows_eqv r s]
    by_cases h : x = y <;> by_cases h2 : r = s <;> simp [h, h2]
theorem RowsL.dp {K : PySem.W.Frag} {H : Hp} {r : Addr} {rows : List (List Nat)} (h : RowsL K H r rows) : Dp K H (.ref r) (.list (rows.map dL)) := by
  obtain ⟨as, a, b, c⟩ := h.ex
  exact .lst a (dpRL b c)
theorem seq_asg {te : TE} {i : Nat} {u : TS} {Ds : Ends} {σ : L2.St} {H : Hp} (h : te σ H fun x H1 => gName i x σ H1 fun σ2 H2 => u Ds σ2 H2) : tSeq (tAsg te (gName i)) u Ds σ H := h
theorem tcb1 {r : List V → Hp → VK → Prop} {te : TE} {σ : L2.St} {H : Hp} {Q : VK} (h : te σ H fun x H1 => r [x] H1 Q) : tCB r (tCons te tNil) σ H Q := h
/-- a statement that leaves the names and all that stands as they are -/
theorem seq_same {t u : TS} {Ds : Ends} {σ : L2.St} {H : Hp} (h : ∀ nx : L2.St → Hp → Prop, (∀ H', Same H H' → nx σ H') → t { Ds with nx := nx } σ H) (k : ∀ H', Same H H' → u Ds σ H') : tSeq t u Ds σ H := h (u Ds) k
abbrev NRt : List Str := ["_law_source_here", "_law_table_here", "_law_handed", "_law_monoid", "_law_turn", "_law_rows", "_law_is_same", "_law_row"]
abbrev teL7 (K : PySem.W.Frag) : TE := tCB (rListO K) (tCons (tVar 7) tNil)
abbrev teT7 (K : PySem.W.Frag) : TE := tCB (rTup K) (tCons (tVar 7) tNil)
/-- [list(row) for row in table] -/
theorem copy_rows {K : PySem.W.Frag} {t : Addr} {v0 v2 v3 v4 v5 v6 : Option V} {H : Hp} {as : List Addr} {rows : List (List Nat)} {Q : V → Hp → Prop} (hT : H t = some (.lst (as.map V.ref))) (la : as.length = rows.length) (rowT : ∀ (i : Nat) a row, as[i]? = some a → rows[i]? = some row → H a = some (.lst (row.map nv))) (n27 : rows.length ≤ 2000)
    (k : ∀ D (us : List Addr) H', Same H H' → H D = none → H' D = some (.lst (us.map V.ref)) → us.length = rows.length → (∀ (j : Nat) u row, us[j]? = some u → rows[j]? = some row → u ≠ D ∧ H u = none ∧ H' u = some (.lst (row.map nv))) → Q (.ref D) H') :
    tLc (iList K (tVar 1)) (gName 7) tYes (teL7 K) [7] [v0, some (.ref t), v2, v3, v4, v5, v6, none] H Q := by
  refine ⟨_, rfl, t, rfl, ⟨_, SqL.of hT⟩, fun D nD => ?_⟩
  have nDt : D ≠ t := fun z => by rw [z, hT] at nD; cases nD
  refine lc_list (K := K) (a := t) (xs := as.map V.ref) (fun i Hc => But D H Hc ∧ ∃ us : List Addr, Hc D = some (.lst (us.map V.ref)) ∧ us.length = i ∧ ∀ (j : Nat) u row, us[j]? = some u → rows[j]? = some row → u ≠ D ∧ H u = none ∧ Hc u = some (.lst (row.map nv)))
    ⟨But.upd, [], upd_same, rfl, fun j u row h => by simp at h⟩ (fun i Hc _ ⟨b, _⟩ => SqL.of (b _ _ nDt.symm hT)) (fun i z Hc hz ⟨bc, us, hD, lu, pu⟩ => ?_) (fun Hc ⟨bc, us, hD, lu, pu⟩ => ?_)
  · obtain ⟨a, ha, rfl⟩ := map_get hz
    obtain ⟨row, hrow⟩ := lt_get (show i < rows.length by have := get_lt ha; omega)
    have haH := rowT i a row ha hrow
    have il := get_lt hrow
    have naD : a ≠ D := fun z => by rw [← z, haH] at nD; cases nD
    refine ⟨rfl, yesT ⟨_, rfl, a, _, rfl, .inl (SqL.of (bc _ _ naD haH)), fun b nb => ?_⟩⟩
    have nbD : b ≠ D := fun z => by rw [z, hD] at nb; cases nb
    have nbH : H b = none := by
      cases e : H b with
      | none => rfl
      | some o => rw [bc b o nbD e] at nb; cases nb
    refine ⟨_, by rw [upd_ne nbD.symm]; exact hD, by rw [List.length_map, lu]; show i < 16777216; omega, fun c o nc e => by rw [upd_ne nc, upd_ne (ne_of_none (bc c o nc e) nb)]; exact bc c o nc e, us ++ [b], by rw [upd_same, List.map_append]; rfl, by rw [List.length_append, lu]; rfl, fun j u r h1 h2 => ?_⟩
    by_cases hj : j < us.length
    · rw [List.getElem?_append_left hj] at h1
      obtain ⟨q1, q2, q3⟩ := pu j u r h1 h2
      exact ⟨q1, q2, by rw [upd_ne q1, upd_ne (ne_of_none q3 nb)]; exact q3⟩
    · have := get_lt h1
      rw [List.length_append, List.length_singleton] at this
      have e : j = us.length := by omega
      subst e
      rw [List.getElem?_append_right (Nat.le_refl _), Nat.sub_self] at h1
      cases h1
      rw [lu, hrow] at h2
      cases h2
      exact ⟨nbD, nbH, by rw [upd_ne nbD]; exact upd_same⟩
  · rw [List.length_map, la] at lu
    exact k D us Hc (fun b o e => bc b o (ne_of_none e nD) e) nD hD lu pu
/-- [tuple(row) for row in table] -/
theorem tup_rows {K : PySem.W.Frag} {t : Addr} {v0 v2 v3 v4 v5 v6 : Option V} {H : Hp} {as : List Addr} {rows : List (List Nat)} {Q : V → Hp → Prop} (hT : H t = some (.lst (as.map V.ref))) (la : as.length = rows.length) (rowT : ∀ (i : Nat) a row, as[i]? = some a → rows[i]? = some row → H a = some (.lst (row.map nv))) (n27 : rows.length ≤ 2000)
    (k : ∀ D (us : List Addr) H', Same H H' → H' D = some (.lst (us.map V.ref)) → us.length = rows.length → (∀ (j : Nat) u row, us[j]? = some u → rows[j]? = some row → H' u = some (.tup (row.map nv))) → Q (.ref D) H') :
    tLc (iList K (tVar 1)) (gName 7) tYes (teT7 K) [7] [v0, some (.ref t), v2, v3, v4, v5, v6, none] H Q := by
  refine ⟨_, rfl, t, rfl, ⟨_, SqL.of hT⟩, fun D nD => ?_⟩
  have nDt : D ≠ t := fun z => by rw [z, hT] at nD; cases nD
  refine lc_list (K := K) (a := t) (xs := as.map V.ref) (fun i Hc => But D H Hc ∧ ∃ us : List Addr, Hc D = some (.lst (us.map V.ref)) ∧ us.length = i ∧ ∀ (j : Nat) u row, us[j]? = some u → rows[j]? = some row → u ≠ D ∧ Hc u = some (.tup (row.map nv)))
    ⟨But.upd, [], upd_same, rfl, fun j u row h => by simp at h⟩ (fun i Hc _ ⟨b, _⟩ => SqL.of (b _ _ nDt.symm hT)) (fun i z Hc hz ⟨bc, us, hD, lu, pu⟩ => ?_) (fun Hc ⟨bc, us, hD, lu, pu⟩ => ?_)
  · obtain ⟨a, ha, rfl⟩ := map_get hz
    obtain ⟨row, hrow⟩ := lt_get (show i < rows.length by have := get_lt ha; omega)
    have haH := rowT i a row ha hrow
    have il := get_lt hrow
    have naD : a ≠ D := fun z => by rw [← z, haH] at nD; cases nD
    refine ⟨rfl, yesT ⟨_, rfl, a, _, rfl, .inl ⟨SqL.of (bc _ _ naD haH), fun b nb => ?_⟩⟩⟩
    have nbD : b ≠ D := fun z => by rw [z, hD] at nb; cases nb
    refine ⟨_, by rw [upd_ne nbD.symm]; exact hD, by rw [List.length_map, lu]; show i < 16777216; omega, fun c o nc e => by rw [upd_ne nc, upd_ne (ne_of_none (bc c o nc e) nb)]; exact bc c o nc e, us ++ [b], by rw [upd_same, List.map_append]; rfl, by rw [List.length_append, lu]; rfl, fun j u r h1 h2 => ?_⟩
    by_cases hj : j < us.length
    · rw [List.getElem?_append_left hj] at h1
      obtain ⟨q1, q3⟩ := pu j u r h1 h2
      exact ⟨q1, by rw [upd_ne q1, upd_ne (ne_of_none q3 nb)]; exact q3⟩
    · have := get_lt h1
      rw [List.length_append, List.length_singleton] at this
      have e : j = us.length := by omega
      subst e
      rw [List.getElem?_append_right (Nat.le_refl _), Nat.sub_self] at h1
      cases h1
      rw [lu, hrow] at h2
      cases h2
      exact ⟨nbD, by rw [upd_ne nbD]; exact upd_same⟩
  · rw [List.length_map, la] at lu
    exact k D us Hc (fun b o e => bc b o (ne_of_none e nD) e) hD lu fun j u row h1 h2 => (pu j u row h1 h2).2
def spRight (K : PySem.W.Frag) : Sp := fun vs H Q _ => ∃ l n t rows wd m, vs = [.ref l, .ref t] ∧ Src H l n ∧ n + 600 ≤ 1000000 ∧ RowsH H l t rows ∧ Form rows wd ∧ rows.length ≤ 27 ∧ Mon.madeTab 0 rows [] = some m ∧ (∀ i, gRow rows (Mon.leftTab rows m) i) ∧
  ∀ H', But l H H' → Src H' l (n + 600) → Q (.bl true) H'
section
variable {P : Program} {w : World} {K : PySem.W.Frag} {mg : Str → Option Value} {base : Heap}
theorem scRt : FnScope NRt ["_law_source_here", "_law_table_here"] (defScope s_L_right) := ⟨rfl, rfl, rfl, by decide +kernel, rfl, by decide +kernel, by decide +kernel⟩
theorem ok_right {f : Addr} {fd : FuncData} {q : Str} (F : FunD K "_law_right" q (defArgs s_L_right) (defBody s_L_right) (defScope s_L_right) [] [] f fd) (T : Txt P w K mg base)
    (DC : Def P w K mg base CX0 2 "_law_changed" ["_law_source_here", "_law_table_here"] (spCh K)) (DS : Def P w K mg base CX0 3 "_law_spoilt" ["_law_source_here", "_law_table_here"] (spSpoilt K))
    (DH : Def P w K mg base CX0 6 "_law_heard" ["_law_right_here"] (spHeard K)) (DU : Def P w K mg base CX0 3 "_law_due" ["_law_right_here"] (spDue K))
    (DO : Def P w K mg base CX0 1 "_law_order_due" ["_law_right_here"] (spOrd K)) (DA : Def P w K mg base CX0 1 "_law_is_associative" ["_law_right_here"] (spAs K))
    {fm : Addr} {fdm : FuncData} (mM : Mk K (He.ga K "Monoid") fm) (FM : FnOk P w K mg base (L2.CX P w) 4 fm fdm ["self", "right"] (spMon K)) (bM : Binds K fdm ["self", "right"] [])
    {fe : Addr} {fde : FuncData} (mE : Meth K (He.ga K "Monoid") "__eq__" fe) (FE : FnOk P w K mg base CX0 1 fe fde ["self", "other"] (spEq K)) (bE : Binds K fde ["self", "other"] []) :
    FnOk P w K mg base CX0 7 f fd ["_law_source_here", "_law_table_here"] (spRight K) := by
  have zn : mg "len" = none := T.fr 38 "len" rfl
  have zl : mg "list" = none := T.fr 39 "list" rfl
  have zr : mg "range" = none := T.fr 40 "range" rfl
  have zt : mg "tuple" = none := T.fr 41 "tuple" rfl
  have oe : OwnEq K (He.ga K "Monoid") fe := (T.ops (x := "Monoid") (by decide)).eq mE
  have c0 : L2.Cls K (He.ga K "Monoid") := He.cls_ok (T.d.fact 43 (f := .cls "Monoid") rfl)
  have n0 : NoAttr K (He.ga K "Monoid") "right" := He.noat_ok (T.d.fact 51 (f := .noat "Monoid" "right") rfl)
  refine F.ok scRt (fun vs H Q E h => ?_) (fun cdv A outer s H vs Q E hr h => ?_)
  · obtain ⟨l, n, t, rows, wd, m, rfl, _⟩ := h
    rfl
  · obtain ⟨l, n, t, rows, wd, m, rfl, src, n1, RH, FO, t27, hm, g, fin⟩ := h
    have R1 : Room 1 _ := hr.mono (by decide)
    have R2 : Room 2 _ := hr.mono (by decide)
    have R3 : Room 3 _ := hr.mono (by decide)
    have R5 : Room 5 _ := hr.mono (by decide)
    have hu : (A.deeper (envOfC q (defScope s_L_right) s.heap.objs.size f cdv)).units + 64 < cLine := hr.units
    refine ⟨_, PSs.nox (pss_cons (ps_setLc (i := 2) (own := [("_law_row", 7)]) (g := gName 7) (te := teL7 K) rfl scRt.nd rfl rfl (by rfl) (pi_list (pv 1)) (blkOk_by (own := [("_law_row", 7)]) (N := NRt) (sc := defScope s_L_right) (by decide +kernel)) (fun _ _ _ _ _ => pg_name (i := 7) scRt.nd rfl (Or.inl rfl)) (fun _ _ _ _ _ => pts_nil)
        (fun _ _ _ _ _ => by exact pe_callTy call_list_of rfl zl boot_list (pa_cons (pv 7) pa_nil)))
      (pss_cons (ps_set (i := 3) scRt.nd rfl (.inl rfl) (pe_make mM FM R5 rfl (T.gl 3 "Monoid" rfl) bM .nil (passes_call (E := E0) LamX.takes0 fun _ _ _ _ z => z) (pa_cons (pv 2) pa_nil)))
      (pss_cons (ps_asg pe_int (pg_sub (pe_ix ix_list (pv 2) pe_int (fun _ _ => rfl)) pe_int set_list))
      (pss_cons (ps_expr (pe_bm PySem.F.plainAttrs_list PySem.F.slot_list_append PySem.F.type_list_append mt_append (pv 2) (pa_cons pe_non pa_nil)))
      (pss_cons (ps_if (PW.pt (pw_or (pt_cmpR (op_neD hu) (pe_fld (pv 3) rfl) (pe_callTy call_tuple_of rfl zt PyProof.Rows.boot_tuple (pa_cons (pe_lc (own := [("_law_row", 7)]) (g := gName 7) (te := teT7 K) (by rfl) scRt.nd (pi_list (pv 1)) (blkOk_by (own := [("_law_row", 7)]) (N := NRt) (sc := defScope s_L_right) (by decide +kernel)) (fun _ _ _ _ _ => pg_name (i := 7) scRt.nd rfl (Or.inl rfl)) (fun _ _ _ _ _ => pts_nil)
            (fun _ _ _ _ _ => by exact pe_callTy call_tuple_of rfl zt PyProof.Rows.boot_tuple (pa_cons (pv 7) pa_nil))) pa_nil)) (nomark _))
          (pw_or1 (pt_cmpR (op_ownNe oe FE R2 bE pass0) (pv 3) (pe_make mM FM R5 rfl (T.gl 3 "Monoid" rfl) bM .nil (passes_call (E := E0) LamX.takes0 fun _ _ _ _ z => z) (pa_cons (pe_fld (pv 3) rfl) pa_nil)) (nomark _))))) (pss_one (ps_ret pe_bl)) pss_nil)
      (pss_cons (ps_for PassesOwn.never rfl (pi_range1 rfl zr (pa_cons pe_int pa_nil)) (pg_name (i := 4) scRt.nd rfl (.inl rfl))
        (pss_cons (ps_set (i := 5) scRt.nd rfl (.inl rfl) (pe_def DC R2 pass0 rfl (pa_cons (pv 0) (pa_cons (pv 1) pa_nil))))
        (pss_cons (ps_if (PW.pt (pw_or (pt_cmpR (op_neD hu) (pe_def DH hr pass0 rfl (pa_cons (pv 5) pa_nil)) (pe_def DU R3 pass0 rfl (pa_cons (pv 5) pa_nil)) (nomark _))
            (pw_or1 (pt_cmpR (op_neD hu) (pe_def DH hr pass0 rfl (pa_cons (pe_callTy call_tuple_of rfl zt PyProof.Rows.boot_tuple (pa_cons (pv 5) pa_nil)) pa_nil)) (pe_def DU R3 pass0 rfl (pa_cons (pv 5) pa_nil)) (nomark _))))) (pss_one (ps_ret pe_bl)) pss_nil)
        (pss_cons (ps_if (PW.pt (pw_and (pt_cmpR op_lt (pe_callB call_len_seq rfl zn boot_len (pa_cons (pv 5) pa_nil)) pe_int (nomark _)) (pw_and1 (pt_cmpR op_isN (pe_def DO R1 pass0 rfl (pa_cons (pv 5) pa_nil)) pe_non (nomark _)))))
          (pss_one (ps_if (pt_cmpR op_ne (pe_cmpR op_isN (pe_def DH hr pass0 rfl (pa_cons (pv 5) pa_nil)) pe_non (nomark _)) (pe_def DA R1 pass0 rfl (pa_cons (pv 5) pa_nil)) (nomark _)) (pss_one (ps_ret pe_bl)) pss_nil)) pss_nil)
        (pss_cons (ps_set (i := 6) scRt.nd rfl (.inl rfl) (pe_cmpR (op_eqD hu) (pv 5) (pe_lc (own := [("_law_row", 7)]) (g := gName 7) (te := teL7 K) (by rfl) scRt.nd (pi_list (pv 1)) (blkOk_by (own := [("_law_row", 7)]) (N := NRt) (sc := defScope s_L_right) (by decide +kernel)) (fun _ _ _ _ _ => pg_name (i := 7) scRt.nd rfl (Or.inl rfl)) (fun _ _ _ _ _ => pts_nil)
            (fun _ _ _ _ _ => by exact pe_callTy call_list_of rfl zl boot_list (pa_cons (pv 7) pa_nil))) (nomark _)))
        (pss_cons (ps_if (PW.pt (pw_and (pt_cmpR op_isN (pe_def DH hr pass0 rfl (pa_cons (pv 5) pa_nil)) pe_non (nomark _)) (pw_and1 (pt_cmpR op_ne (pe_cmpR (op_ownEq oe FE R1 bE pass0) (pe_make mM FM R5 rfl (T.gl 3 "Monoid" rfl) bM .nil (passes_call (E := E0) LamX.takes0 fun _ _ _ _ z => z) (pa_cons (pv 5) pa_nil)) (pv 3) (nomark _)) (pv 6) (nomark _))))) (pss_one (ps_ret pe_bl)) pss_nil)
        (pss_cons (ps_set (i := 5) scRt.nd rfl (.inl rfl) (pe_def DS R3 pass0 rfl (pa_cons (pv 0) (pa_cons (pv 1) pa_nil))))
        (pss_one (ps_if (pt_cmpR (op_neD hu) (pe_def DH hr pass0 rfl (pa_cons (pv 5) pa_nil)) (pe_def DU R3 pass0 rfl (pa_cons (pv 5) pa_nil)) (nomark _)) (pss_one (ps_ret pe_bl)) pss_nil)))))))))
      (pss_one (ps_ret pe_bl)))))))), ?_⟩
    obtain ⟨ntl, as, hT, la, rowT⟩ := id RH.ex
    obtain ⟨f1, f2, w1, w6, frow⟩ := id FO
    have vd0 : Vd (some (tabD rows)) none := .ok rfl FO hm g
    refine seq_asg ?_
    refine copy_rows hT la (fun i a row h1 h2 => (rowT i a row h1 h2).2.2) (by omega) fun D us H1 s1 nD hD lu pu => ?_
    have RD : RowsL K H1 D rows := ⟨us, SqL.of hD, lu, fun i a row h1 h2 => SqL.of (pu i a row h1 h2).2.2⟩
    refine ⟨_, rfl, fun pm dx npm ndx xdx => ?_⟩
    refine mon_vd RD.a.tab vd0 npm ndx xdx (fun _ H2 rows2 m2 et hm2 s2 M2 => ?_) (fun _ _ z => nomatch z)
    have er : rows2 = rows := (tabD_inj (Option.some.inj et)).symm
    subst er
    rw [hm] at hm2
    cases hm2
    obtain ⟨u0, hu0⟩ := lt_get (show 0 < us.length by omega)
    obtain ⟨row0, hrow0⟩ := lt_get (show 0 < rows2.length by omega)
    obtain ⟨nu0D, nu0, hu0H⟩ := pu 0 u0 row0 hu0 hrow0
    have fr0 := frow row0 (List.mem_of_getElem? hrow0)
    have hu2 := s2 _ _ hu0H
    have hD2 := s2 _ _ hD
    have s02 := s1.trans s2
    refine ⟨_, rfl, D, _, _, .ref u0, rfl, rfl, SqL.of hD2, atI_nat (j := 0) (get_map hu0), u0, _, _, 0, rfl, rfl, hu2, ixN_nat (k := 0) (by rw [List.length_map]; omega), ?_⟩
    have M3 := M2.solid (Solid.lst (ys := (row0.map nv).set 0 (V.int 99)) hu2)
    have s03 : Same H (L2.upd H2 u0 (.lst ((row0.map nv).set 0 (V.int 99)))) := fun b o e => by rw [upd_ne (ne_of_none e nu0)]; exact s02 _ _ e
    have hD3 : L2.upd H2 u0 (.lst ((row0.map nv).set 0 (V.int 99))) D = some (.lst (us.map V.ref)) := by rw [upd_ne nu0D.symm]; exact hD2
    generalize L2.upd H2 u0 (.lst ((row0.map nv).set 0 (V.int 99))) = H3 at M3 s03 hD3 ⊢
    refine ⟨_, rfl, .inl ⟨rfl, _, SqL.of hD3⟩, D, _, _, rfl, rfl, hD3, by rw [List.length_map, lu]; show rows2.length < 16777216; omega, ?_⟩
    have M4 := M3.solid (Solid.lst (ys := us.map V.ref ++ [V.non]) hD3)
    have s04 : Same H (L2.upd H3 D (.lst (us.map V.ref ++ [V.non]))) := fun b o e => by rw [upd_ne (ne_of_none e nD)]; exact s03 _ _ e
    generalize L2.upd H3 D (.lst (us.map V.ref ++ [V.non])) = H4 at M4 s04 ⊢
    clear s1 s2 hD hu0H hu2 hD2 s02 M2 M3 s03 hD3 RD pu
    obtain ⟨dx4, t4, u4, v4, hm4, RT4, _⟩ := id M4.ex
    refine ⟨_, rfl, _, _, _, _, _, rfl, hm4, c0, n0, rfl, tcb1 ?_⟩
    refine tup_rows (s04 _ _ hT) la (fun i a row h1 h2 => s04 _ _ (rowT i a row h1 h2).2.2) (by omega) fun D5 us5 H5 s5 hD5 lu5 pu5 => ⟨D5, _, rfl, .inl ⟨SqL.of hD5, fun tp ntp => ?_⟩⟩
    have u6 := same_upd (o := .tup (us5.map V.ref)) ntp
    have RT6 : RowsT K (L2.upd H5 tp (.tup (us5.map V.ref))) tp rows2 := ⟨us5, SqT.of upd_same, lu5, fun i a row h1 h2 => SqT.of (u6 _ _ (pu5 i a row h1 h2))⟩
    have s46 := s5.trans u6
    generalize L2.upd H5 tp (.tup (us5.map V.ref)) = H6 at RT6 s46 ⊢
    refine ne_dI (RT4.same s46).dp RT6.dp (trows_sh rows2) ⟨_, rfl, ifF rfl ?_⟩
    refine ⟨_, rfl, _, rfl, _, _, _, _, _, rfl, s46 _ _ hm4, c0, n0, rfl, fun pn dn npn ndn ndpn => ?_⟩
    refine mon_vd (RT4.same s46).a.tab vd0 npn ndn ndpn (fun _ H7 rows7 m7 et7 hm7 s7 M7 => ?_) (fun _ _ z => nomatch z)
    have er : rows7 = rows2 := (tabD_inj (Option.some.inj et7)).symm
    subst er
    have s47 := s46.trans s7
    refine mo_neD T (M4.same s47) M7 ⟨_, rfl, ifF (by simp) ?_⟩
    have s07 := s04.trans s47
    have MX := M4.same s47
    clear M7 s7 s46 RT6 s5 u6 hD5 pu5 M4 s04 hm4 RT4 s47
    refine ⟨6, rfl, by omega, by omega, ?_⟩
    refine for_range (lo := 0) (n := 6) (fun i σ Hn => ∃ v4 v5 v6 : Option V, σ = [some (.ref l), some (.ref t), some (.ref D), some (.ref pm), v4, v5, v6, none] ∧ But l H Hn ∧ Src Hn l (n + 80 * i) ∧ Mo K Hn pm rows7 m)
      ⟨_, _, _, rfl, But.of s07, src.same s07, MX⟩ (fun i σ Hn hi ⟨v4, v5, v6, eσ, bn, sn, Mn⟩ => ?_) (fun σ Hn ⟨v4, v5, v6, eσ, bn, sn, Mn⟩ => ?_)
    · subst eσ
      rw [Int.zero_add]
      clear s07 MX
      refine ⟨_, rfl, _, rfl, l, n + 80 * i, t, rows7, wd, rfl, sn, by omega, RH.but bn, FO, t27, fun p rows' H8 b8 R8 F8 l8 sc8 => ?_⟩
      have b08 := bn.trans b8
      have M8 := Mn.butL sn b8
      clear bn sn Mn b8
      obtain ⟨v, vd⟩ := Vd.total (some (tabD rows'))
      have sh := vd.sh
      -- heard and due of the rows
      refine ⟨_, rfl, .ref p, _, v, rfl, R8.a.tab, vd, told_of (K := K) fun x1 H9 s9 d9 => ?_⟩
      refine ⟨_, rfl, .ref p, _, v, rfl, (R8.same s9).a.tab, vd, told_of (K := K) fun x2 H10 s10 d10 => ?_⟩
      refine ne_dI (dp_same s10 d9) d10 sh ⟨_, rfl, ifF rfl ?_⟩
      have R10 := (R8.same s9).same s10
      have s810 := s9.trans s10
      clear s9 d9 s10 d10
      obtain ⟨as8, sq8, la8, rw8⟩ := id R10.ex
      refine ⟨_, rfl, p, _, rfl, .inl ⟨sq8, fun tp ntp => ?_⟩⟩
      have u11 := same_upd (o := .tup (as8.map V.ref)) ntp
      have RA11 : RowsA K (L2.upd H10 tp (.tup (as8.map V.ref))) tp rows' := ⟨as8, .inr (SqT.of upd_same), la8, fun i a row h1 h2 => .inl (L2.Same.seq u11 (rw8 i a row h1 h2))⟩
      have R11 := R10.same u11
      have s811 := s810.trans u11
      generalize L2.upd H10 tp (.tup (as8.map V.ref)) = H11 at RA11 R11 s811 ⊢
      clear u11 sq8 rw8 R10 s810 ntp
      refine ⟨.ref tp, _, v, rfl, RA11.tab, vd, told_of (K := K) fun x1 H12 s12 d12 => ?_⟩
      refine ⟨_, rfl, .ref p, _, v, rfl, (R11.same s12).a.tab, vd, told_of (K := K) fun x2 H13 s13 d13 => ?_⟩
      refine ne_dI (dp_same s13 d12) d13 sh ⟨_, rfl, ifF rfl ?_⟩
      have R13 := (R11.same s12).same s13
      have s813 := (s811.trans s12).trans s13
      clear s12 d12 s13 d13 R11 s811 RA11
      delta tNext
      dsimp only
      refine seq_same (fun nx next => ?_) (fun H14 s14 => ?_)
      · -- products of all triples
        obtain ⟨as13, sq13, la13, _⟩ := id R13.ex
        refine ⟨_, rfl, p, _, rfl, .inl sq13, _, _, rfl, rfl, _, rfl, ?_⟩
        rw [List.length_map, la13]
        by_cases c13 : rows'.length < 13
        case neg => exact ifF (decide_eq_false (by omega)) (ifF rfl (next _ (L2.Same.refl _)))
        refine ifT (decide_eq_true (by omega)) ?_
        refine ⟨_, rfl, p, rows', wd, rfl, R13.a, F8, fun m' hm' H15 s15 => ⟨rfl, _, rfl, ifT rfl ?_⟩, fun j m' hj a b H15 s15 => ⟨rfl, _, rfl, ifF rfl (next _ s15)⟩⟩
        refine ⟨_, rfl, .ref p, _, v, rfl, (R13.same s15).a.tab, vd, told_of (K := K) fun x1 H16 s16 d16 => ⟨rfl, ?_⟩⟩
        rw [isN_dV d16]
        have s1316 := s15.trans s16
        refine ⟨_, rfl, p, rows', wd, m', rfl, R13.same s1316, F8, by omega, hm', fun gg H17 s17 => ?_, fun bb H17 s17 => ?_⟩
        · rw [vd.l6 rfl F8 hm' gg]
          exact ⟨rfl, _, rfl, ifF rfl (next _ (s1316.trans s17))⟩
        · rcases first_bad rows' (Mon.leftTab rows' m') with gg | ⟨j, h1, h2, h3⟩
          · exact absurd gg bb
          · rw [vd.l5 rfl F8 hm' h1 h2 h3]
            exact ⟨rfl, _, rfl, ifF rfl (next _ (s1316.trans s17))⟩
      have s814 := s813.trans s14
      have R14 := R13.same s14
      clear R13 s813 s14
      have b14 := b08.trans (But.of s814)
      refine seq_asg ⟨_, rfl, ?_⟩
      refine copy_rows (b14 _ _ ntl hT) la (fun i a row h1 h2 => b14 _ _ (rowT i a row h1 h2).1 (rowT i a row h1 h2).2.2) (by omega) fun D15 us15 H15 s15 _ hD15 lu15 pu15 => ?_
      have RD15 : RowsL K H15 D15 rows7 := ⟨us15, SqL.of hD15, lu15, fun i a row h1 h2 => SqL.of (pu15 i a row h1 h2).2.2⟩
      refine ⟨.list (rows'.map dL), .list (rows7.map dL), (R14.same s15).dp, RD15.dp, lrows_sh _, lrows_sh _, ?_⟩
      rw [PyData.eqv, lrows_eqv]
      have s815 := s814.trans s15
      have R15 := R14.same s15
      clear RD15 hD15 pu15 s15 s814 R14 b14
      have M15 := M8.same s815
      show tSeq _ _ _ [some (.ref l), some (.ref t), some (.ref D), some (.ref pm), some (.int (i : Nat)), some (.ref p), some (.bl (decide (rows' = rows7))), none] H15
      refine seq_same (fun nx next => ?_) (fun H16 s16 => ?_)
      · refine ⟨_, rfl, .ref p, _, v, rfl, R15.a.tab, vd, told_of (K := K) fun x1 H16 s16 d16 => ⟨rfl, _, rfl, ?_⟩⟩
        rw [isN_dV d16]
        cases hv : v with
        | some q => exact ifF rfl (ifF rfl (next _ s16))
        | none =>
          refine ifT rfl ⟨_, rfl, fun pn dn npn ndn ndpn => ?_⟩
          refine mon_vd (R15.same s16).a.tab vd npn ndn ndpn (fun _ H17 rows17 m17 et17 hm17 s17 M17 => ?_) (fun _ _ z => by rw [hv] at z; cases z)
          have er : rows17 = rows' := (tabD_inj (Option.some.inj et17)).symm
          subst er
          refine ⟨_, rfl, mo_eqD T M17 (M15.same (s16.trans s17)) ⟨_, rfl, rfl, _, rfl, ifF (by simp) (next _ (s16.trans s17))⟩⟩
      have b16 := b08.trans (But.of (s815.trans s16))
      have M16 := M15.same s16
      have sc16 := sc8.same (s815.trans s16)
      clear s815 R15 M15 b08 M8 sc8 vd sh
      refine ⟨_, rfl, _, rfl, l, n + 80 * i + 40, t, rows7, wd, rfl, sc16, by omega, RH.but b16, FO, t27, fun x tb H17 b17 tv17 sc17 => ?_⟩
      obtain ⟨v, vd⟩ := Vd.total tb
      have sh := vd.sh
      have b017 := b16.trans b17
      have M17 := M16.butL sc16 b17
      refine ⟨_, rfl, x, tb, v, rfl, tv17, vd, told_of (K := K) fun x1 H18 s18 d18 => ?_⟩
      refine ⟨_, rfl, x, tb, v, rfl, tv17.same s18, vd, told_of (K := K) fun x2 H19 s19 d19 => ?_⟩
      refine ne_dI (dp_same s19 d18) d19 sh ⟨_, rfl, ifF rfl ?_⟩
      exact ⟨_, _, _, rfl, b017.trans (But.of (s18.trans s19)), (sc17.same (s18.trans s19)).up (by omega), M17.same (s18.trans s19)⟩
    · subst eσ
      exact fin _ bn (sn.up (by omega))
end
end K12

set_option Elab.async false
set_option linter.all false
set_option maxRecDepth 100000
set_option maxHeartbeats 8000000
namespace K12
open PySem PySem.Spec PyProof.Rows L2 Lf
def spTable (K : PySem.W.Frag) : Sp := fun vs H Q _ => ∃ r n gens, vs = [.ref r] ∧ Maps H r gens ∧ gens ≠ [] ∧ gens.length ≤ 6 ∧ 1 ≤ n ∧ n ≤ 4 ∧ (∀ g ∈ gens, Mon.Valid n g) ∧
  ∀ T pf pw pt pn as bs found rows m H', Same H H' → H T = none → H' T = some (.tup [.ref pf, .ref pw, .ref pt]) → Lay H' pf pw pt pn as bs found (Mon.wordTab m) rows → Mon.Tab n gens found rows → Mon.madeTab 0 rows [] = some m → m.length + 1 = rows.length → (H pf = none ∧ H pw = none ∧ H pt = none ∧ ∀ b ∈ bs, H b = none) → Q (.ref T) H'
abbrev teIm (K : PySem.W.Frag) : TE := tOp (rIxT K) (tVar 8) (tVar 10)
theorem rgV_nv {n : Nat} : rgV 0 (n : Nat) = (Mon.idm n).map nv := by
  unfold rgV Mon.idm
  simp
theorem letter_at {c cc : Nat} (h : c < 6) (e : ("abcdef" : Str).cps[c]? = some cc) : cc = 97 + c := by
  have : c = 0 ∨ c = 1 ∨ c = 2 ∨ c = 3 ∨ c = 4 ∨ c = 5 := by omega
  rcases this with rfl | rfl | rfl | rfl | rfl | rfl <;> exact (Option.some.inj ((show _ = some _ by decide +kernel).symm.trans e)).symm
section
variable {P : Program} {w : World} {K : PySem.W.Frag} {mg : Str → Option Value} {base : Heap}
theorem scTable : FnScope ["_law_rows", "_law_found", "_law_words", "_law_table_here", "_law_numbers", "_law_at", "_law_row", "_law_letter", "_law_other", "_law_product", "_law_image"] ["_law_rows"] (defScope s_L_table) := ⟨rfl, rfl, rfl, by decide +kernel, rfl, by decide +kernel, by decide +kernel⟩
theorem ok_table {f : Addr} {fd : FuncData} {q : Str} (F : FunD K "_law_table" q (defArgs s_L_table) (defBody s_L_table) (defScope s_L_table) [] [] f fd) (zr : mg "range" = none) (zt : mg "tuple" = none) (zn : mg "len" = none) (zz : mg "zip" = none) :
    FnOk P w K mg base CX0 1 f fd ["_law_rows"] (spTable K) := by
  refine F.ok scTable (fun vs H Q E h => ?_) (fun cdv A outer s H vs Q E hr h => ?_)
  · obtain ⟨r, n, gens, rfl, _⟩ := h
    rfl
  · obtain ⟨r, n, gens, rfl, M, ne, g6, n1, n4, gv, k⟩ := h
    have hu : (A.deeper (envOfC q (defScope s_L_table) s.heap.objs.size f cdv)).units + 1 < cLine := by have := hr.units; omega
    refine ⟨_, PSs.nox (pss_cons (ps_par3 (i := 1) (j := 2) (l := 3) rfl scTable.nd rfl rfl rfl (by decide) (by decide) (by decide) rfl rfl rfl
        (pa_cons (pe_lst (pa_cons (pe_tupRg rfl rfl zt (prg_1 rfl zr (pe_callB call_len_seq rfl zn boot_len (pa_cons (pe_ix ix_list (pv 0) pe_int (fun _ _ => rfl)) pa_nil)))) pa_nil)) (pa_cons (pe_lst (pa_cons pe_str pa_nil)) (pa_cons (pe_lst pa_nil) pa_nil))) (by rfl))
      (pss_cons (ps_set (i := 4) scTable.nd rfl (.inl rfl) (pe_dispT1 hu (pe_ix ix_list (pv 1) pe_int (fun _ _ => rfl)) pe_int))
      (pss_cons (ps_for PassesOwn.never rfl (pi_range1 rfl zr (pa_cons pe_int pa_nil)) (pg_name (i := 5) scTable.nd rfl (.inl rfl))
        (pss_cons (ps_if (pt_cmpR op_ge (pv 5) (pe_callB call_len_seq rfl zn boot_len (pa_cons (pv 1) pa_nil)) (nomark _)) (pss_one (ps_ret (pe_tup (pa_cons (pv 1) (pa_cons (pv 2) (pa_cons (pv 3) pa_nil)))))) pss_nil)
        (pss_cons (ps_set (i := 6) scTable.nd rfl (.inl rfl) (pe_lst pa_nil))
        (pss_cons (ps_for PassesOwn.never rfl (pi_zips rfl zz (pa_cons pe_str (pa_cons (pv 0) pa_nil))) (pg_tup rfl (pgs_cons (pg_name (i := 7) scTable.nd rfl (.inl rfl)) (pgs_cons (pg_name (i := 8) scTable.nd rfl (.inr rfl)) pgs_nil)))
          (pss_cons (ps_set (i := 9) scTable.nd rfl (.inl rfl) (pe_callTy call_tuple_of rfl zt PyProof.Rows.boot_tuple (pa_cons (pe_lc (own := [("_law_image", 10)]) (g := gName 10) (te := teIm K) (by rfl) scTable.nd (pi_tup (pe_ix ix_list (pv 1) (pv 5) (fun _ _ => rfl))) (blkOk_by (own := [("_law_image", 10)]) (N := ["_law_rows", "_law_found", "_law_words", "_law_table_here", "_law_numbers", "_law_at", "_law_row", "_law_letter", "_law_other", "_law_product", "_law_image"]) (sc := defScope s_L_table) (by decide +kernel)) (fun _ _ _ _ _ => pg_name (i := 10) scTable.nd rfl (Or.inl rfl)) (fun _ _ _ _ _ => pts_nil)
              (fun _ _ _ _ _ => by exact pe_ix ix_tup (pv 8) (pv 10) (fun _ _ => rfl))) pa_nil)))
          (pss_cons (ps_if (pt_cmp (pc_dnotin hu (pv 9) (pv 4)) (by rfl))
            (pss_cons (ps_dput hu (pv 4) (pv 9) (pe_callB call_len_seq rfl zn boot_len (pa_cons (pv 1) pa_nil)) rfl)
            (pss_cons (ps_expr (pe_bm PySem.F.plainAttrs_list PySem.F.slot_list_append PySem.F.type_list_append mt_append (pv 1) (pa_cons (pv 9) pa_nil)))
            (pss_one (ps_expr (pe_bm PySem.F.plainAttrs_list PySem.F.slot_list_append PySem.F.type_list_append mt_append (pv 2) (pa_cons (pe_op op_add_str (pe_ix ix_list (pv 2) (pv 5) (fun _ _ => rfl)) (pv 7)) pa_nil)))))) pss_nil)
          (pss_one (ps_expr (pe_bm PySem.F.plainAttrs_list PySem.F.slot_list_append PySem.F.type_list_append mt_append (pv 6) (pa_cons (pe_dget hu (pv 4) (pv 9) (fun _ _ => rfl)) pa_nil)))))))
        (pss_one (ps_expr (pe_bm PySem.F.plainAttrs_list PySem.F.slot_list_append PySem.F.type_list_append mt_append (pv 3) (pa_cons (pv 6) pa_nil))))))))
      (pss_one (ps_ret (pe_tup (pa_cons (pv 1) (pa_cons (pv 2) (pa_cons (pv 3) pa_nil))))))))), ?_⟩
    obtain ⟨gs, hr0, lg, eg⟩ := M.ex
    have n0 : 0 < gens.length := List.length_pos_iff.mpr ne
    obtain ⟨a0, ha0⟩ := lt_get (show 0 < gs.length by omega)
    obtain ⟨g0, hg0⟩ := lt_get n0
    have v0 := gv g0 (List.mem_of_getElem? hg0)
    refine ⟨_, rfl, r, gs.map V.ref, 0, .ref a0, rfl, rfl, SqL.of hr0, atI_nat (j := 0) (get_map ha0), a0, g0.map nv, rfl, .inr (SqT.of (eg 0 a0 g0 ha0 hg0)), (n : Nat), by rw [List.length_map, v0.1], ?_⟩
    refine ⟨⟨by decide, by decide, by omega, by omega, by omega⟩, fun i0 ni0 => ?_⟩
    rw [rgV_nv]
    have s1 := same_upd (o := .tup ((Mon.idm n).map nv)) ni0
    have h1 : upd H i0 (.tup ((Mon.idm n).map nv)) i0 = some (.tup ((Mon.idm n).map nv)) := upd_same
    generalize upd H i0 (.tup ((Mon.idm n).map nv)) = H1 at s1 h1 ⊢
    refine ⟨(by show 1 ≤ sizeLine; decide), fun pf nf => ⟨(by show 1 ≤ sizeLine; decide), fun pw nw => ⟨(by show 0 ≤ sizeLine; decide), fun pt nt => ⟨_, _, _, rfl, ?_⟩⟩⟩⟩
    have hpf0 : H pf = none := by
      cases e : H pf with
      | none => rfl
      | some o => rw [s1 _ _ e] at nf; cases nf
    have hf2 : upd H1 pf (.lst [.ref i0]) pf = some (.lst ([i0].map V.ref)) := upd_same
    have s2 := s1.trans (same_upd (o := .lst [.ref i0]) nf)
    have h2 := same_upd (o := .lst [.ref i0]) nf _ _ h1
    generalize upd H1 pf (.lst [.ref i0]) = H2 at s2 h2 hf2 nw nt ⊢
    have hpw0 : H pw = none := by
      cases e : H pw with
      | none => rfl
      | some o => rw [s2 _ _ e] at nw; cases nw
    have hw3 : upd H2 pw (.lst [.str ("" : Str)]) pw = some (.lst ([[]].map wv)) := upd_same
    have u3 := same_upd (o := .lst [.str ("" : Str)]) nw
    have s3 := s2.trans u3
    have h3 := u3 _ _ h2
    have hf3 := u3 _ _ hf2
    have d1 := ne_of_none hf2 nw
    generalize upd H2 pw (.lst [.str ("" : Str)]) = H3 at s3 h3 hf3 hw3 nt ⊢
    have hpt0 : H pt = none := by
      cases e : H pt with
      | none => rfl
      | some o => rw [s3 _ _ e] at nt; cases nt
    have ht4 : upd H3 pt (.lst []) pt = some (.lst (([] : List Addr).map V.ref)) := upd_same
    have u4 := same_upd (o := .lst []) nt
    have s4 := s3.trans u4
    have h4 := u4 _ _ h3
    have hf4 := u4 _ _ hf3
    have hw4 := u4 _ _ hw3
    have d2 := ne_of_none hf3 nt
    have d3 := ne_of_none hw3 nt
    generalize upd H3 pt (.lst []) = H4 at s4 h4 hf4 hw4 ht4 ⊢
    clear u3 u4 s1 s2 s3 h1 h2 h3 hf2 hf3 hw3 nf nw nt
    intro pn nn
    have u5 := same_upd (o := .dT []) nn
    have s5 := s4.trans u5
    have h5 := u5 _ _ h4
    have hf5 := u5 _ _ hf4
    have hw5 := u5 _ _ hw4
    have ht5 := u5 _ _ ht4
    have hn5 : upd H4 pn (.dT []) pn = some (.dT []) := upd_same
    have hn0 : H pn = none := by
      cases e : H pn with
      | none => rfl
      | some o => rw [s4 _ _ e] at nn; cases nn
    generalize upd H4 pn (.dT []) = H5 at s5 h5 hf5 hw5 ht5 hn5 ⊢
    refine ⟨_, rfl, pf, _, 0, .ref i0, rfl, rfl, SqL.of hf5, rfl, kt (Mon.idm n), i0, _, hn5, rfl, by rw [kt_map]; exact h5, rfl, ?_⟩
    have s6 : Same H (upd H5 pn (.dT [(kt (Mon.idm n), .int 0)])) := fun b o e => by
      rw [upd_ne (ne_of_none e hn0)]
      exact s5 b o e
    have L0 : Lay (upd H5 pn (.dT [(kt (Mon.idm n), .int 0)])) pf pw pt pn [i0] [] [Mon.idm n] (Mon.wordTab []) [] := by
      have e1 : pn ≠ pf := fun z => by rw [z, hf5] at hn5; cases hn5
      have e2 : pn ≠ pw := fun z => by rw [z, hw5] at hn5; cases hn5
      have e3 : pn ≠ pt := fun z => by rw [z, ht5] at hn5; cases hn5
      refine ⟨by rw [upd_ne e1.symm]; exact hf5, rfl, fun j a x g1 g2 => ?_, by rw [upd_ne e2.symm]; exact hw5, by rw [upd_ne e3.symm]; exact ht5, rfl, fun j b r g1 g2 => (by simp at g1), fun b hb => (by cases hb), upd_same, d1, d2, d3⟩
      cases j with
      | zero =>
        cases g1
        cases g2
        rw [upd_ne (fun z => by rw [z, hn5] at h5; cases h5)]
        exact h5
      | succ j => simp at g1
    generalize upd H5 pn (.dT [(kt (Mon.idm n), .int 0)]) = H6 at s6 L0 ⊢
    clear s5 h5 hf5 hw5 ht5 hn5 hf4 hw4 ht4 h4 u5 s4 nn
    have hp0 : ∀ {b : Addr} {o : HO}, H b = some o → b ≠ pn := fun e => ne_of_none e hn0
    refine ⟨3000, rfl, by decide, by decide, for_range (lo := 0) (n := 3000) (fun i σ Hn => ∃ v5 v6 v7 v8 v9 : Option V, σ = [some (.ref r), some (.ref pf), some (.ref pw), some (.ref pt), some (.ref pn), v5, v6, v7, v8, v9, none] ∧ Same H Hn ∧ ∃ as bs found rows m, Lay Hn pf pw pt pn as bs found (Mon.wordTab m) rows ∧ Mon.Bfs n gens i 0 found rows [] m ∧ ∀ b ∈ bs, H b = none)
      ⟨none, none, none, none, none, rfl, s6, [i0], [], [Mon.idm n], [], [], L0, Mon.Bfs.start gv, fun b hb => (by cases hb)⟩ (fun i σ Hn hi ⟨v5, v6, v7, v8, v9, eσ, sn, as, bs, found, rows, m, L, B, fr⟩ => ?_) (fun σ Hn ⟨v5, v6, v7, v8, v9, eσ, sn, as, bs, found, rows, m, L, B, fr⟩ => ?_)⟩
    · subst eσ
      have ei : (0 : Int) + (i : Nat) = (i : Nat) := by omega
      rw [ei]
      have f1 := B.few
      have f2 : n ^ n ≤ 256 := by
        have : n = 1 ∨ n = 2 ∨ n = 3 ∨ n = 4 := by omega
        rcases this with rfl | rfl | rfl | rfl <;> decide
      refine ⟨_, rfl, _, rfl, pf, as.map V.ref, rfl, .inl (SqL.of L.f), _, _, rfl, rfl, _, rfl, ?_⟩
      rw [List.length_map, L.fl]
      refine ite2 (fun h0 => ?_) (fun h0 => ?_)
      · have le := of_decide_eq_true h0
        refine ⟨_, rfl, _, rfl, _, rfl, (by show 3 ≤ sizeLine; decide), fun T nT => ?_⟩
        obtain ⟨Tb, hm, lm⟩ := B.tab (by omega)
        have u := same_upd (o := .tup [.ref pf, .ref pw, .ref pt]) nT
        have nT0 : H T = none := by
          cases e : H T with
          | none => rfl
          | some o => rw [sn _ _ e] at nT; cases nT
        exact k T pf pw pt pn as bs found rows m _ (sn.trans u) nT0 upd_same (L.same u) Tb hm lm ⟨hpf0, hpw0, hpt0, fr⟩
      · have il : i < found.length := by
          by_cases z : i < found.length
          · exact z
          · exact (h0 (decide_eq_true (by omega))).elim
        refine ⟨(by show 0 ≤ sizeLine; decide), fun pr nr => ?_⟩
        have np : pr ≠ pf ∧ pr ≠ pw ∧ pr ≠ pt := ⟨(ne_of_none L.f nr).symm, (ne_of_none L.w nr).symm, (ne_of_none L.t nr).symm⟩
        have nb : pr ∉ bs := fun hb => by
          obtain ⟨j, hj⟩ := List.getElem?_of_mem hb
          obtain ⟨r', hr'⟩ := lt_get (show j < rows.length by rw [← L.tl]; exact get_lt hj)
          have := L.te j pr r' hj hr'
          rw [nr] at this
          cases this
        have u := same_upd (o := .lst []) nr
        have L1 := L.same u
        have s7 := sn.trans u
        have hr7 : upd Hn pr (.lst []) pr = some (.lst (([] : List Nat).map nv)) := upd_same
        have nr0 : H pr = none := by
          cases e : H pr with
          | none => rfl
          | some o => rw [sn _ _ e] at nr; cases nr
        have nf0 : H pf = none ∧ H pw = none ∧ H pt = none := ⟨hpf0, hpw0, hpt0⟩
        generalize upd Hn pr (.lst []) = H7 at L1 s7 hr7 ⊢
        clear L nr u sn
        have wk : Walk (Itzs K ("abcdef" : Str) r) (gs.map V.ref).length (fun H2 => Same H H2) (fun i H v H' => ∃ (T : Addr) (c : Nat) (y : V), v = .ref T ∧ H T = none ∧ H' = L2.upd H T (.tup [.str ⟨#[c]⟩, y]) ∧ ("abcdef" : Str).cps[i]? = some c ∧ (gs.map V.ref)[i]? = some y) :=
          (walk_zips (x := ("abcdef" : Str)) (ys := gs.map V.ref) (by rw [List.length_map, lg]; exact g6)).mono (fun H s => L2.Same.seq s (SqL.of hr0)) (fun i H x H' _ _ y => y)
        refine ⟨_, rfl, _, r, gs.map V.ref, rfl, SqL.of (s7 _ _ hr0), for_it wk (fun c σ Hc => ∃ v7 v8 v9 : Option V, σ = [some (.ref r), some (.ref pf), some (.ref pw), some (.ref pt), some (.ref pn), some (.int (i : Nat)), some (.ref pr), v7, v8, v9, none] ∧ Same H Hc ∧ ∃ as found m row, Lay Hc pf pw pt pn as bs found (Mon.wordTab m) rows ∧ Mon.Bfs n gens i c found rows row m ∧ Hc pr = some (.lst (row.map nv)) ∧ i < found.length)
          ⟨_, _, _, rfl, s7, as, found, m, [], L1, B, hr7, il⟩ (fun c σ Hc _ ⟨_, _, _, _, z, _⟩ => z) (fun c y σ Hc H8 hc ⟨v7, v8, v9, eσ, sc, as, found, m, row, L, B, hR, il⟩ ⟨T, cc, z, ey, nT, e8, hcc, hz⟩ => ?_) (fun σ Hc ⟨v7, v8, v9, eσ, sc, as, found, m, row, L, B, hR, il⟩ => ?_)⟩
        · subst eσ ey e8
          obtain ⟨bg, hbg, rfl⟩ := map_get hz
          obtain ⟨g, hg⟩ := lt_get (show c < gens.length by rw [← lg]; exact get_lt hbg)
          obtain ⟨x, hx⟩ := lt_get il
          obtain ⟨a, ha⟩ := lt_get (show i < as.length by rw [L.fl]; exact il)
          have vx := B.val x (List.mem_of_getElem? hx)
          have vg := gv g (List.mem_of_getElem? hg)
          have cc6 : cc = 97 + c := letter_at (Nat.lt_of_lt_of_le (get_lt hg) g6) hcc
          refine ⟨T, _, rfl, SqT.of upd_same, rfl, _, _, rfl, _, _, rfl, rfl, ?_⟩
          have u8 := same_upd (o := .tup [.str ⟨#[cc]⟩, .ref bg]) nT
          have s8 := sc.trans u8
          have L8 := L.same u8
          have hR8 := u8 _ _ hR
          generalize L2.upd Hc T (.tup [.str ⟨#[cc]⟩, .ref bg]) = H8 at s8 L8 hR8 ⊢
          clear u8 nT L hR sc
          have hg8 : H8 bg = some (.tup (g.map nv)) := s8 _ _ (eg c bg g hbg hg)
          have ha8 := L8.fe i a x ha hx
          refine ⟨_, rfl, _, rfl, pf, as.map V.ref, _, .ref a, rfl, rfl, SqL.of L8.f, atI_nat (get_map ha), a, rfl, ⟨_, SqT.of ha8⟩, fun D nD => ?_⟩
          refine lc_tup (K := K) (a := a) (xs := x.map nv) (fun j Hd => But D H8 Hd ∧ Hd D = some (.lst (((x.take j).map fun i => g.getD i 0).map nv))) ⟨But.upd, upd_same⟩ (fun j Hd _ ⟨bd, _⟩ => Lf.SqT.same (Same.but (L2.Same.refl _) nD bd) (SqT.of ha8)) (fun j z Hd hz ⟨bd, hD⟩ => ?_) (fun Hd ⟨bd, hD⟩ => ?_)
          · obtain ⟨xi, hxi, rfl⟩ := map_get hz
            refine ⟨rfl, yesT ?_⟩
            have sd := Same.but (L2.Same.refl _) nD bd
            obtain ⟨e, he⟩ := lt_get (show xi < g.length by rw [vg.1]; exact vx.2 xi (List.mem_of_getElem? hxi))
            refine ⟨_, rfl, _, rfl, bg, g.map nv, _, nv e, rfl, rfl, SqT.of (sd _ _ hg8), atI_nat (get_map he), ?_⟩
            refine ⟨_, hD, ?_, But.trans bd But.upd, ?_⟩
            · rw [List.length_map, List.length_map, List.length_take]
              have := vx.1
              show min j x.length < 16777216
              omega
            · rw [upd_same, take_snoc hxi, List.map_append, List.map_append, List.map_cons, List.map_nil, List.map_cons, List.map_nil, Mon.getD_of he]
          · rw [List.length_map, List.take_length] at hD
            have sd := Same.but (L2.Same.refl _) nD bd
            refine ⟨D, _, rfl, .inl ⟨SqL.of hD, fun N nN => ?_⟩⟩
            have u9 := sd.trans (same_upd (o := .tup ((x.map fun i => g.getD i 0).map nv)) nN)
            have hN : L2.upd Hd N (.tup ((x.map fun i => g.getD i 0).map nv)) N = some (.tup ((kt (Mon.comp x g)).map kV)) := by rw [kt_map]; exact upd_same
            generalize L2.upd Hd N (.tup ((x.map fun i => g.getD i 0).map nv)) = H9 at u9 hN ⊢
            have s9 := s8.trans u9
            have L9 := L8.same u9
            have hR9 := u9 _ _ hR8
            have hNn : H9 N = some (.tup ((Mon.comp x g).map nv)) := by rw [hN, kt_map]
            clear hD bd sd nN u9 s8 L8 hR8 hg8 ha8
            have f1 := B.few
            have f2 : n ^ n ≤ 256 := by
              have : n = 1 ∨ n = 2 ∨ n = 3 ∨ n = 4 := by omega
              rcases this with rfl | rfl | rfl | rfl <;> decide
            have rl : (row.map nv).length < 16777216 := by rw [List.length_map, B.rlen]; have := get_lt hg; omega
            refine ⟨_, rfl, _, rfl, pn, _, rfl, DGet.t L9.d hN, _, rfl, ?_⟩
            by_cases hm : Mon.comp x g ∈ found
            · obtain ⟨t, ht⟩ := List.getElem?_of_mem hm
              have hv : valV (dtab found) (kt (Mon.comp x g)) = some (nv t) := by
                have := dtabF_some (k := 0) B.nd ht
                rwa [Nat.zero_add] at this
              rw [hv]
              refine ifF rfl ?_
              refine ⟨_, rfl, .inl ⟨rfl, _, SqL.of hR9⟩, _, rfl, _, rfl, pn, nv t, rfl, hv ▸ DGet.t L9.d hN, pr, row.map nv, _, rfl, rfl, hR9, rl, _, _, _, rfl, fun b o e => ?_, as, found, m, row ++ [t], L9.off hR9 np nb, B.old hx hg ht, ?_, il⟩
              · rw [upd_ne (ne_of_none e nr0)]
                exact s9 b o e
              · rw [upd_same, List.map_append]
                rfl
            · have hv : valV (dtab found) (kt (Mon.comp x g)) = none := dtabF_none hm
              rw [hv]
              refine ifT rfl ?_
              obtain ⟨wd, hwd⟩ := lt_get (show i < (Mon.wordTab m).length by rw [Mon.word_len, B.mlen]; exact il)
              have lwd := word_short (List.mem_of_getElem? hwd)
              have ml := B.mlen
              obtain ⟨e1, e2, e3⟩ := L9.gn
              have epr : pr ≠ pn := fun z => by
                have := L9.d
                rw [← z, hR9] at this
                cases this
              refine ⟨_, rfl, pf, as.map V.ref, rfl, .inl (SqL.of L9.f), _, rfl, _, rfl, pn, _, rfl, DPut.t L9.d hN (by rw [dtabF_len]; show found.length < 16777216; omega), ?_⟩
              rw [List.length_map, L9.fl, dtab_put hm]
              have hf10 : L2.upd H9 pn (.dT (dtab (found ++ [Mon.comp x g]))) pf = some (.lst (as.map V.ref)) := by rw [upd_ne e1.symm]; exact L9.f
              have hw11 : L2.upd (L2.upd H9 pn (.dT (dtab (found ++ [Mon.comp x g])))) pf (.lst (as.map V.ref ++ [.ref N])) pw = some (.lst ((Mon.wordTab m).map wv)) := by rw [upd_ne L9.n1.symm, upd_ne e2.symm]; exact L9.w
              refine ⟨_, rfl, .inl ⟨rfl, _, SqL.of hf10⟩, _, rfl, pf, as.map V.ref, _, rfl, rfl, hf10, (by rw [List.length_map, L9.fl]; show found.length < 16777216; omega), ?_⟩
              refine ⟨_, rfl, .inl ⟨rfl, _, SqL.of hw11⟩, _, rfl, _, rfl, pw, _, _, wv wd, rfl, rfl, SqL.of hw11, atI_nat (get_map hwd), _, rfl, ws wd, ⟨#[cc]⟩, rfl, rfl, (by rw [ws_len]; show wd.length + 1 ≤ 16777216; omega), pw, (Mon.wordTab m).map wv, _, rfl, rfl, hw11, (by rw [List.length_map, Mon.word_len]; show m.length + 1 < 16777216; omega), ?_⟩
              have B2 := B.new hx hg hm
              have L12 : Lay (L2.upd (L2.upd (L2.upd H9 pn (.dT (dtab (found ++ [Mon.comp x g])))) pf (.lst (as.map V.ref ++ [.ref N]))) pw (.lst ((Mon.wordTab m).map wv ++ [.str (ws wd ++ (⟨#[cc]⟩ : Str))]))) pf pw pt pn (as ++ [N]) bs (found ++ [Mon.comp x g]) (Mon.wordTab (m ++ [(i, c)])) rows := by
                have q := L9.add (wd := wd ++ [c]) hNn
                rw [Mon.word_snoc, Mon.wordStep, Mon.getD_of hwd, cc6, ws_app]
                simp only [List.map_append, List.map_cons, List.map_nil] at q
                exact q
              have hR12 : L2.upd (L2.upd (L2.upd H9 pn (.dT (dtab (found ++ [Mon.comp x g])))) pf (.lst (as.map V.ref ++ [.ref N]))) pw (.lst ((Mon.wordTab m).map wv ++ [.str (ws wd ++ (⟨#[cc]⟩ : Str))])) pr = some (.lst (row.map nv)) := by
                rw [upd_ne np.2.1, upd_ne np.1, upd_ne epr]
                exact hR9
              have hN12 : L2.upd (L2.upd (L2.upd H9 pn (.dT (dtab (found ++ [Mon.comp x g])))) pf (.lst (as.map V.ref ++ [.ref N]))) pw (.lst ((Mon.wordTab m).map wv ++ [.str (ws wd ++ (⟨#[cc]⟩ : Str))])) N = some (.tup ((kt (Mon.comp x g)).map kV)) := by
                rw [upd_ne (fun z => by rw [z, L9.w] at hN; cases hN), upd_ne (fun z => by rw [z, L9.f] at hN; cases hN), upd_ne (fun z => by rw [z, L9.d] at hN; cases hN)]
                exact hN
              have s12 : Same H (L2.upd (L2.upd (L2.upd H9 pn (.dT (dtab (found ++ [Mon.comp x g])))) pf (.lst (as.map V.ref ++ [.ref N]))) pw (.lst ((Mon.wordTab m).map wv ++ [.str (ws wd ++ (⟨#[cc]⟩ : Str))]))) := fun b o e => by
                rw [upd_ne (ne_of_none e hpw0), upd_ne (ne_of_none e hpf0), upd_ne (ne_of_none e hn0)]
                exact s9 b o e
              generalize L2.upd (L2.upd (L2.upd H9 pn (.dT (dtab (found ++ [Mon.comp x g])))) pf (.lst (as.map V.ref ++ [.ref N]))) pw (.lst ((Mon.wordTab m).map wv ++ [.str (ws wd ++ (⟨#[cc]⟩ : Str))])) = H12 at L12 hR12 hN12 s12 ⊢
              have hv2 : valV (dtab (found ++ [Mon.comp x g])) (kt (Mon.comp x g)) = some (nv found.length) := by
                have := dtabF_some (k := 0) (i := found.length) B2.nd (by rw [List.getElem?_append_right (Nat.le_refl _), Nat.sub_self]; rfl)
                rwa [Nat.zero_add] at this
              refine ⟨_, rfl, .inl ⟨rfl, _, SqL.of hR12⟩, _, rfl, _, rfl, pn, nv found.length, rfl, hv2 ▸ DGet.t L12.d hN12, pr, row.map nv, _, rfl, rfl, hR12, rl, _, _, _, rfl, fun b o e => ?_, as ++ [N], _, _, row ++ [found.length], L12.off hR12 np nb, B2, ?_, by rw [List.length_append]; omega⟩
              · rw [upd_ne (ne_of_none e nr0)]
                exact s12 b o e
              · rw [upd_same, List.map_append]
                rfl
        · subst eσ
          have gl : (gs.map V.ref).length = gens.length := by rw [List.length_map, lg]
          rw [gl] at B
          obtain ⟨x, hx⟩ := lt_get il
          refine ⟨_, rfl, .inl ⟨rfl, _, SqL.of L.t⟩, _, rfl, pt, bs.map V.ref, _, rfl, rfl, L.t, by rw [List.length_map, L.tl, B.len]; show i < 16777216; omega, _, _, _, _, _, rfl, fun b o e => ?_, as, bs ++ [pr], found, rows ++ [row], m, ?_, B.next rfl (by omega) hx, fun b hb => ?_⟩
          · rw [upd_ne (ne_of_none e nf0.2.2)]
            exact sc b o e
          · have := L.row hR np
            rw [List.map_append] at this
            exact this
          · rcases List.mem_append.mp hb with z | z
            · exact fr b z
            · rw [List.mem_singleton.mp z]
              exact nr0
    · exfalso
      have f1 := B.few
      have f2 : n ^ n ≤ 256 := by
        have : n = 1 ∨ n = 2 ∨ n = 3 ∨ n = 4 := by omega
        rcases this with rfl | rfl | rfl | rfl <;> decide
      have := B.le
      omega
end
end K12

set_option Elab.async false
set_option linter.all false
set_option maxRecDepth 100000
set_option maxHeartbeats 4000000
/-! Functions that are promised only where no repr is under way; repr of a list of ints. -/
namespace Lf
open PySem PySem.Spec PyProof.Rows L2
/-- a promise of calls from where no repr is under way -/
structure FnG (P : Program) (w : World) (K : PySem.W.Frag) (mg : Str → Option Value) (base : Heap) (CX : CXT) (k : Nat) (f : Addr) (fd : FuncData) (ps : List Str) (sp : Sp) : Prop where
  len : ∀ vs H Q E, sp vs H Q E → vs.length = ps.length
  run : ∀ (A : Around) (outer : List Env) (s : Shared) (H : Hp) (args : Args) (us : List Value) (vs : List V) (Q : VK) (E : XK), A.guards = some [] → Room k A → Env0 P w K mg base A outer s H → BindsTo s fd args (ps.zip us) → Vals vs us → sp vs H Q E →
    codeAny (model P w) A (.call (.ref f) args) (CR CX outer P w H s Q E) s
section
variable {CX : CXT} {P : Program} {w : World} {K : PySem.W.Frag} {mg : Str → Option Value} {base : Heap} {x qual : Str} {params : Arguments} {body : List Stmt} {scope : Scope} {f : Addr} {fd : FuncData}
theorem okG {N ps : List Str} {k : Nat} {sp : Sp} (F : FunD K x qual params body scope [] [] f fd) (S : FnScope N ps scope) (len : ∀ vs H Q E, sp vs H Q E → vs.length = ps.length)
    (hbody : ∀ (cdv : Value) (A : Around) (outer : List Env) (s : Shared) (H : Hp) (vs : List V) (Q : VK) (E : XK), A.guards = some [] → Room k (A.deeper (envOfC qual scope s.heap.objs.size f cdv)) → sp vs H Q E →
      ∃ t, PSs (cxOf CX P w K mg base N qual scope f cdv A outer s H E) body t ∧ t { nx := fun _ H' => Q .non H', rt := Q } (L2.start N vs) H) : FnG P w K mg base CX (k + 1) f fd ps sp := by
  obtain ⟨oc, od, dV, kV, doc, pm, an, cdv, ct, osl, rfl, lk, hcd, _, _⟩ := F.ex
  refine ⟨len, fun A outer s H args us vs Q E hgd hr e0 hb r hsp => ?_⟩
  have hl := len _ _ _ _ hsp
  have KX : K.In s.heap := e0.mod.kin.keeps fun b o e => (e0.bs b o e).1
  have hk : ∀ y ∈ ps.zip us, scope.names.lookup y.1 = some .local ∨ (scope.names.lookup y.1 = some .cell ∧ ((cellsFrom (s.heap.objs.size + 1) scope.names []).lookup y.1).isSome = true) := fun y hy =>
    (S.par y.1 (List.of_mem_zip hy).1).imp id fun q => ⟨q, PySem.W.cellsFrom_some _ _ _ (.inl q)⟩
  refine codeAny_call_function hr.depth (KX _ _ lk) rfl S.co S.gen rfl (PySem.W.codeRec_of KX hcd) (hb _ _ _ _ (wpAny_newFunctionEnv_cells S.kind hk fun env he s1 g => ?_))
  subst he
  refine ⟨(e0.mod.nolimit.keeps fun b o e => (e0.bs b o e).1).keeps g.toInCall.keep, codeAny_func ?_⟩
  obtain ⟨t, ht, hq⟩ := hbody cdv A outer s H vs Q E hgd (hr.deeper _) hsp
  refine wpAny_mono (ht.run [] s1 (L2.start N vs) H _ (inv_start S hr.hd e0 hl r g) hq) (fun fl s' hs => ?_) fun _ _ hs => hs
  cases fl with
  | brk => exact hs.elim fun _ z => z.elim fun _ z => False.elim z.2
  | cont => exact hs.elim fun _ z => z.elim fun _ z => False.elim z.2
  | next =>
    obtain ⟨_, H', J, q⟩ := hs
    exact ⟨V.non, H', J.os, J.bare, J.base, J.hok, rfl, q⟩
  | ret u =>
    obtain ⟨v, _, H', J, rv, q⟩ := hs
    exact ⟨v, H', J.os, J.bare, J.base, J.hok, rv, q⟩
end
/-- a def by its name -/
structure DefG (P : Program) (w : World) (K : PySem.W.Frag) (mg : Str → Option Value) (base : Heap) (CX : CXT) (k : Nat) (x : Str) (ps : List Str) (sp : Sp) : Prop where
  ex : ∃ f fd, mg x = some (.ref f) ∧ PySem.W.keepIn K (.ref f) = true ∧ FnG P w K mg base CX k f fd ps sp ∧ Binds K fd ps []
section
variable {X : Cx} {CX : CXT} {k : Nat} {x : Str} {ps : List Str} {sp : Sp} {E : XK} {e : Expr} {es : List Expr} {t : TA} {p pos : Pos}
theorem pe_defG (D : DefG X.prog X.w X.K X.mg X.base CX k x ps sp) (hgd : X.A.guards = some []) (hr : Room k X.A) (hx : Passes CX X E) (hg : Gl X x) (ha : PA X (e :: es) t)
    (hdb : (x == ("__debug__" : Str)) = false := by decide +kernel) (he : starEach (e :: es) X.env = (false, eval e X.env) :: starEach es X.env := by rfl)
    (hpl : (backTo pos (starEach es X.env)).any (·.1) = false := by rfl) : PE X (.Call (.Name x p) (e :: es) [] pos) (fun σ H Q => t σ H fun vs H1 => sp vs H1 Q E) := by
  obtain ⟨f, fd, g, kp, F, b⟩ := D.ex
  refine ⟨fun pins s σ H Q I h => wpAny_Call_Name_kw (ld_glob I hg g ?_ hdb)⟩
  refine PySem.W.callWith_K (h₀ := X.base) I.ok.mod.kin kp (thn (ha.run pos pins s σ H _ I h) fun us s1 ⟨vs, H1, I1, r, q⟩ => ⟨I1.kIn, ?_⟩) he hpl
  have b' := b s1 us I1.kIn (by rw [List.append_nil, ← r.length]; exact F.len _ _ _ _ q)
  rw [List.append_nil] at b'
  refine wpAny_call (codeAny_mono (F.run X.A X.stack s1 H1 ⟨us, []⟩ us vs Q E hgd hr I1.env0 b' r q) fun r' s' hq => ?_)
  cases r' with
  | error e => exact hx pins σ H1 s1 e s' I1 hq
  | ok fl =>
    cases fl with
    | ret u => exact I1.after hq
    | next => exact False.elim hq
    | brk => exact False.elim hq
    | cont => exact False.elim hq
end
/-! ### repr of a list of ints -/
abbrev reprL (ns : List Int) : Str := (PyData.list (ns.map PyData.int)).shown
theorem reads_ints {h : Heap} : ∀ {ns : List Int} {us : List Value}, Vals (ns.map V.int) us → ReadsAll h us (ns.map PyData.int) []
  | [], _, r => by
    rw [List.map_nil] at r
    cases r
    exact .nil
  | n :: ns, _, r => by
    rw [List.map_cons] at r
    cases r with
    | cons a b =>
      obtain ⟨t, rfl⟩ := (show ∃ t, _ = Value.int n t from a)
      exact .cons (.int n t) (reads_ints b)
theorem ints_noDict : ∀ (ns : List Int), PyData.hasDictAll (ns.map PyData.int) = false
  | [] => rfl
  | n :: ns => by rw [List.map_cons, PyData.hasDictAll, PyData.hasDict, ints_noDict ns]; rfl
theorem ints_depth : ∀ (ns : List Int), PyData.depthAll (ns.map PyData.int) = 0
  | [] => rfl
  | n :: ns => by rw [List.map_cons, PyData.depthAll, PyData.depth, ints_depth ns]; rfl
theorem call_reprInts {X : Cx} (hg : X.A.guards = some []) (hu : X.A.units + 9 < cLine) : CallR X (.builtin "repr") (fun xs H Q => ∃ p ns, xs = [.ref p] ∧ SqL X.K H p (ns.map V.int) ∧ (PyData.list (ns.map PyData.int)).showable = true ∧ (reprL ns).length ≤ sizeLine ∧ Q (.str (reprL ns)) H) := by
  intro pins s σ H xs us Q I r h
  obtain ⟨p, ns, rfl, hq, sh, hz, q⟩ := h
  obtain ⟨u, rfl, e⟩ := vals1 r
  cases e
  obtain ⟨its, rv, ⟨o, n, e1, e2, e3, e4⟩, _⟩ := I.list hq
  refine repr_of_reads' (h₀ := s.heap) (.list e1 e2 e4 (by rw [List.toList_toArray]; exact reads_ints rv)) sh (fun z => ?_) hg ?_ (fun _ _ z => z) (fun h' u tk hk => ?_) hz
  · rw [PyData.hasDict, ints_noDict] at z
    cases z
  · rw [PyData.depth, ints_depth]
    omega
  · exact ⟨.str (reprL ns), H, I.kept hk, ⟨u, rfl⟩, q⟩
theorem small_text : ∀ n : Nat, n < 300 → ((PyData.int (n : Nat)).shown).length ≤ 3 := by decide +kernel
theorem small_show : ∀ n : Nat, n < 300 → (PyData.int (n : Nat)).showable = true := by decide +kernel
theorem repr_small : ∀ {ns : List Nat}, (∀ n ∈ ns, n < 300) → PyData.showableAll ((ns.map fun n => ((n : Nat) : Int)).map PyData.int) = true ∧ ((PyData.shownAll ((ns.map fun n => ((n : Nat) : Int)).map PyData.int)).map (·.length)).sum ≤ 3 * ns.length ∧ (PyData.shownAll ((ns.map fun n => ((n : Nat) : Int)).map PyData.int)).length = ns.length
  | [], _ => ⟨rfl, Nat.le_refl _, rfl⟩
  | n :: ns, h => by
    obtain ⟨a, b, c⟩ := repr_small (ns := ns) fun m hm => h m (List.mem_cons_of_mem _ hm)
    have h1 := small_text n (h n List.mem_cons_self)
    have h2 := small_show n (h n List.mem_cons_self)
    rw [List.map_cons, List.map_cons]
    refine ⟨?_, ?_, ?_⟩
    · rw [PyData.showableAll, h2, a]
      rfl
    · rw [PyData.shownAll, List.map_cons, List.sum_cons, List.length_cons]
      omega
    · rw [PyData.shownAll, List.length_cons, c, List.length_cons]
/-- repr of numbers below 300 -/
theorem reprOk {ns : List Nat} (h : ∀ n ∈ ns, n < 300) (l : ns.length ≤ 100000) : (PyData.list ((ns.map fun n => ((n : Nat) : Int)).map PyData.int)).showable = true ∧ (reprL (ns.map fun n => ((n : Nat) : Int))).length ≤ sizeLine := by
  obtain ⟨a, b, c⟩ := repr_small h
  refine ⟨by rw [PyData.showable]; exact a, ?_⟩
  have := listText_len_le (PyData.shownAll ((ns.map fun n => ((n : Nat) : Int)).map PyData.int))
  unfold reprL
  rw [PyData.shown, sizeLine_eq]
  omega
end Lf

set_option Elab.async false
set_option linter.all false
set_option maxRecDepth 100000
set_option maxHeartbeats 8000000
namespace K12
open PySem PySem.Spec PyProof.Rows L2 Lf
theorem good_of {n : Nat} {gens found rows : List (List Nat)} {m : List (Nat × Nat)} (T : Mon.Tab n gens found rows) (g1 : gens ≠ []) (hm : Mon.madeTab 0 rows [] = some m) : ∀ i, gRow rows (Mon.leftTab rows m) i := by
  have lm : ∀ (k : Nat) l, (Mon.leftTab rows m)[k]? = some l → Mon.LeftOk gens found k l := Mon.left_ok T g1 m (fun k p h => Mon.madeTab_lt hm h)
  intro i c row t li lt h1 h2 h3 h4
  exact Mon.prod_ok T g1 lm h1 h2 h3 h4
theorem form_of {n : Nat} {gens found rows : List (List Nat)} (T : Mon.Tab n gens found rows) (g1 : gens ≠ []) (g6 : gens.length ≤ 6) (f2 : found.length ≤ 2000) : Form rows gens.length := by
  have h0 := get_lt T.head
  refine ⟨by rw [T.len]; omega, by rw [T.len]; exact f2, List.length_pos_iff.mpr g1, g6, fun row hr => ?_⟩
  obtain ⟨i, hi⟩ := List.getElem?_of_mem hr
  refine ⟨T.wid i row hi, fun t ht => ?_⟩
  obtain ⟨c, hc⟩ := List.getElem?_of_mem ht
  obtain ⟨x, g, _, _, h3⟩ := T.ent i row hi c t hc
  rw [T.len]
  exact get_lt h3
/-! ### a ring of 2000 -/
def st (k : Nat) : Nat := if k < 1999 then k + 1 else 0
def rR : List (List Nat) := (List.range 2000).map fun k => [st k]
theorem rR_len : rR.length = 2000 := by unfold rR; rw [List.length_map, List.length_range]
theorem rR_at {i : Nat} (h : i < 2000) : rR[i]? = some [st i] := by
  unfold rR
  rw [List.getElem?_map, List.getElem?_range h]
  rfl
theorem st_lt (k : Nat) : st k < 2000 := by
  unfold st
  split <;> omega
theorem fR : Form rR 1 := by
  refine ⟨by rw [rR_len]; decide, by rw [rR_len]; decide, by decide, by decide, fun row hr => ?_⟩
  unfold rR at hr
  obtain ⟨k, _, rfl⟩ := List.mem_map.mp hr
  refine ⟨rfl, fun t ht => ?_⟩
  rw [List.mem_singleton.mp ht, rR_len]
  exact st_lt k
def mk (n : Nat) : List (Nat × Nat) := (List.range n).map fun k => (k, 0)
theorem mk_len (n : Nat) : (mk n).length = n := by unfold mk; rw [List.length_map, List.length_range]
theorem mk_snoc (n : Nat) : mk (n + 1) = mk n ++ [(n, 0)] := by
  unfold mk
  rw [List.range_succ, List.map_append]
  rfl
theorem mR_pre : ∀ i, i ≤ 1999 → Mon.madeTab 0 (rR.take i) [] = some (mk i)
  | 0, _ => rfl
  | i + 1, h => by
    have ih := mR_pre i (by omega)
    have l : (rR.take i).length = i := by rw [List.length_take, rR_len]; omega
    rw [take_snoc (rR_at (show i < 2000 by omega)), Mon.madeTab_app, ih, Option.bind_some, l, Nat.zero_add]
    have e : st i = i + 1 := if_pos (by omega)
    rw [Mon.madeTab, mk_len, if_neg (by omega), e, Mon.madeRow, mk_len, if_neg (by omega), if_pos rfl, Mon.madeRow, Option.bind_some, Mon.madeTab, mk_snoc]
theorem mR : Mon.madeTab 0 rR [] = some (mk 1999) := by
  have l : (rR.take 1999).length = 1999 := by rw [List.length_take, rR_len]; decide
  have e : rR = rR.take 1999 ++ [[st 1999]] := by
    rw [← take_snoc (rR_at (show 1999 < 2000 by decide)), List.take_of_length_le (by rw [rR_len]; exact Nat.le_refl _)]
  have z : st 1999 = 0 := rfl
  rw [e, Mon.madeTab_app, mR_pre 1999 (Nat.le_refl _), Option.bind_some, l, Nat.zero_add, Mon.madeTab, mk_len, if_neg (by decide), z, Mon.madeRow, mk_len, if_neg (by decide), if_neg (by decide), Mon.madeRow, Option.bind_some, Mon.madeTab]
theorem LR_pre : ∀ i, i ≤ 1999 → (mk i).foldl (Mon.leftStep rR) [rR.getD 0 []] = rR.take (i + 1)
  | 0, _ => by
    rw [take_snoc (rR_at (show 0 < 2000 by decide)), Mon.getD_of (rR_at (show 0 < 2000 by decide))]
    rfl
  | i + 1, h => by
    rw [mk_snoc, List.foldl_append, LR_pre i (by omega), take_snoc (rR_at (show i + 1 < 2000 by omega))]
    show rR.take (i + 1) ++ [((rR.take (i + 1)).getD i []).map fun x => (rR.getD x []).getD 0 0] = _
    have e1 : (rR.take (i + 1))[i]? = some [st i] := by rw [List.getElem?_take_of_lt (Nat.lt_succ_self i)]; exact rR_at (by omega)
    have e : st i = i + 1 := if_pos (by omega)
    rw [Mon.getD_of e1, e]
    show _ ++ [[(rR.getD (i + 1) []).getD 0 0]] = _
    rw [Mon.getD_of (rR_at (show i + 1 < 2000 by omega))]
    rfl
theorem LR : Mon.leftTab rR (mk 1999) = rR := by
  unfold Mon.leftTab
  rw [LR_pre 1999 (Nat.le_refl _), List.take_of_length_le (by rw [rR_len]; exact Nat.le_refl _)]
theorem gR : ∀ i, gRow rR (Mon.leftTab rR (mk 1999)) i := by
  rw [LR]
  intro i c row t li lt h1 h2 h3 h4
  have il : i < 2000 := by rw [← rR_len]; exact get_lt h1
  rw [rR_at il] at h1 h3
  cases h1
  cases h3
  have c0 : c = 0 := by have := get_lt h2; simpa using this
  subst c0
  cases h2
  rw [rR_at (st_lt i)] at h4
  cases h4
  show [st (st i)] = [(rR.getD (st i) []).getD 0 0]
  rw [Mon.getD_of (rR_at (st_lt i))]
  rfl
theorem vR : Vd (some (tabD rR)) none := .ok rfl fR mR gR
def rO : List (List Nat) := [[0], [1]]
theorem fO : Form rO 1 := by refine ⟨?_, ?_, ?_, ?_, ?_⟩ <;> decide
theorem vO : Vd (some (tabD rO)) (some ("order", ((1 : Nat) : Int))) := .ord (m' := []) rfl fO (by decide) rfl rfl
theorem vF : Vd (some [some (List.replicate 7 (some 0))]) (some ("form", ((0 : Nat) : Int))) := .row (r := some (List.replicate 7 (some 0))) rfl rfl rfl (fun j r' h => absurd h (Nat.not_lt_zero _)) (by decide)
/-- things that are no tables -/
theorem odd3 {K : PySem.W.Frag} {H : Hp} {p u d b z : Addr} (hp : H p = some (.lst [])) (hu : H u = some (.tup [])) (hd : H d = some (.dK [])) (hz : H z = some (.lst [.int 0])) (hb : H b = some (.lst (List.replicate 2001 (.ref z)))) : ∀ v ∈ [V.non, .int 5, .str ("01" : Str), .ref p, .ref u, .ref d, .ref b], ∃ t, TabV K H v t ∧ ∀ rs, t = some rs → lenOk rs = false := by
  intro v hv
  simp only [List.mem_cons, List.not_mem_nil, or_false] at hv
  rcases hv with rfl | rfl | rfl | rfl | rfl | rfl | rfl
  · exact ⟨none, .oth (.base .non) (by decide +kernel) (by decide +kernel), fun _ h => nomatch h⟩
  · exact ⟨none, .oth (.base (.int 5)) (by decide +kernel) (by decide +kernel), fun _ h => nomatch h⟩
  · exact ⟨none, .oth (.base (.str _)) (by decide +kernel) (by decide +kernel), fun _ h => nomatch h⟩
  · exact ⟨some [], ⟨[], .lst (SqL.of hp), .nil⟩, fun _ h => by cases h; rfl⟩
  · exact ⟨some [], ⟨[], .tup (SqT.of hu), .nil⟩, fun _ h => by cases h; rfl⟩
  · exact ⟨none, .oth (.base (.dK hd)) (by decide +kernel) (by decide +kernel), fun _ h => nomatch h⟩
  · refine ⟨some (List.replicate 2001 (some [some 0])), ⟨_, .lst (SqL.of hb), pair_of (by rw [List.length_replicate, List.length_replicate]) fun i x y e1 e2 => ?_⟩, fun _ h => ?_⟩
    · obtain ⟨_, q1⟩ := List.getElem?_eq_some_iff.mp e1
      obtain ⟨_, q2⟩ := List.getElem?_eq_some_iff.mp e2
      rw [List.getElem_replicate] at q1 q2
      rw [← q1, ← q2]
      exact ⟨_, .lst (SqL.of hz), .cons (.int 0) .nil⟩
    · cases h
      unfold lenOk
      rw [List.length_replicate]
      rfl
theorem rep2 {n : Nat} {x : V} : (List.replicate n [x]).flatten = List.replicate n x := by
  induction n with
  | zero => rfl
  | succ n ih => rw [List.replicate_succ, List.flatten_cons, ih, List.replicate_succ]; rfl
theorem rows2 {K : PySem.W.Frag} {H : Hp} {r a b : Addr} {x y : List Nat} (hr : H r = some (.lst [.ref a, .ref b])) (ha : H a = some (.lst (x.map nv))) (hb : H b = some (.lst (y.map nv))) : RowsL K H r [x, y] := ⟨[a, b], SqL.of hr, rfl, fun i u row g1 g2 => by
  match i with
  | 0 => cases g1; cases g2; exact SqL.of ha
  | 1 => cases g1; cases g2; exact SqL.of hb
  | i + 2 => simp at g1⟩
abbrev NLw : List Str := ["_law_script", "_law_cell", "_law_source_here", "_law_turn", "_law_found", "_law_words", "_law_table_here", "_law_many", "_law_rows", "_law_odd", "_law_ring", "_law_row", "_law_letter", "_law_number"]
abbrev teDw : TE := fun σ H Q => (tCons (tVar 2) (tCons (tVar 7) tNil)) σ H fun vs H1 => spDraw vs H1 Q E0
abbrev teRowD : TE := tLc (iRng1 (tCons (tC (.int 2)) tNil)) (gName 12) tYes teDw [12]
abbrev teRng : TE := tLst (tCons (tOp (rI0 fun i j => .int (i + j)) (tVar 13) (tC (.int 1))) tNil)
def scMidL : Scope := { kind := .function, names := [(".0", .local), ("_law_row", .local), ("range", .globalImplicit), ("_law_many", .cell), ("_law_source_here", .cell)], isGenerator := false, isCoroutine := false }
/-- the rows of drawn numbers -/
theorem drawn_rows {K : PySem.W.Frag} {l : Addr} {n many : Nat} {v0 v1 v3 v4 v5 v6 v8 v9 v10 : Option V} {H : Hp} {Q : V → Hp → Prop} (src : Src H l n) (n1 : n + 20 ≤ 1000000) (m1 : 1 ≤ many) (m4 : many ≤ 4)
    (k : ∀ D t H', But l H H' → TabV K H' (.ref D) t → Src H' l (n + 10) → Q (.ref D) H') :
    tLc (iRng1 (tCons (tVar 7) tNil)) (gName 11) tYes teRowD [11] [v0, v1, some (.ref l), v3, v4, v5, v6, some (nv many), v8, v9, v10, none, none, none] H Q := by
  refine ⟨_, rfl, (many : Nat), rfl, by omega, by omega, fun D nD => ?_⟩
  have nDl := src.ne nD
  refine lc_range (lo := 0) (n := many) (fun i Hc => But l H Hc ∧ Src Hc l (n + 2 * i) ∧ Loose H Hc l D i 2 many) ⟨But.of (same_upd nD), src.upd nDl, [], upd_same, rfl, fun a h => by cases h⟩ (fun i Hc hi ⟨bc, sc, lo⟩ => ?_) (fun Hc ⟨bc, sc, lo⟩ => ?_)
  · refine ⟨rfl, yesT ?_⟩
    refine ⟨2, rfl, by omega, by omega, fun B nB => ?_⟩
    have nBl := sc.ne nB
    have nBH : H B = none := bc.nil nBl nB
    obtain ⟨as, hD, la, pa⟩ := lo
    have nBD : B ≠ D := fun z => by rw [z, hD] at nB; cases nB
    refine lc_range (lo := 0) (n := 2) (fun c He => (∀ b o, b ≠ l → b ≠ B → Hc b = some o → He b = some o) ∧ Src He l (n + 2 * i + c) ∧ ∃ acc : List Nat, He B = some (.lst (acc.map nv)) ∧ acc.length = c ∧ ∀ e ∈ acc, e < many)
      ⟨fun b o _ nb e => by rw [upd_ne nb]; exact e, sc.upd nBl, [], upd_same, rfl, fun e he => by cases he⟩ (fun c He hc ⟨be, se, acc, hB, lacc, oacc⟩ => ?_) (fun He ⟨be, se, acc, hB, lacc, oacc⟩ => ?_)
    · refine ⟨rfl, yesT ?_⟩
      refine ⟨_, rfl, _, rfl, l, n + 2 * i + c, (many : Nat), rfl, se, by omega, by omega, by omega, fun y H6 y0 y1 b6 src6 => ?_⟩
      obtain ⟨y, rfl⟩ : ∃ y' : Nat, y = (y' : Nat) := ⟨y.toNat, by omega⟩
      refine ⟨_, b6 _ _ nBl hB, by rw [List.length_map, lacc]; show c < 16777216; omega, fun b o nl nb e => by rw [upd_ne nb]; exact b6 _ _ nl (be b o nl nb e), src6.upd nBl, acc ++ [y], by rw [upd_same, List.map_append]; rfl, by rw [List.length_append, lacc]; rfl, fun e he => ?_⟩
      rcases List.mem_append.mp he with h | h
      · exact oacc e h
      · rw [List.mem_singleton.mp h]
        omega
    · refine ⟨_, be _ _ nDl nBD.symm hD, by rw [List.length_map, la]; show i < 16777216; omega, fun b o nb e => ?_, (se.up (by omega)).upd nDl, as ++ [B], by rw [upd_same, List.map_append]; rfl, by rw [List.length_append, la]; rfl, fun a ha => ?_⟩
      · rw [upd_ne (ne_of_none e nD)]
        have := bc b o nb e
        exact be b o nb (ne_of_none this nB) this
      · rcases List.mem_append.mp ha with q | q
        · obtain ⟨g1, g2, g3, row, g4, g5⟩ := pa a q
          exact ⟨g1, g2, g3, row, by rw [upd_ne g2]; exact be _ _ g1 (ne_of_none g4 nB) g4, g5⟩
        · rw [List.mem_singleton.mp q]
          exact ⟨nBl, nBD, nBH, acc, by rw [upd_ne nBD]; exact hB, lacc, oacc⟩
  · obtain ⟨rows, r1, _, _⟩ := lo.rows (K := K)
    exact k D _ Hc bc r1.a.tab (sc.up (by omega))
/-- the ring as it is made -/
theorem ring_rows {K : PySem.W.Frag} {v0 v1 v2 v3 v4 v5 v6 v7 v8 v9 : Option V} {H : Hp} {Q : V → Hp → Prop} (k : ∀ r H', Same H H' → RowsL K H' r rR → Q (.ref r) H') :
    tOp (rCatL K) (tLc (iRng1 (tCons (tC (.int 1999)) tNil)) (gName 13) tYes teRng [13]) (tLst (tCons (tLst (tCons (tC (.int 0)) tNil)) tNil)) [v0, v1, v2, v3, v4, v5, v6, v7, v8, v9, none, none, none, none] H Q := by
  refine ⟨1999, rfl, by decide, by decide, fun D nD => ?_⟩
  refine lc_range (lo := 0) (n := 1999) (fun k Hd => But D H Hd ∧ ∃ as : List Addr, Hd D = some (.lst (as.map V.ref)) ∧ as.length = k ∧ ∀ (i : Nat) b, as[i]? = some b → b ≠ D ∧ Hd b = some (.lst [nv (i + 1)])) ⟨But.upd, [], upd_same, rfl, fun i b h => by simp at h⟩ (fun k Hd hk ⟨bd, as, hD, lA, eA⟩ => ?_) (fun Hd ⟨bd, as, hD, lA, eA⟩ => ?_)
  · refine ⟨rfl, yesT ?_⟩
    refine ⟨_, rfl, _, _, rfl, rfl, (by show 1 ≤ sizeLine; decide), fun t1 nt1 => ?_⟩
    have ek : ((0 : Int) + (k : Nat)) + 1 = ((k + 1 : Nat) : Int) := by omega
    have u1 := same_upd (o := .lst [V.int ((0 : Int) + (k : Nat) + 1)]) nt1
    have ntD : t1 ≠ D := fun z => by rw [z, hD] at nt1; cases nt1
    refine ⟨_, u1 _ _ hD, by rw [List.length_map, lA]; show k < 16777216; omega, bd.trans ((But.of u1).trans But.upd), as ++ [t1], by rw [upd_same]; simp, by simp [lA], fun i b h => ?_⟩
    rcases Mon.snoc_cases h with h | ⟨e1, rfl⟩
    · obtain ⟨q1, q2⟩ := eA i b h
      exact ⟨q1, by rw [upd_ne q1]; exact u1 _ _ q2⟩
    · refine ⟨ntD, ?_⟩
      rw [e1, lA, upd_ne ntD, upd_same]
      exact congrArg (fun z => some (HO.lst [V.int z])) ek
  · refine ⟨(by show 1 ≤ sizeLine; decide), fun s1 ns1 => ⟨(by show 1 ≤ sizeLine; decide), fun s2' ns2 => ?_⟩⟩
    have v1' := same_upd (o := .lst [V.int 0]) ns1
    have v2' := same_upd (o := .lst [V.ref s1]) ns2
    refine ⟨D, s2', _, _, rfl, rfl, SqL.of (v2' _ _ (v1' _ _ hD)), SqL.of upd_same, by rw [List.length_map, lA]; show 1999 + 1 ≤ 16777216; decide, fun r nr => ?_⟩
    have v3' := same_upd (o := .lst (as.map V.ref ++ [V.ref s1])) nr
    have sH : Same H Hd := fun b o e => bd b o (ne_of_none e nD) e
    refine k r _ (((sH.trans v1').trans v2').trans v3') ⟨as ++ [s1], SqL.of (by rw [upd_same]; simp), by rw [List.length_append, lA, rR_len]; rfl, fun i b row g1 g2 => ?_⟩
    rcases Mon.snoc_cases g1 with g1 | ⟨e1, rfl⟩
    · have il : i < 1999 := by have := get_lt g1; omega
      rw [rR_at (by omega)] at g2
      cases g2
      have e : st i = i + 1 := if_pos il
      rw [e]
      exact SqL.of (v3' _ _ (v2' _ _ (v1' _ _ (eA i b g1).2)))
    · rw [e1, lA, rR_at (by decide)] at g2
      cases g2
      exact SqL.of (v3' _ _ (v2' _ _ upd_same))
def spLaw (K : PySem.W.Frag) : Sp := fun vs H Q _ => ∃ (a : Addr) (ns : List Int), vs = [.ref a] ∧ SqL K H a (ns.map V.int) ∧ ns.length ≤ 63 ∧ ∀ H', Q (.bl true) H'
section
variable {P : Program} {w : World} {K : PySem.W.Frag} {mg : Str → Option Value} {base : Heap}
theorem scLaw : FnScope NLw ["_law_script"] (defScope s_law) := ⟨rfl, rfl, rfl, by decide +kernel, rfl, by decide +kernel, by decide +kernel⟩
theorem ok_law {f : Addr} {fd : FuncData} {q : Str} (F : FunD K "law" q (defArgs s_law) (defBody s_law) (defScope s_law) [] [] f fd) (T : Txt P w K mg base)
    (DS : Def P w K mg base CX0 1 "_law_source" ["_law_cell"] spSource) (DD : Def P w K mg base CX0 1 "_law_draw" ["_law_source_here", "_law_many"] spDraw) (DM : Def P w K mg base CX0 2 "_law_maps" ["_law_source_here", "_law_most_points", "_law_most_letters"] spMaps) (DT : Def P w K mg base CX0 1 "_law_table" ["_law_rows"] (spTable K))
    (DR : Def P w K mg base CX0 7 "_law_right" ["_law_source_here", "_law_table_here"] (spRight K)) (DH : Def P w K mg base CX0 6 "_law_heard" ["_law_right_here"] (spHeard K)) (DU : Def P w K mg base CX0 3 "_law_due" ["_law_right_here"] (spDue K)) :
    FnG P w K mg base CX0 8 f fd ["_law_script"] (spLaw K) := by
  have zr : mg "range" = none := T.fr 40 "range" rfl
  refine okG F scLaw (fun vs H Q E h => ?_) (fun cdv A outer s H vs Q E hgd hr h => ?_)
  · obtain ⟨a, ns, rfl, _⟩ := h
    rfl
  · obtain ⟨a, ns, rfl, hS, hlen, fin⟩ := h
    have R1 : Room 1 _ := hr.mono (by decide)
    have R2 : Room 2 _ := hr.mono (by decide)
    have R3 : Room 3 _ := hr.mono (by decide)
    have R6 : Room 6 _ := hr.mono (by decide)
    have hu : (A.deeper (envOfC q (defScope s_law) s.heap.objs.size f cdv)).units + 64 < cLine := hr.units
    refine ⟨_, PSs.nox (pss_cons (ps_for PassesOwn.never rfl (pi_list (pe_slice sl_list (pe_op op_catL (pv 0) (pe_lst (pa_cons pe_int pa_nil))) po_none (po_some pe_int))) (pg_name (i := 1) scLaw.nd rfl (.inl rfl))
        (pss_cons (ps_set (i := 2) scLaw.nd rfl (.inr rfl) (pe_def DS R1 pass0 rfl (pa_cons (pv 1) pa_nil)))
        (pss_one (ps_for PassesOwn.never rfl (pi_range1 rfl zr (pa_cons pe_int pa_nil)) (pg_name (i := 3) scLaw.nd rfl (.inl rfl))
          (pss_cons (ps_asg (pe_def DT R1 pass0 rfl (pa_cons (pe_def DM R2 pass0 rfl (pa_cons (pv 2) (pa_cons pe_int (pa_cons pe_int pa_nil)))) pa_nil)) (pg_tup rfl (pgs_cons (pg_name (i := 4) scLaw.nd rfl (.inl rfl)) (pgs_cons (pg_name (i := 5) scLaw.nd rfl (.inl rfl)) (pgs_cons (pg_name (i := 6) scLaw.nd rfl (.inl rfl)) pgs_nil)))))
          (pss_cons (ps_if (pt_not (pt_val (pe_def DR hr pass0 rfl (pa_cons (pv 2) (pa_cons (pv 6) pa_nil))))) (pss_one (ps_ret pe_bl)) pss_nil)
          (pss_cons (ps_set (i := 7) scLaw.nd rfl (.inr rfl) (pe_op op_add pe_int (pe_def DD R1 pass0 rfl (pa_cons (pv 2) (pa_cons pe_int pa_nil)))))
          (pss_cons (ps_setLc (i := 8) (own := [("_law_row", 11)]) (g := gName 11) (te := teRowD) rfl scLaw.nd rfl rfl (by rfl) (pi_range1 rfl zr (pa_cons (pv 7) pa_nil)) (blkOk_by (own := [("_law_row", 11)]) (N := NLw) (sc := defScope s_law) (by decide +kernel)) (fun _ _ _ _ _ => pg_name (i := 11) scLaw.nd rfl (Or.inl rfl)) (fun _ _ _ _ _ => pts_nil)
            (fun _ _ _ _ _ => by
              refine pe_lc (own := [("_law_letter", 12)]) (g := gName 12) (te := teDw) (by rfl) scLaw.nd (pi_range1 rfl zr (pa_cons pe_int pa_nil)) (blkOk_by (own := [("_law_letter", 12)]) (N := NLw) (sc := scMidL) (by decide +kernel)) (fun _ _ _ _ _ => ?_) (fun _ _ _ _ _ => pts_nil) (fun _ _ _ _ _ => ?_)
              · exact pg_name (i := 12) scLaw.nd rfl (Or.inl rfl)
              · exact pe_def DD R1 pass0 rfl (pa_cons (pv 2) (pa_cons (pv 7) pa_nil))))
          (pss_one (ps_if (pt_cmpR (op_neD hu) (pe_def DH R6 pass0 rfl (pa_cons (pv 8) pa_nil)) (pe_def DU R3 pass0 rfl (pa_cons (pv 8) pa_nil)) (nomark _)) (pss_one (ps_ret pe_bl)) pss_nil))))))))))
      (pss_cons (ps_for PassesOwn.never rfl (pi_tup (pe_tup (pa_cons pe_non (pa_cons pe_int (pa_cons pe_str (pa_cons (pe_lst pa_nil) (pa_cons (pe_tup pa_nil) (pa_cons pe_dnewK (pa_cons (pe_op op_rep (pe_lst (pa_cons (pe_lst (pa_cons pe_int pa_nil)) pa_nil)) pe_int) pa_nil))))))))) (pg_name (i := 9) scLaw.nd rfl (.inl rfl))
        (pss_one (ps_if (pt_cmpR (op_neD hu) (pe_def DH R6 pass0 rfl (pa_cons (pv 9) pa_nil)) (pe_tup (pa_cons pe_str (pa_cons (pe_un un_neg pe_int) pa_nil))) (nomark _)) (pss_one (ps_ret pe_bl)) pss_nil)))
      (pss_cons (ps_set (i := 10) scLaw.nd rfl (.inl rfl) (pe_op op_catL (pe_lc (own := [("_law_number", 13)]) (g := gName 13) (te := teRng) (by rfl) scLaw.nd (pi_range1 rfl zr (pa_cons pe_int pa_nil)) (blkOk_by (own := [("_law_number", 13)]) (N := NLw) (sc := defScope s_law) (by decide +kernel)) (fun _ _ _ _ _ => pg_name (i := 13) scLaw.nd rfl (Or.inl rfl)) (fun _ _ _ _ _ => pts_nil)
          (fun _ _ _ _ _ => by exact pe_lst (pa_cons (pe_op op_add (pv 13) pe_int) pa_nil))) (pe_lst (pa_cons (pe_lst (pa_cons pe_int pa_nil)) pa_nil))))
      (pss_one (ps_ret (pe_and (pe_cmpR op_isN (pe_def DH R6 pass0 rfl (pa_cons (pv 10) pa_nil)) pe_non (nomark _))
        (pe_and (pe_cmpR (op_eqD hu) (pe_def DH R6 pass0 rfl (pa_cons (pe_lst (pa_cons (pe_lst (pa_cons pe_int pa_nil)) (pa_cons (pe_lst (pa_cons pe_int pa_nil)) pa_nil))) pa_nil)) (pe_tup (pa_cons pe_str (pa_cons pe_int pa_nil))) (nomark _))
        (pe_one (pe_cmpR (op_eqD hu) (pe_def DH R6 pass0 rfl (pa_cons (pe_lst (pa_cons (pe_op op_rep (pe_lst (pa_cons pe_int pa_nil)) pe_int) pa_nil)) pa_nil)) (pe_tup (pa_cons pe_str (pa_cons pe_int pa_nil))) (nomark _)))))))))), ?_⟩
    refine ⟨_, rfl, (by show 1 ≤ sizeLine; decide), fun z hz => ⟨a, z, _, _, rfl, rfl, L2.Same.seq (same_upd hz) hS, SqL.of upd_same, ?_, fun l0 h0 => ?_⟩⟩
    · rw [List.length_map]
      show ns.length + 1 ≤ 16777216
      omega
    refine ⟨3, rfl, l0, _, rfl, SqL.of upd_same, fun l1 h1 => ⟨l1, rfl, ⟨_, SqL.of upd_same⟩, ?_⟩⟩
    generalize hHs : L2.upd (L2.upd (L2.upd H z _) l0 _) l1 _ = Hs
    have at1 : Hs l1 = some (.lst (cutV (ns.map V.int ++ [.int 0]) none (some 3))) := by rw [← hHs]; exact upd_same
    clear hHs
    refine for_list (K := K) (a := l1) (xs := cutV (ns.map V.int ++ [.int 0]) none (some 3)) (fun i σ H' => ∃ v1 v2 v3 v4 v5 v6 v7 v8 : Option V, σ = [some (.ref a), v1, v2, v3, v4, v5, v6, v7, v8, none, none, none, none, none] ∧ Same Hs H')
      ⟨none, none, none, none, none, none, none, none, rfl, L2.Same.refl _⟩ (fun i σ H' _ ⟨_, _, _, _, _, _, _, _, _, e⟩ => SqL.of (e _ _ at1)) ?_ (fun σ H' ⟨v1, v2, v3, v4, v5, v6, v7, v8, eσ, _⟩ => ?_)
    · rintro i y σ H1 hi ⟨v1, v2, v3, v4, v5, v6, v7, v8, rfl, e1⟩
      obtain ⟨n, rfl⟩ : ∃ n, y = V.int n := by
        have hm := List.mem_of_getElem? hi
        have hm2 := List.mem_of_mem_drop (List.mem_of_mem_take hm)
        rcases List.mem_append.mp hm2 with q | q
        · obtain ⟨n, _, e⟩ := List.mem_map.mp q
          exact ⟨n, e.symm⟩
        · exact ⟨0, List.mem_singleton.mp q⟩
      refine ⟨_, rfl, n, rfl, fun l H2 nl s2 src2 => ?_⟩
      have e2 : Same Hs H2 := e1.trans s2
      have off : ∀ b o, Hs b = some o → b ≠ l := fun b o h => ne_of_none (e1 _ _ h) nl
      refine ⟨3, rfl, by decide, by decide, ?_⟩
      refine for_range (lo := 0) (n := 3) (fun j σ H' => ∃ v3 v4 v5 v6 v7 v8 : Option V, σ = [some (.ref a), some (.int n), some (.ref l), v3, v4, v5, v6, v7, v8, none, none, none, none, none] ∧ Same Hs H' ∧ Src H' l (700 * j)) ⟨v3, v4, v5, v6, v7, v8, rfl, e2, src2⟩ (fun j σ H3 hj ⟨v3, v4, v5, v6, v7, v8, eσ, e3, src3⟩ => ?_) (fun σ H3 ⟨v3, v4, v5, v6, v7, v8, eσ, e3, src3⟩ => ?_)
      · subst eσ
        rw [Int.zero_add]
        refine ⟨_, rfl, l, 700 * j, 3, 3, rfl, src3, by omega, by decide, by decide, by decide, by decide, fun p gens size H4 b4 np M4 ne g6 s1 s4 gv src4 => ?_⟩
        refine ⟨p, size, gens, rfl, M4, ne, by omega, s1, by omega, gv, fun TT' pf pw pt pn as bs found rows m H5 s5 nT hTT L Tb hm lm nw => ?_⟩
        refine ⟨TT', _, rfl, SqT.of hTT, rfl, _, _, rfl, _, _, rfl, _, _, rfl, rfl, ?_⟩
        have src5 := src4.same s5
        have few : found.length ≤ 27 := by
          have z := Mon.maps_few Tb.nd Tb.val
          have : size = 1 ∨ size = 2 ∨ size = 3 := by omega
          rcases this with rfl | rfl | rfl
          · exact Nat.le_trans z (by decide)
          · exact Nat.le_trans z (by decide)
          · exact Nat.le_trans z (by decide)
        have RT : RowsH H5 l pt rows := ⟨src4.ne nw.2.2.1, bs, L.t, L.tl, fun i b r h1 h2 => ⟨src4.ne (nw.2.2.2 b (List.mem_of_getElem? h1)), (L.tn b (List.mem_of_getElem? h1)).2.2, L.te i b r h1 h2⟩⟩
        have rl := Tb.len
        refine ⟨_, rfl, _, rfl, l, 700 * j + 40, pt, rows, gens.length, m, rfl, src5, by omega, RT, form_of Tb ne (by omega) (by omega), by omega, hm, good_of Tb ne hm, fun H6 b6 src6 => ?_⟩
        refine ⟨_, rfl, ifF rfl ?_⟩
        have e6 : Same Hs H6 := fun b o e => b6 _ _ (off b o e) (s5 _ _ (b4 _ _ (off b o e) (e3 _ _ e)))
        refine ⟨_, rfl, l, 700 * j + 40 + 600, 4, rfl, src6, by omega, by decide, by decide, fun x H7 x0 x1 b7 src7 => ?_⟩
        obtain ⟨x, rfl⟩ : ∃ x' : Nat, x = (x' : Nat) := ⟨x.toNat, by omega⟩
        refine ⟨_, _, rfl, rfl, ?_⟩
        have ex : (1 : Int) + (x : Nat) = ((x + 1 : Nat) : Int) := by omega
        show gName 7 (.int ((1 : Int) + (x : Nat))) _ _ _
        rw [ex]
        have e7 : Same Hs H7 := fun b o e => b7 _ _ (off b o e) (e6 b o e)
        delta gName
        dsimp only
        refine seq_asg (drawn_rows (K := K) (many := x + 1) src7 (by omega) (by omega) (by omega) fun D t H8 b8 tv src8 => ?_)
        obtain ⟨v, vd⟩ := Vd.total t
        have sh := vd.sh
        refine ⟨_, rfl, .ref D, t, v, rfl, tv, vd, told_of (K := K) fun x1 H9 s9 d9 => ?_⟩
        refine ⟨_, rfl, .ref D, t, v, rfl, tv.same s9, vd, told_of (K := K) fun x2 H10 s10 d10 => ?_⟩
        refine ne_dI (dp_same s10 d9) d10 sh ⟨_, rfl, ifF rfl ?_⟩
        exact ⟨_, _, _, _, _, _, rfl, fun b o e => s10 _ _ (s9 _ _ (b8 _ _ (off b o e) (e7 b o e))), ((src8.same s9).same s10).up (by omega)⟩
      · subst eσ
        exact ⟨_, _, _, _, _, _, _, _, rfl, e3⟩
    · subst eσ
      clear at1
      refine ⟨(by show 0 ≤ sizeLine; decide), fun p np => ?_⟩
      have hp : L2.upd H' p (.lst []) p = some (.lst []) := upd_same
      generalize L2.upd H' p (.lst []) = H1 at hp ⊢
      clear np
      refine ⟨(by show 0 ≤ sizeLine; decide), fun u nu => ?_⟩
      have u1 := same_upd (o := .tup []) nu
      have hp := u1 _ _ hp
      have hu' : L2.upd H1 u (.tup []) u = some (.tup []) := upd_same
      generalize L2.upd H1 u (.tup []) = H1' at hp hu' ⊢
      clear u1 nu
      intro d nd
      have u1 := same_upd (o := .dK []) nd
      have hp := u1 _ _ hp
      have hu' := u1 _ _ hu'
      have hd : L2.upd H1' d (.dK []) d = some (.dK []) := upd_same
      generalize L2.upd H1' d (.dK []) = H2 at hp hd hu' ⊢
      clear u1 nd
      refine ⟨(by show 1 ≤ sizeLine; decide), fun z nz => ?_⟩
      have u1 := same_upd (o := .lst [V.int 0]) nz
      have hp := u1 _ _ hp
      have hu' := u1 _ _ hu'
      have hd := u1 _ _ hd
      have hz : L2.upd H2 z (.lst [V.int 0]) z = some (.lst [.int 0]) := upd_same
      generalize L2.upd H2 z (.lst [V.int 0]) = H3 at hp hd hz hu' ⊢
      clear u1 nz
      refine ⟨(by show 1 ≤ sizeLine; decide), fun q0 nq => ?_⟩
      have u1 := same_upd (o := .lst [V.ref z]) nq
      have hp := u1 _ _ hp
      have hu' := u1 _ _ hu'
      have hd := u1 _ _ hd
      have hz := u1 _ _ hz
      have hq : L2.upd H3 q0 (.lst [V.ref z]) q0 = some (.lst [.ref z]) := upd_same
      generalize L2.upd H3 q0 (.lst [V.ref z]) = H4 at hp hd hz hq hu' ⊢
      clear u1 nq
      refine ⟨q0, 2001, _, rfl, rfl, hq, by decide, by decide, (by show 1 * 2001 ≤ 16777216; decide), fun b nb => ?_⟩
      rw [show (List.replicate (Int.toNat 2001) [V.ref z]).flatten = List.replicate 2001 (.ref z) from rep2]
      have u1 := same_upd (o := .lst (List.replicate 2001 (V.ref z))) nb
      have hp := u1 _ _ hp
      have hu' := u1 _ _ hu'
      have hd := u1 _ _ hd
      have hz := u1 _ _ hz
      have hb : L2.upd H4 b (.lst (List.replicate 2001 (V.ref z))) b = some (.lst (List.replicate 2001 (.ref z))) := upd_same
      generalize L2.upd H4 b (.lst (List.replicate 2001 (V.ref z))) = H5 at hp hd hz hb hu' ⊢
      clear u1 nb hq
      refine ⟨(by show 7 ≤ sizeLine; decide), fun tt ntt => ⟨tt, rfl, ⟨_, SqT.of upd_same⟩, ?_⟩⟩
      have u1 := same_upd (o := .tup [V.non, .int 5, .str ("01" : Str), .ref p, .ref u, .ref d, .ref b]) ntt
      have hp := u1 _ _ hp
      have hu' := u1 _ _ hu'
      have hd := u1 _ _ hd
      have hz := u1 _ _ hz
      have hb := u1 _ _ hb
      have ht : L2.upd H5 tt (.tup [V.non, .int 5, .str ("01" : Str), .ref p, .ref u, .ref d, .ref b]) tt = some (.tup [V.non, .int 5, .str ("01" : Str), .ref p, .ref u, .ref d, .ref b]) := upd_same
      generalize L2.upd H5 tt (.tup [V.non, .int 5, .str ("01" : Str), .ref p, .ref u, .ref d, .ref b]) = H6 at hp hd hz hb ht hu' ⊢
      clear u1 ntt
      refine for_tup (K := K) (a := tt) (xs := [V.non, .int 5, .str ("01" : Str), .ref p, .ref u, .ref d, .ref b]) (fun i σ Hn => ∃ v9 : Option V, σ = [some (.ref a), v1, v2, v3, v4, v5, v6, v7, v8, v9, none, none, none, none] ∧ Same H6 Hn) ⟨none, rfl, L2.Same.refl _⟩ (fun i σ Hn _ ⟨_, _, e⟩ => SqT.of (e _ _ ht)) (fun i y σ Hn hy ⟨v9, eσ, sn⟩ => ?_) (fun σ Hn ⟨v9, eσ, sn⟩ => ?_)
      · subst eσ
        obtain ⟨t, tv, bl⟩ := odd3 (K := K) (sn _ _ hp) (sn _ _ hu') (sn _ _ hd) (sn _ _ hz) (sn _ _ hb) y (List.mem_of_getElem? hy)
        refine ⟨_, rfl, y, t, some ("form", -1), rfl, tv, .len bl, told_of (K := K) fun x1 H9 s9 d9 => ?_⟩
        refine ⟨1, rfl, (by show 2 ≤ sizeLine; decide), fun t2 nt2 => ?_⟩
        have s2 := same_upd (o := .tup [.str ("form" : Str), .int (-1)]) nt2
        exact ne_dI (dp_same s2 d9) (.tup (SqT.of upd_same) (.cons (.str _) (.cons (.int _) .nil))) (si_sh (by decide +kernel)) ⟨_, rfl, ifF rfl ⟨_, rfl, sn.trans (s9.trans s2)⟩⟩
      subst eσ
      clear hp hd hz hb ht hu' sn
      dsimp only
      refine seq_asg (ring_rows (K := K) fun r H7 s7 R7 => ?_)
      refine ⟨_, rfl, .ref r, _, none, rfl, R7.a.tab, vR, told_of (K := K) fun x1 H8 s8 d8 => ⟨rfl, _, rfl, ?_⟩⟩
      rw [isN_dV d8]
      refine ifT rfl ?_
      clear R7 s7 s8 d8
      refine ⟨(by show 1 ≤ sizeLine; decide), fun a1 n1 => ⟨(by show 1 ≤ sizeLine; decide), fun a2 n2 => ⟨(by show 2 ≤ sizeLine; decide), fun r2 nr => ?_⟩⟩⟩
      have e3 := same_upd (o := .lst [.ref a1, .ref a2]) nr
      have e2 := (same_upd (o := .lst [.int 1]) n2).trans e3
      have R : RowsL K _ r2 rO := rows2 upd_same (e2 _ _ upd_same) (e3 _ _ upd_same)
      refine ⟨.ref r2, _, _, rfl, R.a.tab, vO, told_of (K := K) fun x3 H9 s9 d9 => ?_⟩
      refine ⟨(by show 2 ≤ sizeLine; decide), fun t3 nt3 => ?_⟩
      have s3 := same_upd (o := .tup [.str ("order" : Str), .int 1]) nt3
      refine eq_dI (d := .tuple [.str "order", .int ((1 : Nat) : Int)]) (dp_same s3 d9) (.tup (SqT.of upd_same) (.cons (.str _) (.cons (.int _) .nil))) (si_sh (by decide +kernel)) ⟨_, rfl, ifT rfl ?_⟩
      clear R e2 e3 n1 n2 nr s9 d9 s3 nt3
      refine ⟨(by show 1 ≤ sizeLine; decide), fun a1 n1 => ⟨a1, 7, _, rfl, rfl, upd_same, by decide, by decide, (by show 1 * 7 ≤ 16777216; decide), fun a2 n2 => ?_⟩⟩
      rw [show (List.replicate (Int.toNat 7) [V.int 0]).flatten = List.replicate 7 (.int 0) from rep2]
      refine ⟨(by show 1 ≤ sizeLine; decide), fun r3 nr => ?_⟩
      have e3 := same_upd (o := .lst [.ref a2]) nr
      have tv : TabV K _ (.ref r3) (some [some (List.replicate 7 (some 0))]) := ⟨_, .lst (SqL.of upd_same), .cons ⟨_, .lst (SqL.of (e3 _ _ upd_same)), .cons (.int 0) (.cons (.int 0) (.cons (.int 0) (.cons (.int 0) (.cons (.int 0) (.cons (.int 0) (.cons (.int 0) .nil))))))⟩ .nil⟩
      refine ⟨.ref r3, _, _, rfl, tv, vF, told_of (K := K) fun x3 H9 s9 d9 => ?_⟩
      refine ⟨(by show 2 ≤ sizeLine; decide), fun t3 nt3 => ?_⟩
      have s3 := same_upd (o := .tup [.str ("form" : Str), .int 0]) nt3
      exact eq_dI (d := .tuple [.str "form", .int ((0 : Nat) : Int)]) (dp_same s3 d9) (.tup (SqT.of upd_same) (.cons (.str _) (.cons (.int _) .nil))) (si_sh (by decide +kernel)) (fin _)
end
end K12

set_option Elab.async false
set_option linter.all false
set_option maxRecDepth 100000
set_option maxHeartbeats 4000000
/-! A head by three kernel runs: the looks, the view, the facts; the facts over the objects at the addresses as. -/
namespace Lf
open PySem PySem.W PySem.Calls PyProof.Rows
/-- classes, dicts, functions and the rest, in this order -/
def isCl : Obj → Bool
  | ⟨_, _, .cls _, _⟩ => true
  | _ => false
def isDi : Obj → Bool
  | ⟨_, _, .dict _ _, _⟩ => true
  | _ => false
def isFu : Obj → Bool
  | ⟨_, _, .func _, _⟩ => true
  | _ => false
def isFi : Obj → Bool
  | ⟨_, _, .fields vs, _⟩ => !vs.isEmpty
  | _ => false
/-- tuples: the defaults of defs -/
def isTu : Obj → Bool
  | ⟨.type "tuple", _, .seq _ _, _⟩ => true
  | _ => false
def sorted4 (l : Frag) : Frag := l.filter (fun q => isCl q.2) ++ (l.filter (fun q => isDi q.2) ++ (l.filter (fun q => isFu q.2) ++ (l.filter (fun q => isFi q.2) ++ l.filter fun q => isTu q.2)))
theorem sorted4_sub {l : Frag} {q : Addr × Obj} (h : q ∈ sorted4 l) : q ∈ l := by
  unfold sorted4 at h
  simp only [List.mem_append, List.mem_filter] at h
  rcases h with h | h | h | h | h <;> exact h.1
def frR (g : Addr → Option Obj) (as : List Addr) : Frag := sorted4 (He.frG g as)
theorem frR_in {as : List Addr} {h : Heap} : (frR h.get? as).In h := fun _ _ e => He.frG_mem (sorted4_sub (He.lookup_mem e))
theorem frR_none {g : Addr → Option Obj} {as : List Addr} {a : Addr} {o : Obj} (h : g a = some o) (ht : He.emptyTab o = true) : (frR g as).lookup a = none := by
  cases e : (frR g as).lookup a with
  | none => rfl
  | some u =>
    have m := He.lookup_mem e
    have z := He.frG_mem (sorted4_sub m)
    rw [h] at z
    obtain rfl := Option.some.inj z
    rw [He.emptyTab_eq ht] at m
    unfold frR sorted4 at m
    simp only [List.mem_append, List.mem_filter] at m
    rcases m with m | m | m | m | m <;> exact absurd m.2 (by decide)
/-- what is told: the facts, the Bool, the defs' code tables: empty, not among the objects looked at -/
structure SaysR (fa : List He.Fa) (fn : List He.DefD) (tf : List He.Defn) (ex : Frag → Bool) (h : Heap) (K : Frag) : Prop where
  d : He.SaysD fa fn K
  m : ex K = true
  hd : ∀ p ∈ tf, codeHdIn K (He.cT K p).1 (He.cT K p).2 = true
  out : ∀ p ∈ tf, K.lookup (He.cT K p).2 = none
  empty : ∀ p ∈ tf, h.get? (He.cT K p).2 = some { cls := .none, data := .fields #[] }
def obsR (as : List Addr) (fa : List He.Fa) (fn : List He.DefD) (tf : List He.Defn) (ex : Frag → Bool) (g : Addr → Option Obj) : He.AlD × Bool :=
  (He.obsD fa fn (frR g as), ex (frR g as) && He.tabsB g tf (frR g as))
theorem saysR_of {as : List Addr} {fa : List He.Fa} {fn : List He.DefD} {tf : List He.Defn} {ex : Frag → Bool} {h : Heap} (e : obsR as fa fn tf ex h.get? = (He.valD fn, true)) : SaysR fa fn tf ex h (frR h.get? as) := by
  obtain ⟨h1, h2⟩ := He.ba (show (ex (frR h.get? as) && He.tabsB h.get? tf (frR h.get? as)) = true from congrArg Prod.snd e)
  have key : ∀ p ∈ tf, codeHdIn (frR h.get? as) (He.cT (frR h.get? as) p).1 (He.cT (frR h.get? as) p).2 = true ∧ ∃ o, h.get? (He.cT (frR h.get? as) p).2 = some o ∧ He.emptyTab o = true := fun p hp => by
    obtain ⟨k1, k2⟩ := He.ba (List.all_eq_true.mp h2 p hp)
    refine ⟨k1, ?_⟩
    cases q : h.get? (He.cT (frR h.get? as) p).2 with
    | none => rw [q] at k2; cases k2
    | some o => rw [q] at k2; exact ⟨o, rfl, k2⟩
  refine ⟨congrArg Prod.fst e, h1, fun p hp => (key p hp).1, fun p hp => ?_, fun p hp => ?_⟩
  · obtain ⟨_, o, q, z⟩ := key p hp
    exact frR_none q z
  · obtain ⟨_, o, q, z⟩ := key p hp
    rw [q, He.emptyTab_eq z]
def hookR (as : List Addr) (fa : List He.Fa) (fn : List He.DefD) (tf : List He.Defn) (ex : Frag → Bool) : Hook where
  α := He.AlD × Bool
  obs := fun s => obsR as fa fn tf ex s.heap.get?
  val := fun _ => (He.valD fn, true)
  says := fun _ h => ∃ K : Frag, K.In h ∧ SaysR fa fn tf ex h K
  of := fun _ _ e => ⟨_, frR_in, saysR_of e⟩
  keeps := fun _ _ _ ⟨K, hK, c⟩ k => ⟨K, Frag.In.keeps hK k, ⟨c.d, c.m, c.hd, c.out, fun p hp => k _ _ (c.empty p hp)⟩⟩
theorem obsR_eq {as : List Addr} {fa : List He.Fa} {fn : List He.DefD} {tf : List He.Defn} {ex : Frag → Bool} {g : Addr → Option Obj} {s : Shared} (h : ∀ a, g a = s.heap.get? a) : obsR as fa fn tf ex g = (hookR as fa fn tf ex).obs s := by
  have e : g = s.heap.get? := funext h
  rw [e] <;> rfl
theorem three {α A B C : Type} {o : Option α} {f : α → A} {g : α → B} {h : α → C} {a : A} {b : B} {c : C} (x : o.map f = some a) (y : o.map g = some b) (z : o.map h = some c) : o.map (fun s => (f s, g s, h s)) = some (a, b, c) := by
  cases o with
  | none => cases x
  | some s =>
    have x1 : f s = a := Option.some.inj x
    have y1 : g s = b := Option.some.inj y
    have z1 : h s = c := Option.some.inj z
    show some (f s, g s, h s) = _
    rw [x1, y1, z1]
/-- the state behind the top -/
noncomputable def endOf (r : OpenRow) (M : Nat) (w : World) (os : OsState) : Option SharedT := HandSHeadRun.endF (HandSHeadRun.stepQ (HandSHeadRun.denQ HandSHeadRun.tabQ) r.prog w) M r.prog w os
noncomputable def looksOf (r : OpenRow) (w : World) (s : SharedT) : Bool := HandSHeadRun.looksF r.prog (boot_heap w.params) s.abs
noncomputable def viewOf (r : OpenRow) (q : Program) (loose : List PySem.Str) (s : SharedT) := HandSHeadRun.seenQ q loose (importedModules r.prog.main.body) (fun s => xlAt q [] s && recOk r.toRowW.records s) s.abs
theorem run_three {r : OpenRow} {q : Program} {H : Hook} {ob : SharedT → H.α} {M : Nat} {loose : List PySem.Str} {w : World} (a : ∀ os, (endOf r M w os).map (looksOf r w) = some true)
    (b : ∀ os, (endOf r M w os).map (viewOf r q loose) = some (openGood q loose)) (c : ∀ os, (endOf r M w os).map ob = some (H.val w)) : HandSHeadRun.RunEq r q H ob M loose w := fun os => three (a os) (b os) (c os)
end Lf

set_option Elab.async false
set_option linter.all false
set_option maxRecDepth 100000
set_option maxHeartbeats 0
namespace K12
open PySem PySem.Spec PyProof.Rows L2
abbrev R : PySem.W.OpenRow := PySem.W.OpenLaw.row PySem.Challenge.rw_letterfolds_k12_what_is_a_right_table
abbrev vw : Program := PySem.W.view R.prog [35]
def as : List Addr := List.range 1600
abbrev hk : PySem.W.Hook := Lf.hookR as fa fn tf ex
def ob (s : PySem.W.SharedT) : He.AlD × Bool := Lf.obsR as fa fn tf ex (HandSHeadRun.getT s)
theorem ob_eq (s : PySem.W.SharedT) : ob s = hk.obs s.abs := Lf.obsR_eq (HandSHeadRun.getT_eq s)
theorem runA (w : World) (os : OsState) : (Lf.endOf R 20000 w os).map (Lf.looksOf R w) = some true := by kernel_rfl
theorem runB (w : World) (os : OsState) : (Lf.endOf R 20000 w os).map (Lf.viewOf R vw loose) = some (PySem.W.openGood vw loose) := by kernel_rfl
theorem runC (w : World) (os : OsState) : (Lf.endOf R 20000 w os).map ob = some (hk.val w) := by kernel_rfl
theorem run (w : World) : HandSHeadRun.RunEq R vw hk ob 20000 loose w := Lf.run_three (runA w) (runB w) (runC w)
end K12

set_option Elab.async false
set_option linter.all false
set_option maxRecDepth 100000
set_option maxHeartbeats 4000000
/-! The end for a law that is promised only where no repr is under way. -/
namespace Lf
open PySem PySem.Spec PyProof.Rows L2
section
variable {P : Program} {w : World} {K : PySem.W.Frag} {mg mb : Str → Option Value} {CX : CXT} {k : Nat} {fa a : Addr} {fd : FuncData} {x : Str} {sp : Sp} {s₁ : Shared} {vs : List Value} {ns : List Int}
/-- the caller's world, with at most the script tracked -/
theorem env_law {H : Hp} (KX : K.In s₁.heap) (hns : s₁.heap.Ns mainGlobals mg) (hb : s₁.heap.Ns builtinsNs mb) (hbb : ∀ x : Str, x ≠ "__name__" → mb x = bootBuiltins x) (hlim : s₁.heap.NoLimit) (hg : s₁.gens = #[])
    (ha : s₁.heap.get? a = some { cls := .type "list", data := .seq vs.toArray }) (hok : HOk P w H s₁.heap) (hA : ∀ b, H b ≠ none → b = a ∧ K.lookup a = none) :
    K.In (hidT s₁.heap H) ∧ (hidT s₁.heap H).Ns mainGlobals mg ∧ Env0 P w K mg (hidT s₁.heap H) callerA [] s₁ H := by
  have free : ∀ {b : Addr} {o : Obj}, s₁.heap.get? b = some o → o.data ≠ .seq vs.toArray → H b = none := fun {b o} e d => by
    cases q : H b with
    | none => rfl
    | some u =>
      obtain ⟨rfl, _⟩ := hA b (by rw [q]; simp)
      rw [ha] at e
      cases e
      exact absurd rfl d
  have names : ∀ {b : Addr} {m : Str → Option Value}, s₁.heap.Ns b m → (hidT s₁.heap H).Ns b m := fun {b m} h => by
    obtain ⟨o, es, ep, e, d, r⟩ := h
    exact ⟨o, es, ep, hidT_get e (free e (by rw [d]; simp)), d, r⟩
  have kin : K.In (hidT s₁.heap H) := fun b o e => hidT_get (KX b o e) (by
    cases q : H b with
    | none => rfl
    | some u =>
      obtain ⟨rfl, z⟩ := hA b (by rw [q]; simp)
      rw [z] at e
      cases e)
  obtain ⟨mc, l1, l2⟩ := hlim
  exact ⟨kin, names hns, rfl, ⟨kin, names hns, ⟨mb, names hb, hbb⟩, mc, names l1, l2⟩, fun b o e => of_hidT e, Nat.le_of_eq (hidT_size _ _), trivial, fun b hb => absurd (show b ∈ ([] : List Addr) from hb) (by simp), hok, .of_eq hg⟩
theorem law_callG (KX : K.In s₁.heap) (hns : s₁.heap.Ns mainGlobals mg) (hb : s₁.heap.Ns builtinsNs mb) (hbb : ∀ x : Str, x ≠ "__name__" → mb x = bootBuiltins x) (hlim : s₁.heap.NoLimit) (hg : s₁.gens = #[])
    (ha : s₁.heap.get? a = some { cls := .type "list", data := .seq vs.toArray }) (hi : IntsAre vs ns) (hl : ns.length ≤ sizeLine) (hr : Room k callerA)
    (F : ∀ base : Heap, K.In base → base.Ns mainGlobals mg → FnG P w K mg base CX k fa fd [x] sp) (hbind : ∀ (s : Shared) (u : Value), BindsTo s fd ⟨[u], []⟩ [(x, u)])
    (hsp : ∀ H : Hp, Only H → SqL K H a (ns.map V.int) → sp [.ref a] H (fun v _ => v = .bl true) fun _ _ _ => False)
    (hCX : ∀ H e s', CX [] H s₁ (fun _ _ _ => False) e s' → False) :
    codeAny (model P w) callerA (.call (.ref fa) ⟨[.ref a], []⟩) (fun r s' => r = .ok (.ret (.bool true)) ∧ OldK s₁.heap s'.heap ∧ s'.os = s₁.os ∧ AllBare s'.gens) s₁ := by
  obtain ⟨H, hO, hS, hok, hA⟩ : ∃ H : Hp, Only H ∧ SqL K H a (ns.map V.int) ∧ HOk P w H s₁.heap ∧ ∀ b, H b ≠ none → b = a ∧ K.lookup a = none := by
    have rv := vals_ints hi
    cases hk : K.lookup a with
    | some o =>
      have e := KX a o hk
      rw [ha] at e
      cases e
      exact ⟨fun _ => none, fun _ => .inl rfl, .inr ⟨_, vs.toArray, _, hk, rfl, rfl, rfl, by rw [List.size_toArray, hi.length]; exact hl, by simpa using rv⟩, (fun b u z => by cases (show (none : Option HO) = some u from z)), fun b z => absurd rfl z⟩
    | none =>
      refine ⟨L2.upd (fun _ => none) a (.frz { cls := .type "list", data := .seq vs.toArray } (.lst (ns.map V.int))), fun b => ?_, .inl (.inr ⟨_, upd_same⟩), fun b u z => ?_, fun b z => ?_⟩
      · by_cases e : b = a
        · subst e
          exact .inr ⟨_, _, upd_same⟩
        · exact .inl (upd_ne e)
      · by_cases e : b = a
        · subst e
          rw [upd_same] at z
          cases z
          exact ⟨ha, by rw [List.length_map]; exact hl, vs, _, rv, ha⟩
        · rw [upd_ne e] at z
          cases z
      · by_cases e : b = a
        · exact ⟨e, rfl⟩
        · exact absurd (upd_ne e) z
  obtain ⟨kin, nm, e0⟩ := env_law KX hns hb hbb hlim hg ha hok hA
  refine codeAny_mono ((F _ kin nm).run callerA [] s₁ H ⟨[.ref a], []⟩ [.ref a] [.ref a] _ _ rfl hr e0 (hbind s₁ (.ref a)) (.cons rfl .nil) (hsp H hO hS)) fun r s' h => ?_
  cases r with
  | error e => exact (hCX H e s' h).elim
  | ok fl =>
    cases fl with
    | next => exact False.elim h
    | brk => exact False.elim h
    | cont => exact False.elim h
    | ret u =>
      obtain ⟨v, H', os, bare, un, hok', r', q⟩ := h
      cases (show v = .bl true from q)
      cases (show u = Value.bool true from r')
      refine ⟨rfl, OldK.of_keep fun b o e => ?_, os, bare⟩
      cases q : H b with
      | none => exact un.keep b o e q (by intro z; exact absurd (show b ∈ ([] : List Addr) from z) (by simp)) (by simp)
      | some u =>
        rcases hO b with z | ⟨ob, xs, z⟩
        · rw [q] at z
          cases z
        · have e1 := (hok b _ z).1
          rw [e] at e1
          cases e1
          exact (hok' b _ (un.frzs b _ _ z)).1
end
theorem walk_ofG {l : PySem.W.OpenLaw} {n k : Nat} {q : Program} {loose : List Str} {XP : (Str → Option Value) → Heap → Prop} {YP : World → Heap → Prop} {d : DefRec} {CX : CXT} {x : Str}
    (hn : l.most = some n) (hn2 : n ≤ sizeLine) (hdf : d.params.defaults = []) (hr : Room k callerA)
    (F : ∀ (w : World) (mg : Str → Option Value) (fa : Addr) (h : Heap), YP w h → h.Ns mainGlobals mg → mg d.name = some (.ref fa) →
      ∃ (K : PySem.W.Frag) (fd : FuncData) (sp : Sp), K.In h ∧ (∀ (s : Shared) (u : Value), BindsTo s fd ⟨[u], []⟩ [(x, u)]) ∧
        (∀ (H : Hp) (a : Addr) (ns : List Int), ns.length ≤ n → Only H → SqL K H a (ns.map V.int) → sp [.ref a] H (fun v _ => v = .bl true) fun _ _ _ => False) ∧
        ∀ base : Heap, K.In base → base.Ns mainGlobals mg → FnG l.prog w K mg base CX k fa fd [x] sp)
    (hCX : ∀ (H : Hp) (s : Shared) (e : Value) (s' : Shared), CX [] H s (fun _ _ _ => False) e s' → False) :
    PySem.W.WalkO q loose XP YP l.row.toRowW d [] (fun f vs => PySem.call f vs) := by
  refine Att.attach_call hn hdf fun w s₀ s₁ mg mb fa o pm cd doc a vs ns G Y ho hd hcd hmg hobj hints hlen hg => ?_
  obtain ⟨K, fd, sp, KX, hb, hsp, hF⟩ := F w mg fa _ Y G.T.g hmg
  exact law_callG KX G.T.g G.T.b G.T.builtins G.T.nolimit hg hobj hints (Nat.le_trans hlen hn2) hr hF hb (fun H hO hS => hsp H a ns hlen hO hS) fun H e s' => hCX H s₁ e s'
end Lf

set_option Elab.async false
set_option linter.all false
set_option maxRecDepth 100000
set_option maxHeartbeats 8000000
namespace K12
open PySem PySem.Spec PyProof.Rows L2 Lf
theorem facts {P : Program} {w : World} {K : PySem.W.Frag} {h : Heap} {mg : Str → Option Value} {f : Addr} (X : K.In h) (G : h.Ns mainGlobals mg) (hfa : mg ("law" : Str) = some (.ref f)) (c : He.SaysD fa fn K) (m : ex K = true) :
    ∃ fd : FuncData, (∀ (s : Shared) (v : Value), BindsTo s fd ⟨[v], []⟩ [("_law_script", v)]) ∧ ∀ base : Heap, K.In base → base.Ns mainGlobals mg → FnG P w K mg base CX0 8 f fd ["_law_script"] (spLaw K) := by
  obtain ⟨fd_is_number, F_is_number⟩ := c.def_ 0 (d := d_is_number) rfl
  obtain ⟨fd_is_between, F_is_between⟩ := c.def_ 1 (d := d_is_between) rfl
  obtain ⟨fd_is_sequence, F_is_sequence⟩ := c.def_ 2 (d := d_is_sequence) rfl
  obtain ⟨fd_Monoid_init, F_Monoid_init⟩ := c.def_ 5 (d := d_Monoid_init) rfl
  obtain ⟨fd_Monoid_eq, F_Monoid_eq⟩ := c.def_ 6 (d := d_Monoid_eq) rfl
  obtain ⟨fd_check_form, F_check_form⟩ := c.def_ 12 (d := d_check_form) rfl
  obtain ⟨fd_made_by, F_made_by⟩ := c.def_ 13 (d := d_made_by) rfl
  obtain ⟨fd_left_table, F_left_table⟩ := c.def_ 14 (d := d_left_table) rfl
  obtain ⟨fd_check_products, F_check_products⟩ := c.def_ 15 (d := d_check_products) rfl
  obtain ⟨fd_L_source, F_L_source⟩ := c.def_ 18 (d := d_L_source) rfl
  obtain ⟨fd_L_draw, F_L_draw⟩ := c.def_ 19 (d := d_L_draw) rfl
  obtain ⟨fd_L_pick, F_L_pick⟩ := c.def_ 20 (d := d_L_pick) rfl
  obtain ⟨fd_L_maps, F_L_maps⟩ := c.def_ 21 (d := d_L_maps) rfl
  obtain ⟨fd_L_table, F_L_table⟩ := c.def_ 22 (d := d_L_table) rfl
  obtain ⟨fd_L_form_due, F_L_form_due⟩ := c.def_ 23 (d := d_L_form_due) rfl
  obtain ⟨fd_L_order_due, F_L_order_due⟩ := c.def_ 24 (d := d_L_order_due) rfl
  obtain ⟨fd_L_lefts, F_L_lefts⟩ := c.def_ 25 (d := d_L_lefts) rfl
  obtain ⟨fd_L_product_due, F_L_product_due⟩ := c.def_ 26 (d := d_L_product_due) rfl
  obtain ⟨fd_L_due, F_L_due⟩ := c.def_ 27 (d := d_L_due) rfl
  obtain ⟨fd_L_heard, F_L_heard⟩ := c.def_ 28 (d := d_L_heard) rfl
  obtain ⟨fd_L_is_associative, F_L_is_associative⟩ := c.def_ 29 (d := d_L_is_associative) rfl
  obtain ⟨fd_L_changed, F_L_changed⟩ := c.def_ 30 (d := d_L_changed) rfl
  obtain ⟨fd_L_spoilt, F_L_spoilt⟩ := c.def_ 31 (d := d_L_spoilt) rfl
  obtain ⟨fd_L_right, F_L_right⟩ := c.def_ 32 (d := d_L_right) rfl
  obtain ⟨fd, F⟩ := c.def_ 33 (d := d_law) rfl
  have gl : ∀ (i : Nat) (x : Str), fa[i]? = some (.glo x) → mg x = some (.ref (He.ga K x)) := fun i x e => He.glo_ok X G (c.fact i e)
  have fr : ∀ (i : Nat) (x : Str), fa[i]? = some (.free x) → mg x = none := fun i x e => He.free_ok X G (c.fact i e)
  have it : ∀ (i : Nat) (x : Str) (v : Int), fa[i]? = some (.int x v) → ∃ t, mg x = some (.int v t) := fun i x v e => He.int_ok X G (c.fact i e)
  have st : ∀ (i : Nat) (x v : Str), fa[i]? = some (.str x v) → ∃ t, mg x = some (.str v t) := fun i x v e => He.str_ok X G (c.fact i e)
  have e := hfa.symm.trans (gl 28 "law" rfl)
  cases e
  have b := FunD.bindsA (ps := ["_law_script"]) F fun _ _ _ _ _ _ us hl => match us, hl with | [_], _ => rfl
  refine ⟨fd, fun s v => b s [v] rfl, fun base _ _ => ?_⟩
  have T : Txt P w K mg base := ⟨c, m, gl, fr, it, st⟩
  have z_ValueError : mg "ValueError" = none := T.fr 31 "ValueError" rfl
  have z_abs : mg "abs" = none := T.fr 32 "abs" rfl
  have z_all : mg "all" = none := T.fr 33 "all" rfl
  have z_bool : mg "bool" = none := T.fr 34 "bool" rfl
  have z_enumerate : mg "enumerate" = none := T.fr 35 "enumerate" rfl
  have z_int : mg "int" = none := T.fr 36 "int" rfl
  have z_isinstance : mg "isinstance" = none := T.fr 37 "isinstance" rfl
  have z_len : mg "len" = none := T.fr 38 "len" rfl
  have z_list : mg "list" = none := T.fr 39 "list" rfl
  have z_range : mg "range" = none := T.fr 40 "range" rfl
  have z_tuple : mg "tuple" = none := T.fr 41 "tuple" rfl
  have z_zip : mg "zip" = none := T.fr 42 "zip" rfl
  obtain ⟨t_LETTERS, g_LETTERS⟩ := T.st 30 "LETTERS" "abcdef" rfl
  have D_is_number : Def P w K mg base CX0 1 "is_number" ["thing"] (spNum K) := ⟨_, fd_is_number, T.gl 4 "is_number" rfl, F_is_number.kp, ok_num F_is_number z_isinstance z_int z_bool, F_is_number.bindsN fun _ _ _ _ _ _ us hl => match us, hl with | [_], _ => rfl⟩
  have D_is_between : Def P w K mg base CX0 2 "is_between" ["thing", "least", "most"] (spBtw K) := ⟨_, fd_is_between, T.gl 5 "is_between" rfl, F_is_between.kp, ok_btw F_is_between D_is_number, F_is_between.bindsN fun _ _ _ _ _ _ us hl => match us, hl with | [_, _, _], _ => rfl⟩
  have D_is_sequence : Def P w K mg base CX0 1 "is_sequence" ["thing", "least", "most"] (spSeq K) := ⟨_, fd_is_sequence, T.gl 6 "is_sequence" rfl, F_is_sequence.kp, ok_seq F_is_sequence z_isinstance z_list z_tuple z_len, F_is_sequence.bindsN fun _ _ _ _ _ _ us hl => match us, hl with | [_, _, _], _ => rfl⟩
  have D_check_form : Def P w K mg base (L2.CX P w) 3 "_check_form" ["right"] (spForm K) := ⟨_, fd_check_form, T.gl 7 "_check_form" rfl, F_check_form.kp, ok_form F_check_form T (er_NoMonoid T) D_is_sequence D_is_between, F_check_form.bindsN fun _ _ _ _ _ _ us hl => match us, hl with | [_], _ => rfl⟩
  have D_made_by : Def P w K mg base (L2.CX P w) 3 "_made_by" ["right"] (spMade K) := ⟨_, fd_made_by, T.gl 8 "_made_by" rfl, F_made_by.kp, ok_made F_made_by T (er_NoMonoid T), F_made_by.bindsN fun _ _ _ _ _ _ us hl => match us, hl with | [_], _ => rfl⟩
  have D_left_table : Def P w K mg base CX0 1 "_left_table" ["right", "made"] (spLeft K) := ⟨_, fd_left_table, T.gl 9 "_left_table" rfl, F_left_table.kp, ok_left F_left_table T, F_left_table.bindsN fun _ _ _ _ _ _ us hl => match us, hl with | [_, _], _ => rfl⟩
  have D_check_products : Def P w K mg base (L2.CX P w) 3 "_check_products" ["right", "left"] (spProds K) := ⟨_, fd_check_products, T.gl 10 "_check_products" rfl, F_check_products.kp, ok_prods F_check_products T (er_NoMonoid T), F_check_products.bindsN fun _ _ _ _ _ _ us hl => match us, hl with | [_, _], _ => rfl⟩
  have mM : L2.Mk K (He.ga K "Monoid") (He.ma K (He.ga K "Monoid") "__init__") := He.mkr_ok (T.d.fact 44 (f := .mkr "Monoid") rfl)
  have FM := ok_mon F_Monoid_init T D_check_form D_made_by D_left_table D_check_products
  have bM : L2.Binds K fd_Monoid_init ["self", "right"] [] := F_Monoid_init.bindsN fun _ _ _ _ _ _ us hl => match us, hl with | [_, _], _ => rfl
  have mE : Meth K (He.ga K "Monoid") "__eq__" (He.ma K (He.ga K "Monoid") "__eq__") := He.meth_ok (T.d.fact 45 (f := .meth "Monoid" "__eq__") rfl)
  have FE := ok_eq F_Monoid_eq T
  have bE : L2.Binds K fd_Monoid_eq ["self", "other"] [] := F_Monoid_eq.bindsN fun _ _ _ _ _ _ us hl => match us, hl with | [_, _], _ => rfl
  have D_L_source : Def P w K mg base CX0 1 "_law_source" ["_law_cell"] spSource := ⟨_, fd_L_source, T.gl 13 "_law_source" rfl, F_L_source.kp, ok_source F_L_source z_abs z_int, F_L_source.bindsN fun _ _ _ _ _ _ us hl => match us, hl with | [_], _ => rfl⟩
  have D_L_draw : Def P w K mg base CX0 1 "_law_draw" ["_law_source_here", "_law_many"] spDraw := ⟨_, fd_L_draw, T.gl 14 "_law_draw" rfl, F_L_draw.kp, ok_draw F_L_draw z_int, F_L_draw.bindsN fun _ _ _ _ _ _ us hl => match us, hl with | [_, _], _ => rfl⟩
  have D_L_pick : Def P w K mg base CX0 2 "_law_pick" ["_law_source_here", "_law_some"] spPick := ⟨_, fd_L_pick, T.gl 15 "_law_pick" rfl, F_L_pick.kp, ok_pick F_L_pick z_len D_L_draw, F_L_pick.bindsN fun _ _ _ _ _ _ us hl => match us, hl with | [_, _], _ => rfl⟩
  have D_L_maps : Def P w K mg base CX0 2 "_law_maps" ["_law_source_here", "_law_most_points", "_law_most_letters"] spMaps := ⟨_, fd_L_maps, T.gl 16 "_law_maps" rfl, F_L_maps.kp, ok_maps F_L_maps z_range z_tuple D_L_draw, F_L_maps.bindsN fun _ _ _ _ _ _ us hl => match us, hl with | [_, _, _], _ => rfl⟩
  have D_L_table : Def P w K mg base CX0 1 "_law_table" ["_law_rows"] (spTable K) := ⟨_, fd_L_table, T.gl 17 "_law_table" rfl, F_L_table.kp, ok_table F_L_table z_range z_tuple z_len z_zip, F_L_table.bindsN fun _ _ _ _ _ _ us hl => match us, hl with | [_], _ => rfl⟩
  have D_L_order_due : Def P w K mg base CX0 1 "_law_order_due" ["_law_right_here"] (spOrd K) := ⟨_, fd_L_order_due, T.gl 19 "_law_order_due" rfl, F_L_order_due.kp, ok_ord F_L_order_due T, F_L_order_due.bindsN fun _ _ _ _ _ _ us hl => match us, hl with | [_], _ => rfl⟩
  have D_L_lefts : Def P w K mg base CX0 1 "_law_lefts" ["_law_right_here"] (spLefts K) := ⟨_, fd_L_lefts, T.gl 20 "_law_lefts" rfl, F_L_lefts.kp, ok_lefts F_L_lefts T, F_L_lefts.bindsN fun _ _ _ _ _ _ us hl => match us, hl with | [_], _ => rfl⟩
  have F1 := ok_fd F_L_form_due T
  have F2 := ok_ord F_L_order_due T
  have F3 := ok_pd F_L_product_due T D_L_lefts
  have b1 : L2.Binds K fd_L_form_due ["_law_right_here"] [] := F_L_form_due.bindsN fun _ _ _ _ _ _ us hl => match us, hl with | [_], _ => rfl
  have b2 : L2.Binds K fd_L_order_due ["_law_right_here"] [] := F_L_order_due.bindsN fun _ _ _ _ _ _ us hl => match us, hl with | [_], _ => rfl
  have b3 : L2.Binds K fd_L_product_due ["_law_right_here"] [] := F_L_product_due.bindsN fun _ _ _ _ _ _ us hl => match us, hl with | [_], _ => rfl
  have D_L_due : Def P w K mg base CX0 3 "_law_due" ["_law_right_here"] (spDue K) := ⟨_, fd_L_due, T.gl 22 "_law_due" rfl, F_L_due.kp, ok_due F_L_due T (T.gl 18 "_law_form_due" rfl) (T.gl 19 "_law_order_due" rfl) (T.gl 21 "_law_product_due" rfl) F_L_form_due.kp F_L_order_due.kp F_L_product_due.kp F1 F2 F3 b1 b2 b3, F_L_due.bindsN fun _ _ _ _ _ _ us hl => match us, hl with | [_], _ => rfl⟩
  have D_L_heard : Def P w K mg base CX0 6 "_law_heard" ["_law_right_here"] (spHeard K) := ⟨_, fd_L_heard, T.gl 23 "_law_heard" rfl, F_L_heard.kp, ok_heard F_L_heard T mM FM bM, F_L_heard.bindsN fun _ _ _ _ _ _ us hl => match us, hl with | [_], _ => rfl⟩
  have D_L_is_associative : Def P w K mg base CX0 1 "_law_is_associative" ["_law_right_here"] (spAs K) := ⟨_, fd_L_is_associative, T.gl 24 "_law_is_associative" rfl, F_L_is_associative.kp, ok_as F_L_is_associative T, F_L_is_associative.bindsN fun _ _ _ _ _ _ us hl => match us, hl with | [_], _ => rfl⟩
  have D_L_changed : Def P w K mg base CX0 2 "_law_changed" ["_law_source_here", "_law_table_here"] (spCh K) := ⟨_, fd_L_changed, T.gl 25 "_law_changed" rfl, F_L_changed.kp, ok_changed F_L_changed T D_L_draw, F_L_changed.bindsN fun _ _ _ _ _ _ us hl => match us, hl with | [_, _], _ => rfl⟩
  have D_L_spoilt : Def P w K mg base CX0 3 "_law_spoilt" ["_law_source_here", "_law_table_here"] (spSpoilt K) := ⟨_, fd_L_spoilt, T.gl 26 "_law_spoilt" rfl, F_L_spoilt.kp, ok_spoilt F_L_spoilt T D_L_draw D_L_pick, F_L_spoilt.bindsN fun _ _ _ _ _ _ us hl => match us, hl with | [_, _], _ => rfl⟩
  have D_L_right : Def P w K mg base CX0 7 "_law_right" ["_law_source_here", "_law_table_here"] (spRight K) := ⟨_, fd_L_right, T.gl 27 "_law_right" rfl, F_L_right.kp, ok_right F_L_right T D_L_changed D_L_spoilt D_L_heard D_L_due D_L_order_due D_L_is_associative mM FM bM mE FE bE, F_L_right.bindsN fun _ _ _ _ _ _ us hl => match us, hl with | [_, _], _ => rfl⟩
  exact ok_law F T D_L_source D_L_draw D_L_maps D_L_table D_L_right D_L_heard D_L_due
end K12
open PySem PySem.W PySem.Calls PyProof.Rows
theorem PySem.Challenge.cw_letterfolds_k12_what_is_a_right_table_holds : PySem.Challenge.rw_letterfolds_k12_what_is_a_right_table.Holds := by
  w_on; o_law
  refine HandSHeadRun.head_any (r := K12.R) (q := K12.vw) (H := K12.hk) (ob := K12.ob) (M := 20000) (loose := K12.loose) (d := HandSHeadRun.topDef K12.R.prog 35) (kwd := []) K12.ob_eq
    (by kernel_rfl) (fun s => by kernel_rfl) K12.run (by kernel_rfl) (by kernel_rfl) (by kernel_rfl) (by rfl) (by first | assumption | decide +kernel) (by decide +kernel) ⟨rfl, rfl, rfl, rfl, rfl, by decide +kernel⟩ ?hw ?hc
  case hw => w_witness2
  case hc =>
    refine Lf.walk_ofG (l := PySem.Challenge.rw_letterfolds_k12_what_is_a_right_table) (n := 63) (k := 8) (x := "_law_script") (CX := L2.CX0) rfl (by decide) (by kernel_rfl) ⟨rfl, by decide, by decide⟩ ?F (fun _ _ _ _ z => z)
    intro w mg fa h Y G hmg0
    obtain ⟨K, KX, S⟩ := Y
    have hmg : mg ("law" : PySem.Str) = some (.ref fa) := by
      have e : (HandSHeadRun.topDef K12.R.prog 35).name = ("law" : PySem.Str) := by kernel_rfl
      rw [← e]
      exact hmg0
    obtain ⟨fd, hb, hF⟩ := K12.facts (P := PySem.Challenge.rw_letterfolds_k12_what_is_a_right_table.prog) (w := w) KX G hmg S.d S.m
    exact ⟨K, fd, K12.spLaw K, KX, hb, fun H a ns hl _ hS => ⟨a, ns, rfl, hS, hl, fun _ => rfl⟩, hF⟩
