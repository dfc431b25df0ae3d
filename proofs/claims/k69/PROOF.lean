import PyProof.Rows.All
import Wide.All
import OpenK.AllK
import Wide.FinOn
import HandS.ForMost
import HandS.Strs
import KE.KExcIs
import KE.KExcMore
import HandS.ForExc
import HandS.ExcInit
import HandS.ExcField
import HandS.ExcIs
import HandS.ExcValue
import HandS.IsInst
import HandS.HeadHook4
import KE.GoesEnum
import HandS.Walk
import KE.KOpsOwn
import HandS.OwnEq
import HandS.Dict
import KE.GoesMore
import KE.GoesZip
import HandS.Style
import HandS.Conv
import HandS.SortInts
import PyProof.ListStr
import PyProof.StrOps2
import HandS.HotCalls
import HandS.TryMany
import PyProof.ReprRoads
import PyProof.CallFns
import PyProof.Rows.FactsT3
import KE.KEqDeep
import HandS.Deep
import HandS.Replace
import HandS.SetKeys
import HandS.SetBool
import HandS.Iter
import HandS.WordsDict
import HandS.DictComp
import HandS.Lambda
import KE.KStateDown
import HandS.Head2
import HandS.HeadEnd
import KE.SortKeyHeap
import HandS.SortKw
import PyProof.ReprLen
import HandS.Defaults
import HandS.HeadWalk
import PySem.Challenge.RW_letterfolds_k69_whole_least_words_apart
set_option Elab.async false
set_option linter.all false
set_option maxRecDepth 100000
set_option maxHeartbeats 4000000
/-! set(xs) of distinct texts, however many; how many there are. -/
namespace Lf
open PySem PySem.Spec PyProof.Rows L2
abbrev HasS (P : Program) (w : World) (h : Heap) (a : Addr) (xs : List Str) (i : Nat) : Prop := h.SetOf (PySem.strKind P w) a (fun y => (xs.take i).any (· == y)) i
theorem take_next {xs : List Str} (nd : xs.Nodup) {i : Nat} (hi : i < xs.length) :
    (xs.take i).any (· == xs.getD i Str.empty) = false ∧ ∀ y, ((xs.take i).any (· == y) || decide (y = xs.getD i Str.empty)) = (xs.take (i + 1)).any (· == y) := by
  have eg : xs.getD i Str.empty = xs[i] := by simp [List.getD, hi]
  rw [eg]
  have split : xs.take (i + 1) = xs.take i ++ [xs[i]] := by simp
  constructor
  · rw [List.any_eq_false]
    intro y hy hb
    have e : y = xs[i] := by simpa using hb
    subst e
    obtain ⟨j, hj, ej⟩ := List.mem_iff_getElem.mp hy
    rw [List.length_take] at hj
    have ej2 : xs[j] = xs[i] := by rw [← ej, List.getElem_take]
    have ji : j < i := by omega
    exact absurd ej2 (List.pairwise_iff_getElem.mp nd j i (by omega) hi ji)
  · intro y
    rw [split, List.any_append]
    congr 1
    by_cases e : y = xs[i]
    · subst e; simp
    · have q : (xs[i] == y) = false := beq_eq_false_iff_ne.mpr fun z => e z.symm
      simp [e, q]
section
variable {P : Program} {w : World} {A : Around} {R : Result → Shared → Prop} {It : Addr} {fp wr : List Addr} {G : Array GenState → Array GenState → Prop} {n : Nat} {Pv : Nat → Value → Prop} {Sv : Nat → Shared → Prop}
/-- the loop that fills a set: distinct texts -/
theorem fillS (W : WalksS P w A.in1 It fp wr G n Pv Sv) {a : Addr} (off : a ∉ fp) {xs : List Str} (nd : xs.Nodup) (len : xs.length = n) (few : n + 1 < scanBound)
    (read : ∀ i v, Pv i v → ∃ t, v = .str (xs.getD i Str.empty) t) : ∀ (m i : Nat) (s : Shared), i + m = n → Sv i s → HasS P w s.heap a xs i →
      (∀ s', Moved (a :: wr) G s s' → HasS P w s'.heap a xs n → R (.ok (.ret .none)) s') →
      codeAny (model P w) A (.builtin "set.update.loop" ⟨[.ref a, .ref It], []⟩) R s := by
  have offw : a ∉ wr := fun z => off (W.sub _ z)
  have keep : ∀ {s s' : Shared} {i : Nat}, Moved wr G s s' → HasS P w s.heap a xs i → HasS P w s'.heap a xs i := fun mv hs => by
    obtain ⟨o, es, ep, t, ho, r⟩ := hs
    exact ⟨o, es, ep, t, mv.heap a _ offw ho, r⟩
  intro m
  induction m with
  | zero =>
    intro i s e st hs fin
    obtain rfl : i = n := by omega
    refine codeAny_builtin PyProof.Rows.F.entry_set_update_loop ?_
    rw [Around.under_plainId PyProof.Rows.F.plain_set_update_loop _]
    show wpAny _ _ (pyNext (.ref It) >>= _) _ _ _
    exact wpAny_bind (W.done s _ _ st fun s' mv => wpAny_pure (fin s' (mv.mono fun b hb => List.mem_cons_of_mem _ hb) (keep mv hs)))
  | succ m ih =>
    intro i s e st hs fin
    have hi : i < n := by omega
    refine codeAny_builtin PyProof.Rows.F.entry_set_update_loop ?_
    rw [Around.under_plainId PyProof.Rows.F.plain_set_update_loop _]
    show wpAny _ _ (pyNext (.ref It) >>= _) _ _ _
    refine wpAny_bind (W.item i s _ _ hi st fun v s' pv st' mv => ?_)
    obtain ⟨t, rfl⟩ := read i v pv
    have hs' := keep mv hs
    obtain ⟨new, grow⟩ := take_next nd (show i < xs.length by omega)
    show wpAny _ _ (holding [Value.str _ t] (setAdd a (.str _ t)) >>= _) _ _ _
    refine wpAny_bind (wpAny_holding ?_)
    unfold setAdd
    refine wpAny_holding (wpAny_bind ((PySem.strKind P w).pyHash (strKind_is _ _ _ _) ?_))
    refine wpAny_setAddHashed_of (knd := PySem.strKind P w) (s := { s' with toks := s'.toks + 1 }) (strKind_is _ _ _ _) rfl hs' (by omega) fun h' sb hs2 => ?_
    have hs3 : HasS P w h' a xs (i + 1) := SetOf_congr hs2 grow (by show (if (xs.take i).any (· == xs.getD i Str.empty) = true then i else i + 1) = i + 1; rw [new]; rfl)
    refine wpAny_pure ⟨plainId_quiet PyProof.Rows.F.plain_set_update_loop _, ih (i + 1) _ (by omega) (W.frame _ s' _ _ st' (Nat.le_succ _) fun b hb o z => ?_) hs3 fun s2 mv2 q => fin s2 ?_ q⟩
    · rw [sb.2 b fun y => off (y ▸ hb)]
      exact z
    · refine Moved.trans W.gtrans ((mv.mono fun b hb => List.mem_cons_of_mem _ hb).then_heap (Nat.le_succ _) fun b o hb z => ?_) mv2
      rw [sb.2 b fun y => hb (by rw [y]; exact List.mem_cons_self)]
      exact z
end
/-- an empty set, newly laid -/
abbrev emptySet (led : Bool) : Obj := { cls := .type "set", dict := none, data := .set #[] 0 (.fresh 0 0 led) }
section
variable {P : Program} {w : World} {A : Around} {E : Value → Shared → Prop} {s : Shared} {l : Addr} {its : Array Value} {xs : List Str}
/-- what is wanted of it: a set at the next place, of these texts; all else as it was -/
abbrev SetMade (P : Program) (w : World) (s : Shared) (xs : List Str) (s' : Shared) : Prop :=
  ∃ h' tk, s' = { s with heap := h', toks := tk } ∧ HasS P w h' s.heap.objs.size xs xs.length ∧ ∀ b o, b < s.heap.objs.size → s.heap.get? b = some o → h'.get? b = some o
theorem setInit {led : Bool} {Q : Fin → Shared → Prop} (calm : A.handled = none) (hl : s.heap.IsList l its) (ht : StrsAre its.toList xs) (nd : xs.Nodup) (few : xs.length + 1 < scanBound)
    (h : ∀ s', SetMade P w s xs s' → Q (.done (.ret .none)) s') :
    wpAny (model P w) A (Builtin.«set.__init__» ⟨[.ref s.heap.objs.size, .ref l], []⟩) Q E { s with heap := s.heap.push (emptySet led) } := by
  obtain ⟨⟨oc, od, odt, osl⟩, hol, hcl, nl, hdl⟩ := hl
  dsimp only at hcl hdl
  subst hcl hdl
  have hS : (s.heap.push (emptySet led)).get? s.heap.objs.size = some (emptySet led) := Heap.get?_push_size _ rfl
  have hT : Shared.TypeIs { s with heap := s.heap.push (emptySet led) } (.ref s.heap.objs.size) "set" := ⟨_, hS, rfl⟩
  have hol' : (s.heap.push (emptySet led)).get? l = some { cls := .type "list", dict := od, data := .seq its nl, slots := osl } := Heap.get?_push_of_some _ hol
  have f1 := F.sub_list_set
  have f2 := F.sub_list_frozenset
  have f3 : (Value.type "list" == Value.type "dict") = false := by decide
  have hl1 : (s.heap.push (emptySet led)).IsList l its := ⟨_, hol', rfl, nl, rfl⟩
  unfold Builtin.«set.__init__» noKeywords Builtin.Frozenset.updateFrom
  generalize hPI : pyIter = PI
  wp_walk
  subst hPI
  refine wpAny_pyIter_list hl1 (wpAny_bind (wpAny_runValue ?_))
  have lS : l < s.heap.objs.size := Heap.lt_size hol
  have calm3 : A.in1.handled = none := by simp [calm]
  have nI : l ≠ (s.heap.push (emptySet led)).objs.size := by
    rw [Heap.size_push]
    exact Nat.ne_of_lt (Nat.lt_succ_of_lt lS)
  have off : s.heap.objs.size ∉ [(s.heap.push (emptySet led)).objs.size, l] := by
    rw [Heap.size_push]
    simp only [List.mem_cons, List.not_mem_nil, or_false, not_or]
    exact ⟨Nat.ne_of_lt (Nat.lt_succ_self _), Nat.ne_of_gt lS⟩
  have sz : xs.length = its.size := by rw [← StrsAre.len_eq ht, Array.length_toList]
  refine fillS ((Walks.list calm3 _ l nI its).toS) off nd sz (by omega) (fun i v hv => SS.strs_at ht i v (by rw [Array.getElem?_toList]; exact hv)) its.size 0 _ (Nat.zero_add _) ?_ ?_ fun s' mv q => ?_
  · exact ⟨⟨_, Heap.get?_push_size _ rfl, rfl, rfl⟩, hl1.push _⟩
  · exact SetOf_congr ((setObjOf_fresh (knd := PySem.strKind P w) led).setOf (Heap.get?_push_of_some _ hS) (by unfold scanBound; omega)) (fun _ => rfl) rfl
  · obtain ⟨h', g', d', tk', os'⟩ := s'
    obtain rfl : g' = s.gens := mv.gens
    obtain rfl : d' = s.drawn := mv.drawn
    obtain rfl : os' = s.os := mv.os
    show wpAny _ _ _ _ _ _
    refine wpAny_pure ?_
    show wpAny _ _ (ret Value.none) _ _ _
    refine wpAny_pure (h _ ⟨h', tk', rfl, by rw [sz]; exact q, fun b o hb z => mv.heap b o ?_ (Heap.get?_push_of_some _ (Heap.get?_push_of_some _ z))⟩)
    simp only [List.mem_cons, List.not_mem_nil, or_false, not_or]
    rw [Heap.size_push]
    exact ⟨Nat.ne_of_lt hb, Nat.ne_of_lt (Nat.lt_succ_of_lt hb)⟩
theorem setOfTexts {Q : Value → Shared → Prop} (calm : A.handled = none) (hl : s.heap.IsList l its) (ht : StrsAre its.toList xs) (nd : xs.Nodup) (few : xs.length + 1 < scanBound)
    (h : ∀ s', SetMade P w s xs s' → Q (.ref s.heap.objs.size) s') : wpAny (model P w) A (call (.type "set") [.ref l]) Q E s := by
  obtain ⟨c, tl, mro⟩ := F.called_set.mro
  have g1 := F.called_set.made
  have g2 := F.called_set.sub
  refine wpAny_call (codeAny_of_tree ?_)
  show wpAny _ _ (callAny (.type "set") _) _ _ _
  refine wpAny_pure ⟨Code.quiet_builtin _ (by decide +kernel), codeAny_builtin F.entry_type_call ?_⟩
  rw [Around.under_plain (weight_type_call_type "set" [.ref l] []) rfl]
  have g3 := F.called_set.notType
  have g4 := F.called_set.canCreate
  have g5 := F.typeCall_set_1 (.ref l)
  repeat (any_goals (first | assumption | wp_step))
  refine codeAny_mono (code_set_new_1 (.ref l) (E := E) (Q₁ := fun o s1 => ∃ led : Bool, o = .ref s.heap.objs.size ∧ s1 = { s with heap := s.heap.push (emptySet led) }) fun led => ⟨led, rfl, rfl⟩) fun r s1 hr => ?_
  cases r with
  | error e => exact hr
  | ok fl =>
    cases fl with
    | ret o =>
      obtain ⟨led, rfl, rfl⟩ := hr
      have hT : Shared.TypeIs { s with heap := s.heap.push (emptySet led) } (.ref s.heap.objs.size) "set" := ⟨_, Heap.get?_push_size _ rfl, rfl⟩
      have g6 := F.called_set.init.lookup
      have g7 := F.called_set.init.bind (.ref s.heap.objs.size)
      repeat (any_goals (first | assumption | wp_step))
      refine codeAny_mono (codeAny_call_builtin (R := wants (fun r s2 => r = .none ∧ SetMade P w s xs s2) E) F.called_set.init.plain F.entry_set_init (check_set_init_1 hT (setInit (by simp [calm]) hl ht nd few fun s2 q => ⟨rfl, q⟩))) fun r2 s2 hr2 => ?_
      cases r2 with
      | error e => exact hr2
      | ok f2 =>
        cases f2 with
        | ret v =>
          obtain ⟨rfl, q⟩ := hr2
          repeat (any_goals (first | assumption | wp_step))
          exact h _ q
        | _ => exact hr2.elim
    | _ => exact hr.elim
end
/-- len(set(xs)), xs a list of distinct texts -/
def tCount (K : PySem.W.Frag) (ta : TE) : TE := fun σ H Q => ta σ H fun x H1 => ∃ (l : Addr) (xs : List Str), x = .ref l ∧ SqL K H1 l (xs.map V.str) ∧ xs.Nodup ∧ xs.length ≤ 4000 ∧ Q (.int xs.length) H1
theorem pe_count {X : Cx} {a : Expr} {ta : TE} {p p2 q pos : Pos} (hc : X.calm = true) (hg : Gl X "len") (hm : X.mg "len" = none) (hg2 : Gl X "set") (hm2 : X.mg "set" = none) (ha : PE X a ta)
    (na : starEach [a] X.env = (false, eval a X.env) :: starEach [] X.env := by rfl) : PE X (.Call (.Name "len" p) [.Call (.Name "set" p2) [a] [] q] [] pos) (tCount X.K ta) := by
  refine ⟨fun pins s σ H Q I h => ?_⟩
  refine Call_ (ld_blt I hg hm boot_len (PyProof.Rows.callWith_builtin1 (PyProof.Rows.args_cons ?_ rfl) rfl rfl))
  refine Call_ (ld_blt I hg2 hm2 boot_set (PyProof.Rows.callWith_type1 (PyProof.Rows.args_cons (thn (ha.run pins s σ H _ I h) fun v s1 hh => PyProof.Rows.args_nil ?_) na) na rfl))
  obtain ⟨x, H1, I1, r1, l, xs, rfl, hq, nd, few, q1⟩ := hh
  cases r1
  obtain ⟨its, r, pl, hz⟩ := I1.list hq
  refine setOfTexts (I1.ok.hd hc) pl.isList (by simpa using strsAre_of r) nd (by unfold scanBound; omega) fun s' hs => PyProof.Rows.args_nil ?_
  obtain ⟨h', tk, rfl, ⟨o, es, ep, t, ho, hex, hd, _, _, _, hf, hn⟩, hk⟩ := hs
  have I2 : Inv X pins σ H1 { s1 with heap := h', toks := tk } := I1.kept fun b o z => hk b o (Heap.lt_size z) z
  exact call_len_set ho hex hd hf (by rw [hn]; omega) ⟨.int xs.length, H1, I2.tok _, ⟨_, by rw [hn]⟩, q1⟩
/-- xs + ys, lists that are read -/
def rCatL (K : PySem.W.Frag) : R2 := fun x y H Q => ∃ l b xs zs, x = .ref l ∧ y = .ref b ∧ SqL K H l xs ∧ SqL K H b zs ∧ xs.length + zs.length ≤ sizeLine ∧ ∀ p, H p = none → Q (.ref p) (upd H p (.lst (xs ++ zs)))
theorem op_catL {X : Cx} : OpR X (binaryOp .Add) (rCatL X.K) := by
  intro pins s σ H x y v u Q I rx ry h
  obtain ⟨l, b, xs, zs, rfl, rfl, h1, h2, hz, q⟩ := h
  cases rx
  cases ry
  obtain ⟨is, r1, ⟨⟨c1, d1, t1, s1⟩, n1, e1, k1, _, m1⟩, _⟩ := I.list h1
  obtain ⟨js, r2, ⟨⟨c2, d2, t2, s2⟩, n2, e2, k2, _, m2⟩, _⟩ := I.list h2
  dsimp only at k1 m1 k2 m2
  subst k1 m1 k2 m2
  have l1 := r1.length
  have l2 := r2.length
  refine concat_meets ⟨_, e1, rfl⟩ ⟨_, e2, rfl⟩ noFill_list_add seq_list_add F.slot_list_add F.entry_list_add (F.args_list_add_2 _ _)
    (list_addW l b is.toArray js.toArray n1 n2 d1 d2 s1 s2 (by simp only [List.size_toArray]; omega)) ⟨e1, e2, ?_⟩
  have ea : is.toArray ++ js.toArray = (is ++ js).toArray := by simp
  rw [ea]
  exact ⟨.ref _, _, I.lnew (t' := s.toks) (r1.append r2) (by rw [List.length_append]; omega), rfl, q _ I.fresh⟩
end Lf

set_option Elab.async false
set_option linter.all false
set_option maxRecDepth 100000
set_option maxHeartbeats 2000000
/-! Maps of points, tables of monoids: plain mathematics. -/
namespace Mon
/-- first x, then y -/
def comp (x y : List Nat) : List Nat := x.map fun i => y.getD i 0
def Valid (n : Nat) (x : List Nat) : Prop := x.length = n ∧ ∀ i ∈ x, i < n
theorem getD_at {α : Type} {l : List α} {i : Nat} {d : α} (h : i < l.length) : l.getD i d = l[i] := by simp [List.getD, h]
theorem getD_of {α : Type} {l : List α} {i : Nat} {d v : α} (h : l[i]? = some v) : l.getD i d = v := by simp [List.getD, h]
theorem comp_valid {n : Nat} {x y : List Nat} (hx : Valid n x) (hy : Valid n y) : Valid n (comp x y) := by
  refine ⟨by rw [comp, List.length_map, hx.1], fun i hi => ?_⟩
  obtain ⟨j, hj, rfl⟩ := List.mem_map.mp hi
  rw [getD_at (by rw [hy.1]; exact hx.2 j hj)]
  exact hy.2 _ (List.getElem_mem _)
theorem comp_assoc {n : Nat} {x y z : List Nat} (hx : Valid n x) (hy : Valid n y) : comp (comp x y) z = comp x (comp y z) := by
  unfold comp
  rw [List.map_map]
  refine List.map_congr_left fun i hi => ?_
  have h : i < y.length := by rw [hy.1]; exact hx.2 i hi
  show z.getD (y.getD i 0) 0 = (y.map fun j => z.getD j 0).getD i 0
  rw [getD_at h, getD_at (l := y.map fun j => z.getD j 0) (by rw [List.length_map]; exact h), List.getElem_map]
def idm (n : Nat) : List Nat := List.range n
theorem idm_valid {n : Nat} : Valid n (idm n) := ⟨List.length_range, fun i hi => List.mem_range.mp hi⟩
theorem id_comp {n : Nat} {y : List Nat} (hy : Valid n y) : comp (idm n) y = y := by
  apply List.ext_getElem
  · rw [comp, List.length_map, idm, List.length_range, hy.1]
  · intro i h1 h2
    simp only [comp, idm, List.getElem_map, List.getElem_range]
    exact getD_at h2
theorem comp_id {n : Nat} {x : List Nat} (hx : Valid n x) : comp x (idm n) = x := by
  conv => rhs; rw [← List.map_id x]
  refine List.map_congr_left fun i hi => ?_
  have h : i < (idm n).length := by rw [idm, List.length_range]; exact hx.2 i hi
  rw [getD_at h]
  simp [idm]
/-! ### how many -/
theorem nodup_lt : ∀ (N : Nat) (l : List Nat), l.Nodup → (∀ x ∈ l, x < N) → l.length ≤ N
  | 0, l, _, h => by
    cases l with
    | nil => exact Nat.le_refl _
    | cons x r => exact absurd (h x List.mem_cons_self) (Nat.not_lt_zero _)
  | N + 1, l, nd, h => by
    by_cases hm : N ∈ l
    · have q := nodup_lt N (l.erase N) (nd.erase N) fun x hx => by
        have h1 := h x (List.mem_of_mem_erase hx)
        have h2 : x ≠ N := fun e => by
          rw [e] at hx
          exact (List.Nodup.not_mem_erase nd) hx
        omega
      rw [List.length_erase_of_mem hm] at q
      omega
    · have q := nodup_lt N l nd fun x hx => by
        have h1 := h x hx
        have h2 : x ≠ N := fun e => hm (e ▸ hx)
        omega
      omega
/-- the number that a list of digits tells -/
def enc (n : Nat) : List Nat → Nat
  | [] => 0
  | i :: r => i + n * enc n r
theorem enc_lt {n : Nat} : ∀ {x : List Nat}, (∀ i ∈ x, i < n) → enc n x < n ^ x.length
  | [], _ => by simp [enc]
  | i :: r, h => by
    have a := h i List.mem_cons_self
    have b := enc_lt (x := r) fun j hj => h j (List.mem_cons_of_mem _ hj)
    have c : n * (enc n r + 1) ≤ n * n ^ r.length := Nat.mul_le_mul_left _ b
    rw [Nat.mul_add, Nat.mul_one] at c
    simp only [enc, List.length_cons, Nat.pow_succ]
    rw [Nat.mul_comm (n ^ r.length) n]
    omega
theorem enc_inj {n : Nat} : ∀ {x y : List Nat}, x.length = y.length → (∀ i ∈ x, i < n) → (∀ i ∈ y, i < n) → enc n x = enc n y → x = y
  | [], [], _, _, _, _ => rfl
  | [], _ :: _, e, _, _, _ => by cases e
  | _ :: _, [], e, _, _, _ => by cases e
  | i :: r, j :: q, e, hx, hy, h => by
    have a := hx i List.mem_cons_self
    have b := hy j List.mem_cons_self
    simp only [enc] at h
    have m1 : (i + n * enc n r) % n = i := by rw [Nat.add_mul_mod_self_left, Nat.mod_eq_of_lt a]
    have m2 : (j + n * enc n q) % n = j := by rw [Nat.add_mul_mod_self_left, Nat.mod_eq_of_lt b]
    have e1 : i = j := by rw [← m1, ← m2, h]
    subst e1
    have e2 : enc n r = enc n q := by
      have z : n * enc n r = n * enc n q := by omega
      exact Nat.eq_of_mul_eq_mul_left (by omega) z
    rw [enc_inj (by simpa using e) (fun k hk => hx k (List.mem_cons_of_mem _ hk)) (fun k hk => hy k (List.mem_cons_of_mem _ hk)) e2]
theorem maps_few {n : Nat} {f : List (List Nat)} (nd : f.Nodup) (v : ∀ x ∈ f, Valid n x) : f.length ≤ n ^ n := by
  have q := nodup_lt (n ^ n) (f.map (enc n)) ?_ ?_
  · rwa [List.length_map] at q
  · rw [List.Nodup, List.pairwise_map]
    refine nd.imp_of_mem fun {a b} ha hb ne e => ne ?_
    exact enc_inj (by rw [(v a ha).1, (v b hb).1]) (v a ha).2 (v b hb).2 e
  · intro x hx
    obtain ⟨y, hy, rfl⟩ := List.mem_map.mp hx
    have := enc_lt (v y hy).2
    rwa [(v y hy).1] at this
/-! ### the order in which numbers are met -/
def madeRow (i : Nat) : Nat → List Nat → List (Nat × Nat) → Option (List (Nat × Nat))
  | _, [], m => some m
  | c, t :: r, m => if m.length + 1 < t then none else if t = m.length + 1 then madeRow i (c + 1) r (m ++ [(i, c)]) else madeRow i (c + 1) r m
def madeTab : Nat → List (List Nat) → List (Nat × Nat) → Option (List (Nat × Nat))
  | _, [], m => some m
  | i, row :: rest, m => if m.length + 1 ≤ i then none else (madeRow i 0 row m).bind (madeTab (i + 1) rest)
theorem madeRow_snoc {i t : Nat} : ∀ {row : List Nat} {c : Nat} {m : List (Nat × Nat)}, madeRow i c (row ++ [t]) m = (madeRow i c row m).bind fun m' => if m'.length + 1 < t then none else if t = m'.length + 1 then some (m' ++ [(i, c + row.length)]) else some m'
  | [], c, m => by simp [madeRow]
  | u :: r, c, m => by
    simp only [List.cons_append, madeRow]
    split
    · rfl
    · split
      · rw [madeRow_snoc, List.length_cons, Nat.add_assoc, Nat.add_comm 1]
      · rw [madeRow_snoc, List.length_cons, Nat.add_assoc, Nat.add_comm 1]
theorem madeTab_snoc {row : List Nat} : ∀ {rows : List (List Nat)} {i : Nat} {m : List (Nat × Nat)}, madeTab i (rows ++ [row]) m = (madeTab i rows m).bind fun m' => if m'.length + 1 ≤ i + rows.length then none else madeRow (i + rows.length) 0 row m'
  | [], i, m => by
    simp only [List.nil_append, madeTab, List.length_nil, Nat.add_zero, Option.bind_some]
    split
    · rfl
    · cases madeRow i 0 row m <;> rfl
  | u :: r, i, m => by
    simp only [List.cons_append, madeTab]
    split
    · rfl
    · cases h : madeRow i 0 u m with
      | none => rfl
      | some m' =>
        simp only [Option.bind_some]
        rw [madeTab_snoc, List.length_cons]
        rw [show i + 1 + r.length = i + (r.length + 1) by omega]
/-- what was met: each number at a place of the table before it -/
theorem madeRow_ok {i : Nat} : ∀ {row : List Nat} {c : Nat} {m m' : List (Nat × Nat)}, madeRow i c row m = some m' → ∃ e, m' = m ++ e ∧ ∀ k p, e[k]? = some p → p.1 = i ∧ c ≤ p.2 ∧ row[p.2 - c]? = some (m.length + k + 1)
  | [], c, m, m', h => by
    simp only [madeRow, Option.some.injEq] at h
    exact ⟨[], by simp [h], fun k p hp => by simp at hp⟩
  | t :: r, c, m, m', h => by
    simp only [madeRow] at h
    split at h
    · cases h
    · split at h
      · rename_i ht
        obtain ⟨e, he, q⟩ := madeRow_ok h
        refine ⟨(i, c) :: e, by rw [he, List.append_assoc]; rfl, fun k p hp => ?_⟩
        cases k with
        | zero =>
          have := Option.some.inj hp
          subst this
          refine ⟨rfl, Nat.le_refl _, ?_⟩
          rw [Nat.sub_self]
          simp [ht]
        | succ k =>
          obtain ⟨q1, q2, q3⟩ := q k p (by simpa using hp)
          refine ⟨q1, by omega, ?_⟩
          rw [show p.2 - c = (p.2 - (c + 1)) + 1 by omega, List.getElem?_cons_succ, q3, List.length_append]
          congr 1
          show m.length + 1 + k + 1 = m.length + (k + 1) + 1
          omega
      · obtain ⟨e, he, q⟩ := madeRow_ok h
        refine ⟨e, he, fun k p hp => ?_⟩
        obtain ⟨q1, q2, q3⟩ := q k p hp
        refine ⟨q1, by omega, ?_⟩
        rw [show p.2 - c = (p.2 - (c + 1)) + 1 by omega, List.getElem?_cons_succ, q3]
theorem madeTab_ok : ∀ {rows : List (List Nat)} {i : Nat} {m m' : List (Nat × Nat)}, madeTab i rows m = some m' → ∃ e, m' = m ++ e ∧ ∀ k p, e[k]? = some p → i ≤ p.1 ∧ p.1 < m.length + k + 1 ∧ ∃ row, rows[p.1 - i]? = some row ∧ row[p.2]? = some (m.length + k + 1)
  | [], i, m, m', h => by
    simp only [madeTab, Option.some.injEq] at h
    exact ⟨[], by simp [h], fun k p hp => by simp at hp⟩
  | u :: r, i, m, m', h => by
    simp only [madeTab] at h
    split at h
    · cases h
    · rename_i hi
      cases h1 : madeRow i 0 u m with
      | none => rw [h1] at h; cases h
      | some m1 =>
        rw [h1, Option.bind_some] at h
        obtain ⟨e1, he1, q1⟩ := madeRow_ok h1
        obtain ⟨e2, he2, q2⟩ := madeTab_ok h
        refine ⟨e1 ++ e2, by rw [he2, he1, List.append_assoc], fun k p hp => ?_⟩
        by_cases hk : k < e1.length
        · rw [List.getElem?_append_left hk] at hp
          obtain ⟨a, b, c⟩ := q1 k p hp
          refine ⟨by omega, by omega, u, by rw [a, Nat.sub_self]; rfl, ?_⟩
          rwa [Nat.sub_zero] at c
        · rw [List.getElem?_append_right (by omega)] at hp
          obtain ⟨a, b, row, c, d⟩ := q2 _ p hp
          have le : m1.length = m.length + e1.length := by rw [he1, List.length_append]
          refine ⟨by omega, by omega, row, ?_, ?_⟩
          · rw [show p.1 - i = (p.1 - (i + 1)) + 1 by omega, List.getElem?_cons_succ, c]
          · rw [d, le]
            congr 1
            omega
theorem madeTab_app {b : List (List Nat)} : ∀ {a : List (List Nat)} {i : Nat} {m : List (Nat × Nat)}, madeTab i (a ++ b) m = (madeTab i a m).bind (madeTab (i + a.length) b)
  | [], i, m => by simp [madeTab]
  | u :: r, i, m => by
    simp only [List.cons_append, madeTab]
    split
    · rfl
    · cases madeRow i 0 u m with
      | none => rfl
      | some m' =>
        simp only [Option.bind_some]
        rw [madeTab_app, List.length_cons, show i + 1 + r.length = i + (r.length + 1) by omega]
theorem take_cons {α : Type} {l : List α} {i : Nat} {x : α} (h : l[i]? = some x) : l = l.take i ++ x :: l.drop (i + 1) ∧ l.take (i + 1) = l.take i ++ [x] ∧ (l.take i).length = i := by
  obtain ⟨hi, e⟩ := List.getElem?_eq_some_iff.mp h
  refine ⟨?_, ?_, by rw [List.length_take]; omega⟩
  · rw [← e, ← List.drop_eq_getElem_cons hi, List.take_append_drop]
  · rw [← e, List.take_succ_eq_append_getElem hi]
theorem madeTab_at {rows : List (List Nat)} {i : Nat} {row : List Nat} {m : List (Nat × Nat)} (h : madeTab 0 rows [] = some m) (hr : rows[i]? = some row) :
    ∃ m', madeTab 0 (rows.take i) [] = some m' ∧ i < m'.length + 1 ∧ ∃ m'', madeRow i 0 row m' = some m'' ∧ madeTab 0 (rows.take (i + 1)) [] = some m'' := by
  obtain ⟨e1, e2, e3⟩ := take_cons hr
  rw [e1, madeTab_app, e3, Nat.zero_add] at h
  cases h1 : madeTab 0 (rows.take i) [] with
  | none => rw [h1] at h; cases h
  | some m' =>
    rw [h1, Option.bind_some] at h
    simp only [madeTab] at h
    split at h
    · cases h
    · rename_i hi
      cases h2 : madeRow i 0 row m' with
      | none => rw [h2] at h; cases h
      | some m'' =>
        refine ⟨m', rfl, by omega, m'', h2, ?_⟩
        rw [e2, madeTab_app, h1, e3, Nat.zero_add, Option.bind_some]
        simp only [madeTab]
        rw [if_neg hi, h2]
        rfl
theorem madeRow_app {i : Nat} {b : List Nat} : ∀ {a : List Nat} {c : Nat} {m : List (Nat × Nat)}, madeRow i c (a ++ b) m = (madeRow i c a m).bind (madeRow i (c + a.length) b)
  | [], c, m => by simp [madeRow]
  | u :: r, c, m => by
    simp only [List.cons_append, madeRow, List.length_cons]
    split
    · rfl
    · split
      · rw [madeRow_app, show c + 1 + r.length = c + (r.length + 1) by omega]
      · rw [madeRow_app, show c + 1 + r.length = c + (r.length + 1) by omega]
theorem madeRow_at {row : List Nat} {i c t : Nat} {m m2 : List (Nat × Nat)} (h : madeRow i 0 row m = some m2) (hr : row[c]? = some t) :
    ∃ m', madeRow i 0 (row.take c) m = some m' ∧ t ≤ m'.length + 1 ∧ madeRow i 0 (row.take (c + 1)) m = some (if t = m'.length + 1 then m' ++ [(i, c)] else m') := by
  obtain ⟨e1, e2, e3⟩ := take_cons hr
  rw [e1, madeRow_app, e3, Nat.zero_add] at h
  cases h1 : madeRow i 0 (row.take c) m with
  | none => rw [h1] at h; cases h
  | some m' =>
    rw [h1, Option.bind_some] at h
    simp only [madeRow] at h
    split at h
    · cases h
    · rename_i hi
      refine ⟨m', rfl, by omega, ?_⟩
      rw [e2, madeRow_app, h1, e3, Nat.zero_add, Option.bind_some]
      simp only [madeRow]
      rw [if_neg hi]
      split <;> rfl
theorem madeTab_lt {rows : List (List Nat)} {m : List (Nat × Nat)} (h : madeTab 0 rows [] = some m) {k : Nat} {p : Nat × Nat} (hp : m[k]? = some p) : p.1 < k + 1 ∧ ∃ row, rows[p.1]? = some row ∧ row[p.2]? = some (k + 1) := by
  obtain ⟨e, he, q⟩ := madeTab_ok h
  rw [List.nil_append] at he
  subst he
  obtain ⟨_, a, row, b, c⟩ := q k p hp
  refine ⟨by simpa using a, row, by simpa using b, by simpa using c⟩
/-! ### a table that maps act by -/
structure Tab (n : Nat) (gens found rows : List (List Nat)) : Prop where
  nd : found.Nodup
  val : ∀ x ∈ found, Valid n x
  gval : ∀ g ∈ gens, Valid n g
  head : found[0]? = some (idm n)
  len : rows.length = found.length
  wid : ∀ (i : Nat) row, rows[i]? = some row → row.length = gens.length
  ent : ∀ (i : Nat) row, rows[i]? = some row → ∀ (c t : Nat), row[c]? = some t → ∃ x g, found[i]? = some x ∧ gens[c]? = some g ∧ found[t]? = some (comp x g)
def leftStep (rows : List (List Nat)) (L : List (List Nat)) (p : Nat × Nat) : List (List Nat) := L ++ [(L.getD p.1 []).map fun x => (rows.getD x []).getD p.2 0]
def leftTab (rows : List (List Nat)) (made : List (Nat × Nat)) : List (List Nat) := made.foldl (leftStep rows) [rows.getD 0 []]
/-- row k of the left table tells what letters in front of element k are -/
def LeftOk (gens found : List (List Nat)) (k : Nat) (l : List Nat) : Prop := l.length = gens.length ∧ ∀ (a e : Nat), l[a]? = some e → ∃ g x, gens[a]? = some g ∧ found[k]? = some x ∧ found[e]? = some (comp g x)
theorem nodup_at {α : Type} {l : List α} (nd : l.Nodup) {i j : Nat} {x : α} (h1 : l[i]? = some x) (h2 : l[j]? = some x) : i = j := by
  obtain ⟨a, ha⟩ := List.getElem?_eq_some_iff.mp h1
  obtain ⟨b, hb⟩ := List.getElem?_eq_some_iff.mp h2
  have pw := List.pairwise_iff_getElem.mp nd
  rcases Nat.lt_trichotomy i j with h | h | h
  · exact absurd (ha.trans hb.symm) (pw i j a b h)
  · exact h
  · exact absurd (hb.trans ha.symm) (pw j i b a h)
section
variable {n : Nat} {gens found rows : List (List Nat)}
theorem Tab.at (T : Tab n gens found rows) {i : Nat} {x : List Nat} (h : found[i]? = some x) : ∃ row, rows[i]? = some row := by
  have := (List.getElem?_eq_some_iff.mp h).1
  exact ⟨_, List.getElem?_eq_getElem (by rw [T.len]; exact this)⟩
/-- the entry of row i at letter c -/
theorem Tab.get (T : Tab n gens found rows) {i c : Nat} {x g : List Nat} (h : found[i]? = some x) (hg : gens[c]? = some g) : found[(rows.getD i []).getD c 0]? = some (comp x g) := by
  obtain ⟨row, hr⟩ := T.at h
  have hc : c < row.length := by rw [T.wid i row hr]; exact (List.getElem?_eq_some_iff.mp hg).1
  obtain ⟨x', g', h1, h2, h3⟩ := T.ent i row hr c row[c] (List.getElem?_eq_getElem hc)
  rw [h] at h1
  rw [hg] at h2
  cases h1
  cases h2
  rw [getD_of hr, getD_at hc]
  exact h3
theorem left_len {made : List (Nat × Nat)} : (leftTab rows made).length = made.length + 1 := by
  unfold leftTab
  suffices h : ∀ (m : List (Nat × Nat)) (L : List (List Nat)), (m.foldl (leftStep rows) L).length = L.length + m.length by
    rw [h, List.length_singleton, Nat.add_comm]
  intro m
  induction m with
  | nil => intro L; simp
  | cons p r ih => intro L; rw [List.foldl_cons, ih, leftStep, List.length_append, List.length_singleton, List.length_cons]; omega
theorem left_snoc {made : List (Nat × Nat)} {p : Nat × Nat} : leftTab rows (made ++ [p]) = leftStep rows (leftTab rows made) p := by
  unfold leftTab
  rw [List.foldl_append]
  rfl
theorem left_ok (T : Tab n gens found rows) (hz : gens ≠ []) : ∀ (made : List (Nat × Nat)), (∀ k p, made[k]? = some p → p.1 < k + 1 ∧ ∃ row, rows[p.1]? = some row ∧ row[p.2]? = some (k + 1)) → ∀ k l, (leftTab rows made)[k]? = some l → LeftOk gens found k l := by
  intro made
  have base : ∀ l, rows.getD 0 [] = l → LeftOk gens found 0 l := fun l hl => by
    obtain ⟨row, hr⟩ := T.at T.head
    rw [getD_of hr] at hl
    subst hl
    refine ⟨T.wid 0 row hr, fun a e he => ?_⟩
    obtain ⟨x, g, h1, h2, h3⟩ := T.ent 0 row hr a e he
    rw [T.head] at h1
    cases h1
    have gv := T.gval g (List.mem_of_getElem? h2)
    refine ⟨g, idm n, h2, T.head, ?_⟩
    rw [comp_id gv, h3, id_comp gv]
  suffices h : ∀ (r : List (Nat × Nat)) (m : List (Nat × Nat)), (∀ k p, (m ++ r)[k]? = some p → p.1 < k + 1 ∧ ∃ row, rows[p.1]? = some row ∧ row[p.2]? = some (k + 1)) → (∀ k l, (leftTab rows m)[k]? = some l → LeftOk gens found k l) →
      ∀ k l, (leftTab rows (m ++ r))[k]? = some l → LeftOk gens found k l by
    intro hm
    have := h made [] (by simpa using hm) (fun k l hl => by
      unfold leftTab at hl
      cases k with
      | zero => exact base l (Option.some.inj hl)
      | succ k => simp at hl)
    simpa using this
  intro r
  induction r with
  | nil => intro m _ h; simpa using h
  | cons p r ih =>
    intro m hm h
    rw [List.append_cons]
    refine ih (m ++ [p]) (by rw [← List.append_cons]; exact hm) fun k l hl => ?_
    rw [left_snoc, leftStep] at hl
    by_cases hk : k < (leftTab rows m).length
    · rw [List.getElem?_append_left hk] at hl
      exact h k l hl
    · have hk2 : k = (leftTab rows m).length := by
        have := (List.getElem?_eq_some_iff.mp hl).1
        rw [List.length_append, List.length_singleton] at this
        omega
      rw [List.getElem?_append_right (by omega), hk2, Nat.sub_self] at hl
      have el := Option.some.inj hl
      have kl : k = m.length + 1 := by rw [hk2, left_len]
      obtain ⟨b1, row, hrow, hent⟩ := hm m.length p (by rw [List.getElem?_append_right (Nat.le_refl _), Nat.sub_self]; rfl)
      obtain ⟨xb, gp, hxb, hgp, hfk⟩ := T.ent p.1 row hrow p.2 _ hent
      have hb : p.1 < (leftTab rows m).length := by rw [left_len]; exact b1
      have hL := h p.1 ((leftTab rows m)[p.1]) (List.getElem?_eq_getElem hb)
      rw [getD_at hb] at el
      refine ⟨by rw [← el, List.length_map]; exact hL.1, fun a e he => ?_⟩
      rw [← el, List.getElem?_map] at he
      cases q : ((leftTab rows m)[p.1])[a]? with
      | none => rw [q] at he; cases he
      | some e0 =>
        rw [q] at he
        have ee := Option.some.inj he
        obtain ⟨g, x, h1, h2, h3⟩ := hL.2 a e0 q
        rw [hxb] at h2
        cases h2
        have z := T.get h3 hgp
        have gv := T.gval g (List.mem_of_getElem? h1)
        have xv := T.val xb (List.mem_of_getElem? hxb)
        refine ⟨g, comp xb gp, h1, by rw [kl]; exact hfk, ?_⟩
        rw [← ee, z, comp_assoc gv xv]
theorem prod_ok (T : Tab n gens found rows) (hz : gens ≠ []) {L : List (List Nat)} (hL : ∀ k l, L[k]? = some l → LeftOk gens found k l) {i c t : Nat} {row li lt : List Nat} (h1 : rows[i]? = some row) (h2 : row[c]? = some t) (h3 : L[i]? = some li) (h4 : L[t]? = some lt) :
    lt = li.map fun x => (rows.getD x []).getD c 0 := by
  obtain ⟨x, g, hx, hg, ht⟩ := T.ent i row h1 c t h2
  have a := hL i li h3
  have b := hL t lt h4
  apply List.ext_getElem
  · rw [List.length_map, a.1, b.1]
  · intro k k1 k2
    rw [List.length_map] at k2
    rw [List.getElem_map]
    obtain ⟨ga, y, e1, e2, e3⟩ := b.2 k lt[k] (List.getElem?_eq_getElem k1)
    obtain ⟨gb, z, e4, e5, e6⟩ := a.2 k li[k] (List.getElem?_eq_getElem k2)
    rw [e1] at e4
    cases e4
    rw [ht] at e2
    cases e2
    rw [hx] at e5
    cases e5
    have q := T.get e6 hg
    have gv := T.gval ga (List.mem_of_getElem? e1)
    have xv := T.val x (List.mem_of_getElem? hx)
    rw [comp_assoc gv xv] at q
    exact nodup_at T.nd e3 q
end
end Mon

set_option Elab.async false
set_option linter.all false
set_option maxRecDepth 100000
set_option maxHeartbeats 4000000
/-! Facts of error classes. -/
namespace Lf
open PySem PySem.Spec PyProof.Rows L2
/-- what isinstance of an error of the class at C wants -/
structure IsC (K : PySem.W.Frag) (C : Addr) : Prop where
  cl : (PySem.W.clsIn K C).isSome = true
  ga : PySem.W.findIn K (.ref C) "__getattribute__" = some (some (.builtin "BaseException.__getattribute__"))
  gg : PySem.W.findIn K (.ref C) "__getattr__" = some none
  sb : PySem.W.subIn K (.ref C) (.type "BaseException") = some true
  ca : PySem.W.findIn K (.ref C) "__class__" = some (some (.builtin "object.__class__"))
  sg : PySem.W.specialIn K (.builtin "object.__class__") "__get__" = some (some (.builtin "getset_descriptor.__get__"))
  tk : PySem.W.takesIn K (.builtin "object.__class__") = some true
  ob : PySem.W.mroIn K C (.type "object") = some true
/-! ### the classes by one look at the written part -/
/-- an exception class over ValueError -/
def oexB (K : PySem.W.Frag) (C : Addr) : Bool := match K.lookup C with
  | some ⟨.type t, _, .cls cd, sl⟩ => (match cd.mro, sl.toList with
    | .ref D :: bm, [_, _, _, _, some (.builtin n), _] => decide (t = "type") && (decide (D = C) && (decide (n = "ValueError.__new__") && (!cd.hasDel && (cd.hasDict && PySem.HandSPX.refsVE bm))))
    | _, _ => false)
  | _ => false
theorem oexB_ok {K : PySem.W.Frag} {C : Addr} (h : oexB K C = true) : ∃ nm q N bs bm sn sub ab col dd k0 k1 k2 k3 k5,
    K.lookup C = some (excClassObj nm q C N bs bm true sn sub ab col dd k0 k1 k2 k3 k5 "ValueError.__new__") ∧ PySem.HandSPX.refsVE bm = true := by
  unfold oexB at h
  split at h
  · rename_i t dd cd sl lk
    split at h
    · rename_i D bm k0 k1 k2 k3 n k5 hm hs
      simp only [Bool.and_eq_true, decide_eq_true_eq, Bool.not_eq_true'] at h
      obtain ⟨rfl, rfl, rfl, h4, h5, h6⟩ := h
      obtain ⟨nm, bs, mro, ns, qn, hd, sn, sub, ab, col, del⟩ := cd
      dsimp only at hm h4 h5
      subst hm h4 h5
      obtain ⟨l⟩ := sl
      dsimp only at hs
      subst hs
      exact ⟨nm, qn, ns, bs, bm, sn, sub, ab, col, dd, k0, k1, k2, k3, k5, lk, h6⟩
    · cases h
  · cases h
def errB (K : PySem.W.Frag) (C : Addr) : Bool :=
  oexB K C && (decide (PySem.W.findIn K (.ref C) "__setattr__" = some (some (.builtin "object.__setattr__"))) && (decide (PySem.W.subIn K (.ref C) (.type "BaseException") = some true) &&
  (decide (PySem.W.typeIn K (.ref C) = some (.type "type")) && (PySem.W.keepIn K (.ref C) && (PySem.W.hasDictIn K C &&
  (decide (PySem.W.findIn K (.ref C) "__getattribute__" = some (some (.builtin "BaseException.__getattribute__"))) && (decide (PySem.W.findIn K (.ref C) "__getattr__" = some none) &&
  (decide (PySem.W.findIn K (.ref C) "__class__" = some (some (.builtin "object.__class__"))) && (decide (PySem.W.specialIn K (.builtin "object.__class__") "__get__" = some (some (.builtin "getset_descriptor.__get__"))) &&
  (decide (PySem.W.takesIn K (.builtin "object.__class__") = some true) && decide (PySem.W.mroIn K C (.type "object") = some true)))))))))))
structure ErrC (K : PySem.W.Frag) (C : Addr) : Prop where
  o : OexC K C
  x : XfC K C
  i : IsC K C
theorem errB_ok {K : PySem.W.Frag} {C : Addr} (h : errB K C = true) : ErrC K C := by
  unfold errB at h
  simp only [Bool.and_eq_true, decide_eq_true_eq] at h
  obtain ⟨h1, h2, h3, h4, h5, h6, h7, h8, h9, h10, h11, h12⟩ := h
  have hc : (PySem.W.clsIn K C).isSome = true := by
    obtain ⟨nm, q, N, bs, bm, sn, sub, ab, col, dd, k0, k1, k2, k3, k5, lk, _⟩ := oexB_ok h1
    unfold PySem.W.clsIn
    rw [lk] <;> rfl
  exact ⟨⟨oexB_ok h1, h2, h3, h4, h5⟩, ⟨h7, h8, h3, h6⟩, ⟨hc, h7, h8, h3, h9, h10, h11, h12⟩⟩
end Lf

set_option Elab.async false
set_option linter.all false
set_option maxRecDepth 100000
set_option maxHeartbeats 4000000
/-! Errors of the program's own as values: made, read, asked, told. -/
namespace Lf
open PySem PySem.Spec PyProof.Rows L2

/-! ### made -/
/-- C(e, ..) as a value, C's own __init__ keeping sp -/
def tNew (C : Addr) (sp : Sp) (ta : TA) : TE := fun σ H Q => ta σ H fun vs H1 =>
  vs.length ≤ 1000 ∧ ∀ a, H1 a = none → sp (.ref a :: vs) (upd H1 a (exo a C none)) (fun v H2 => v = .non ∧ Q (.ref a) H2) E0
section
variable {X : Cx} {CX : CXT} {x : Str} {C fI : Addr} {k : Nat} {fd : FuncData} {ps : List Str} {sp : Sp} {e : Expr} {es : List Expr} {ta : TA} {p pos : Pos}
theorem pe_new (T : OexC X.K C) (iC : PySem.W.findIn X.K (.ref C) "__init__" = some (some (.ref fI)))
    (tI : PySem.W.typeIn X.K (.ref fI) = some (.type "function"))
    (F1 : FnOk X.prog X.w X.K X.mg X.base CX k fI fd ps sp) (hr : Room (k + 1) X.A) (hb : Binds X.K fd ps [])
    (hx : Passes CX X E0) (hg : Gl X x) (hm : X.mg x = some (.ref C)) (ha : PA X (e :: es) ta)
    (hdb : (x == ("__debug__" : Str)) = false := by decide +kernel)
    (he : starEach (e :: es) X.env = (false, eval e X.env) :: starEach es X.env := by rfl)
    (hpl : (backTo pos (starEach es X.env)).any (·.1) = false := by rfl) :
    PE X (.Call (.Name x p) (e :: es) [] pos) (tNew C sp ta) := by
  refine ⟨fun pins s σ H Q I h => ?_⟩
  obtain ⟨nm, q, N, bs, bm, sn, sub, ab, col, dd, k0, k1, k2, k3, k5, hC, hbm⟩ := T.cls
  refine wpAny_Call_Name_kw (ld_glob I hg hm ?_ hdb)
  refine PySem.W.callWith_K (h₀ := X.base) I.ok.mod.kin T.kC
    (thn (ha.run pos pins s σ H _ I h) fun us s1 hh => ?_) he hpl
  obtain ⟨vs, H1, I1, r1, hz, q1⟩ := hh
  refine ⟨I1.kIn, ?_⟩
  show wpAny _ _ (call (.ref C) us) _ _ _
  obtain ⟨hp, g, dr, tk, os⟩ := s1
  let a := hp.objs.size + 1
  have hsz : hp.objs.size ≤ a := Nat.le_succ _
  have hq := q1 a (I1.hok.fresh hsz)
  let hp' := (hp.push (PySem.W.kdv_tup us)).push (PySem.HandSPX.excO C hp.objs.size)
  have kk : ∀ b o, hp.get? b = some o → hp'.get? b = some o := fun b o z =>
    Heap.get?_push_of_some _ (Heap.get?_push_of_some _ z)
  have hget : ((hp.push (PySem.W.kdv_tup us)).push (PySem.HandSPX.excO C hp.objs.size)).get? (hp.objs.size + 1) =
    some (PySem.HandSPX.excO C hp.objs.size) := by heap_get
  have I2 : Inv X pins σ (upd H1 a (exo a C none)) ⟨hp', g, dr, tk, os⟩ :=
    I1.laid (t' := tk) (a := a) (o := exo a C none) (h' := hp') kk hsz (exo_ok (show hp'.get? a = _ from hget))
  have r2 : Vals (V.ref a :: vs) (Value.ref a :: us) := .cons rfl r1
  have hl : (Value.ref a :: us).length = ps.length := by
    have z := r2.length
    rw [F1.len _ _ _ _ hq] at z
    exact z.symm
  have hus : us.length ≤ sizeLine := by
    rw [← Paired.length r1, sizeLine_eq]
    omega
  have hb2 := hb ⟨hp', g, dr, tk, os⟩ (Value.ref a :: us) I2.kIn (by simpa using hl)
  rw [List.append_nil] at hb2
  refine wpAny_call (PySem.HandSPX.call_own F.excBase_ValueError (fun Y => PySem.HandSPX.refsVE_contains Y bm hbm) (I1.kIn _ _ hC)
    (PySem.W.looks_findIn I1.kIn iC) (fun self => PySem.W.bind_fn I1.kIn self tI) hus
    (codeAny_mono (F1.run _ X.stack _ _ ⟨Value.ref a :: us, []⟩ (Value.ref a :: us) _ _ E0 (hr.make C us []) (I2.env0.make C us []) hb2 r2 hq) fun r s' hq' => ?_))
  cases r with
  | error er => exact hx pins σ _ _ er s' I2 hq'
  | ok fl =>
    cases fl with
    | ret u =>
      obtain ⟨v, H2, os2, bare2, un2, hok2, rv, ev, q2⟩ := hq'
      subst ev
      exact ⟨rv, .ref a, H2, I2.call' (ch := []) os2 un2 hok2 bare2 (fun b z => nomatch z), rfl, q2⟩
    | next => exact False.elim hq'
    | brk => exact False.elim hq'
    | cont => exact False.elim hq'
end

/-! ### an error that stands -/
/-- at a an error of the class at C: its dict d, if it has one -/
def XAt (H : Hp) (a C : Addr) (d : Option Addr) : Prop := H a = some (exo a C d) ∨ (d = none ∧ H a = some (ExO (.ref C) a))
theorem XAt.obj {X : Cx} {pins : List (Addr × Obj)} {σ : L2.St} {H : Hp} {s : Shared} {a C : Addr} {d : Option Addr} (I : Inv X pins σ H s) (h : XAt H a C d) :
    ∃ oe vs, s.heap.get? a = some oe ∧ Zc (.ref C) d oe ∧ oe.data = .fields vs := by
  rcases h with h | ⟨rfl, h⟩
  · obtain ⟨t1, ho⟩ := exo_at I.hok h
    exact ⟨_, _, ho, ⟨rfl, rfl⟩, rfl⟩
  · obtain ⟨⟨oe, vs, ho, hz, hd, _⟩, _, _⟩ := I.hok a _ h
    exact ⟨oe, vs, ho, hz, hd⟩
theorem XAt.mono {H H' : Hp} {a C : Addr} {d : Option Addr} (h : XAt H a C d) (e : Same H H') : XAt H' a C d := by
  rcases h with h | ⟨z, h⟩
  · exact .inl (e _ _ h)
  · exact .inr ⟨z, e _ _ h⟩

/-! ### a field -/
def tXo (K : PySem.W.Frag) (f : Str) (te : TE) : TE := fun σ H Q => te σ H fun x H1 => ∃ (a C d : Addr) (fs : List (Str × V)) (v : V),
  x = .ref a ∧ XfC K C ∧ PySem.W.findIn K (.ref C) f = some none ∧ XAt H1 a C (some d) ∧ H1 d = some (exd d fs) ∧ fs.lookup f = some v ∧ Q v H1
theorem pe_xo {X : Cx} {e : Expr} {te : TE} {pos : Pos} {n : Str} (he : PE X e te)
    (hb : attributeBase e n X.env (eval e X.env) = eval e X.env := by rfl) : PE X (.Attribute e n pos) (tXo X.K n te) := by
  refine ⟨fun pins s σ H Q I h => ?_⟩
  refine attr_of hb (thn (he.run pins s σ H _ I h) fun u s1 hh => ?_)
  obtain ⟨x, H1, I1, rx, a, C, d, fs, v, ex, T, hno, ea, ed, l, q⟩ := hh
  subst ex
  obtain rfl : u = Value.ref a := rx
  obtain ⟨oe, vs, ho, hz, hd⟩ := ea.obj I1
  obtain ⟨mA, hns, hr⟩ := exd_at I1.hok ed
  obtain ⟨od, ho2, hl⟩ := lookIn_ns hns
  obtain ⟨u, hu, ru⟩ := RelO.some_of (v := v) (o := mA n) (by rw [← l]; exact hr n)
  have J : PySem.W.InstAt s1.heap a oe C (some od) := ⟨ho, hz.1, by unfold PySem.W.notCls; rw [hd] <;> rfl, by rw [hz.2]; exact ho2⟩
  exact HandSPX.exc_get I1.kIn J T.ga T.gg T.exC (PySem.W.findObj_own T.hdC hno rfl (by rw [hl, hu])) (handed_of ru)
    ⟨v, H1, I1.tok _, ru, q⟩

/-! ### isinstance -/
/-- its dict, if it has one, is an error's -/
def XDict (H : Hp) (d : Option Addr) : Prop := ∀ dx, d = some dx → ∃ fs, H dx = some (exd dx fs)
theorem XAt.inst {X : Cx} {pins : List (Addr × Obj)} {σ : L2.St} {H : Hp} {s : Shared} {a C : Addr} {d : Option Addr} (I : Inv X pins σ H s) (h : XAt H a C d) (hd : XDict H d) :
    ∃ ox od, PySem.W.InstAt s.heap a ox C od := by
  obtain ⟨oe, vs, ho, hz, hv⟩ := h.obj I
  have nc : PySem.W.notCls oe = true := by unfold PySem.W.notCls; rw [hv] <;> rfl
  cases d with
  | none => exact ⟨oe, none, ho, hz.1, nc, by rw [hz.2]; trivial⟩
  | some dx =>
    obtain ⟨fs, e⟩ := hd dx rfl
    obtain ⟨mA, hns, _⟩ := exd_at I.hok e
    obtain ⟨od, ho2, _⟩ := lookIn_ns hns
    exact ⟨oe, some od, ho, hz.1, nc, by rw [hz.2]; exact ho2⟩
def rIsX (K : PySem.W.Frag) : List V → Hp → VK → Prop := fun xs H Q => ∃ (a C : Addr) (d : Option Addr) (c : V) (cv : Value) (b : Bool),
  xs = [.ref a, c] ∧ ClsV c cv ∧ IsC K C ∧ XAt H a C d ∧ XDict H d ∧ PySem.W.kitOne K (.ref C) cv = some b ∧ Q (.bl b) H
theorem call_isX {X : Cx} : CallR X (.builtin "isinstance") (rIsX X.K) := by
  intro pins s σ H xs us Q I r h
  obtain ⟨a, C, d, c, cv, b, rfl, k, T, ha, hd, e, q⟩ := h
  obtain ⟨u1, u2, rfl, r1, r2⟩ := vals2 r
  obtain rfl := k.eq r2
  obtain rfl : u1 = Value.ref a := r1
  obtain ⟨ox, od, J⟩ := ha.inst I hd
  exact PySem.W.kia_one (PySem.W.kitx_exc (od := od) T.cl T.ga T.gg T.sb T.ca T.sg T.tk T.ob) I.kIn J e (fun z => nomatch z)
    fun tk => ⟨.bl b, H, I.tok tk, rfl, q⟩
def rIsXT (K : PySem.W.Frag) : List V → Hp → VK → Prop := fun xs H Q => ∃ (a C : Addr) (d : Option Addr) (tp : Addr) (cs : List V) (us : List Value) (b : Bool),
  xs = [.ref a, .ref tp] ∧ H tp = some (.tup cs) ∧ Paired ClsV cs us ∧ IsC K C ∧ XAt H a C d ∧ XDict H d ∧ PySem.W.kitAny K (.ref C) us = some b ∧ Q (.bl b) H
theorem call_isXT {X : Cx} : CallR X (.builtin "isinstance") (rIsXT X.K) := by
  intro pins s σ H xs us Q I r h
  obtain ⟨a, C, d, tp, cs, ws, b, rfl, htp, k, T, ha, hd, e, q⟩ := h
  obtain ⟨u1, u2, rfl, r1, r2⟩ := vals2 r
  obtain rfl : u1 = Value.ref a := r1
  obtain rfl : u2 = Value.ref tp := r2
  obtain ⟨ox, od, J⟩ := ha.inst I hd
  obtain ⟨_, its, rv, ⟨oc, dd, dt, sl⟩, h1, h2, n, h3⟩ := (show ObjOk X.prog X.w H s.heap tp (.tup cs) from I.hok tp _ htp)
  obtain rfl := ClsV.all k rv
  dsimp only at h2 h3
  subst h2 h3
  exact PySem.W.kia_tup (PySem.W.kitx_exc (od := od) T.cl T.ga T.gg T.sb T.ca T.sg T.tk T.ob) I.kIn J h1 e (fun z => nomatch z)
    fun tk => ⟨.bl b, H, I.tok tk, rfl, q⟩

/-! ### told() -/
/-- e.m() of an error e, by what stands of its class -/
def tTold (X : Cx) (m : Str) (te : TE) : TE := fun σ H Q => te σ H fun x H1 => ∃ (a C f : Addr) (d : Option Addr) (fd : FuncData) (sp : Sp),
  x = .ref a ∧ IsC X.K C ∧ Meth X.K C m f ∧ XAt H1 a C d ∧ (∀ dx, d = some dx → ∃ fs, H1 dx = some (exd dx fs) ∧ fs.lookup m = none) ∧
    FnOk X.prog X.w X.K X.mg X.base CX0 1 f fd ["self"] sp ∧ Binds X.K fd ["self"] [] ∧ sp [.ref a] H1 Q E0
theorem pe_told {X : Cx} {o : Expr} {m : Str} {te : TE} {pos apos : Pos} {pl : Sem Bool} (he : PE X o te) (hr : Room 1 X.A)
    (ht : eval (.Call (.Attribute o m apos) [] [] pos) X.env = (do
      let ov ← eval o X.env
      standAt apos.atName
      let (f, first) ← holding [ov] (getMethod ov m pl)
      callWith pos f first (backTo pos (starEach [] X.env)) (backToKw pos (keywordEach [] X.env))) := by rfl) :
    PE X (.Call (.Attribute o m apos) [] [] pos) (tTold X m te) := by
  refine ⟨fun pins s σ H Q I h => ?_⟩
  refine PySem.W.methodCall_KW (pl := pl) (thn (he.run pins s σ H _ I h) fun u s1 hh => ?_) ht
  obtain ⟨x, H1, I1, rx, a, C, f, d, fd, sp, rfl, T, M, ha, hd, FO, hb, q⟩ := hh
  obtain rfl : u = Value.ref a := rx
  obtain ⟨mm, fr⟩ := I1.fr
  obtain ⟨oe, vs, ho, hz, hv⟩ := ha.obj I1
  have nc : PySem.W.notCls oe = true := by unfold PySem.W.notCls; rw [hv] <;> rfl
  have go : wpAny (model X.prog X.w) X.A (callWith pos (Value.ref f) [Value.ref a] (backTo pos (starEach [] X.env)) []) (EP X pins σ Q) X.xe s1 :=
    PySem.W.callWith_K0 (first := [.ref a]) I1.kIn M.kp (run_fn (us := [.ref a]) (vs := [.ref a]) FO hr hb .nil pass0 I1 (.cons rfl .nil) q)
  cases d with
  | none =>
    have J : PySem.W.InstAt s1.heap a oe C none := ⟨ho, hz.1, nc, by rw [hz.2]; trivial⟩
    exact PySem.W.method_exc fr I1.ok.mod.kin J T.ga T.gg M.at_ M.fn rfl go
  | some dx =>
    obtain ⟨fs, e, hl⟩ := hd dx rfl
    obtain ⟨mA, hns, rel⟩ := exd_at I1.hok e
    obtain ⟨od, ho2, hk⟩ := lookIn_ns hns
    have J : PySem.W.InstAt s1.heap a oe C (some od) := ⟨ho, hz.1, nc, by rw [hz.2]; exact ho2⟩
    have hm : mA m = none := by
      have z := rel m
      rw [hl] at z
      cases y : mA m with
      | none => rfl
      | some v => rw [y] at z; exact z.elim
    exact PySem.W.method_exc fr I1.ok.mod.kin J T.ga T.gg M.at_ M.fn (by show (PySem.W.lookIn m od).map _ = _; rw [hk, hm]; rfl) go

/-! ### made without own __init__, of nothing -/
theorem pe_bare {X : Cx} {C : Addr} {bmB : List Value} {B newId initId : String} {x : Str} {p pos : Pos} (F : ExcBaseFacts B newId initId bmB)
    (q : PySem.W.excIn X.K C bmB newId = true) (gC : X.mg x = some (.ref C)) (kC : PySem.W.keepIn X.K (.ref C) = true) (hg : Gl X x)
    (hdb : (x == ("__debug__" : Str)) = false := by decide +kernel) :
    PE X (.Call (.Name x p) [] [] pos) (fun _ H Q => ∀ a, H a = none → Q (.ref a) (upd H a (ExO (.ref C) a))) := by
  refine ⟨fun pins s σ H Q I h => ?_⟩
  refine wpAny_Call_Name_kw (ld_glob I hg gC ?_ hdb)
  refine PySem.W.callWith_K0 I.kIn kC ?_
  show wpAny _ _ (call (.ref C) []) _ _ _
  obtain ⟨bm, N, nm, qn, bs, hdct, sn, sub, ab, col, dd, k0, k1, k2, k3, k5, mN, hC, hN, hni, T⟩ := exc_obj I.kIn q
  refine wpAny_call_exc_subT F T hC hN hni (fun h' a hm => ?_) (Nat.zero_le _)
  have hn : H a = none := I.hok.gone hm.new
  obtain ⟨t, ht, _, _⟩ := hm.there
  exact ⟨.ref a, _, I.laidN hm.keeps hm.new hn (exO_ok ht ⟨rfl, rfl⟩ rfl rfl rfl (show 4 < 6 by decide)), rfl, h a hn⟩

/-! ### by a weaker reading -/
theorem PE.imp {X : Cx} {e : Expr} {t t' : TE} (h : PE X e t) (f : ∀ σ H Q, t' σ H Q → t σ H Q) : PE X e t' := ⟨fun pins s σ H Q I q => h.run pins s σ H Q I (f σ H Q q)⟩
theorem PSs.imp {X : Cx} {e : List Stmt} {t t' : TS} (h : PSs X e t) (f : ∀ D σ H, t' D σ H → t D σ H) : PSs X e t' := ⟨fun pins s σ H D I q => h.run pins s σ H D I (f D σ H q)⟩
/-- a reading that may be weakened -/
def up (t : TE) : TE := fun σ H Q => ∃ Q0, t σ H Q0 ∧ ∀ v H', Q0 v H' → Q v H'
theorem PE.up {X : Cx} {e : Expr} {t : TE} (h : PE X e t) : PE X e (Lf.up t) := ⟨fun pins s σ H Q I q => by
  obtain ⟨Q0, q, k⟩ := q
  exact thn (h.run pins s σ H Q0 I q) fun u s1 r => by
    obtain ⟨v, H', I', rv, z⟩ := r
    exact ⟨v, H', I', rv, k v H' z⟩⟩
/-- a class (or another thing) of the module by its name -/
theorem pe_cl {X : Cx} {x : Str} {a : Addr} {pos : Pos} (hg : Gl X x) (hm : X.mg x = some (.ref a)) (hd : (x == ("__debug__" : Str)) = false := by decide +kernel) : PE X (.Name x pos) (tC (.ref a)) := pe_glob hg hm rfl hd
/-- an int of the module by its name -/
theorem pe_gint {X : Cx} {x : Str} {i : Int} {t : Tok} {pos : Pos} (hg : Gl X x) (hm : X.mg x = some (.int i t)) (hd : (x == ("__debug__" : Str)) = false := by decide +kernel) : PE X (.Name x pos) (tC (.int i)) := pe_glob hg hm ⟨t, rfl⟩ hd
theorem same_upd {H : Hp} {p : Addr} {o : HO} (n : H p = none) : Same H (upd H p o) := fun b u e => by rw [upd_ne (ne_of_none e n)]; exact e

/-! ### a def of the module, called by its name -/
structure Def (P : Program) (w : World) (K : PySem.W.Frag) (mg : Str → Option Value) (base : Heap) (CX : CXT) (k : Nat) (x : Str) (ps : List Str) (sp : Sp) : Prop where
  ex : ∃ f fd, mg x = some (.ref f) ∧ PySem.W.keepIn K (.ref f) = true ∧ FnOk P w K mg base CX k f fd ps sp ∧ Binds K fd ps []
section
variable {X : Cx} {CX : CXT} {k : Nat} {x : Str} {ps : List Str} {sp : Sp} {E : XK} {e : Expr} {es : List Expr} {t : TA} {p pos : Pos}
theorem pe_def (D : Def X.prog X.w X.K X.mg X.base CX k x ps sp) (hr : Room k X.A) (hx : Passes CX X E) (hg : Gl X x) (ha : PA X (e :: es) t)
    (hdb : (x == ("__debug__" : Str)) = false := by decide +kernel) (he : starEach (e :: es) X.env = (false, eval e X.env) :: starEach es X.env := by rfl)
    (hpl : (backTo pos (starEach es X.env)).any (·.1) = false := by rfl) : PE X (.Call (.Name x p) (e :: es) [] pos) (fun σ H Q => t σ H fun vs H1 => sp vs H1 Q E) := by
  obtain ⟨f, fd, g, kp, F, b⟩ := D.ex
  exact PE.imp (pe_call F hr hg g kp b .nil hx ha hdb he hpl) fun σ H Q h => by
    show t σ H fun vs H1 => sp (vs ++ []) H1 Q E
    simpa only [List.append_nil] using h
theorem pe_def0 (D : Def X.prog X.w X.K X.mg X.base CX k x ps sp) (hr : Room k X.A) (hx : Passes CX X E) (hg : Gl X x)
    (hdb : (x == ("__debug__" : Str)) = false := by decide +kernel) : PE X (.Call (.Name x p) [] [] pos) (fun _ H Q => sp [] H Q E) := by
  obtain ⟨f, fd, g, kp, F, b⟩ := D.ex
  exact pe_call0 F hr hg g kp b .nil hx hdb
end

/-! ### told, __init__ -/
def spTold (t : Str) : Sp := fun vs H Q _ => ∃ v, vs = [v] ∧ Q (.str t) H
def spIni1 (C : Addr) (f : Str) : Sp := fun vs H Q _ => ∃ a v, vs = [.ref a, v] ∧ H a = some (exo a C none) ∧
  ∀ d, H d = none → d ≠ a → Q .non (upd (upd H d (exd d [(f, v)])) a (exo a C (some d)))
def spIni2 (C : Addr) (f g : Str) : Sp := fun vs H Q _ => ∃ a v u, vs = [.ref a, v, u] ∧ H a = some (exo a C none) ∧
  ∀ d, H d = none → d ≠ a → Q .non (upd (upd (upd H d (exd d [(f, v)])) a (exo a C (some d))) d (exd d [(g, u), (f, v)]))
section
variable {P : Program} {w : World} {K : PySem.W.Frag} {mg : Str → Option Value} {base : Heap} {C f : Addr} {fd : FuncData} {q : Str} {a : Arguments} {sc : Scope}
theorem vis_of {N ps : List Str} (S : FnScope N ps sc) {x : Str} (h : x ∈ ps) : Vis sc x := by
  rcases S.par x h with e | e
  · exact .inl e
  · exact .inr (.inl e)
theorem told_ok {t : Str} {j : Nat} {p p2 : Pos} (F : FunD K "told" q a [.Return (some (.Constant (.str t) j p)) p2] sc [] [] f fd) (S : FnScope ["self"] ["self"] sc) :
    FnOk P w K mg base CX0 1 f fd ["self"] (spTold t) := by
  refine F.ok S (fun vs H Q E h => ?_) (fun cdv A outer s H vs Q E hr h => ⟨_, PSs.nox (pss_one (ps_ret pe_str)), ?_⟩)
  · obtain ⟨v, rfl, _⟩ := h
    rfl
  · obtain ⟨v, rfl, k⟩ := h
    exact k
theorem ini1_ok {fl : Str} {p1 p2 p3 p4 : Pos} (T : OexC K C) (no : PySem.W.findIn K (.ref C) fl = some none)
    (F : FunD K "__init__" q a [.Assign [.Attribute (.Name "self" p1) fl p2] (.Name fl p3) p4] sc [] [] f fd) (S : FnScope ["self", fl] ["self", fl] sc)
    (d1 : (fl == ("__debug__" : Str)) = false := by decide +kernel) (d2 : (fl == ("__classdict__" : Str)) = false := by decide +kernel) :
    FnOk P w K mg base CX0 1 f fd ["self", fl] (spIni1 C fl) := by
  refine F.ok S (fun vs H Q E h => ?_) (fun cdv A outer s H vs Q E hr h => ⟨_, PSs.nox (pss_one (ps_ost (pe_var (i := 0) rfl (vis_of S (by simp))) (pe_var (i := 1) rfl (vis_of S (by simp)) d1 d2))), ?_⟩)
  · obtain ⟨a, v, rfl, _⟩ := h
    rfl
  · obtain ⟨a, v, rfl, e, k⟩ := h
    exact ⟨_, rfl, _, rfl, a, C, rfl, T, no, .inl ⟨e, fun dx n ne => k dx n ne⟩⟩
theorem ini2_ok {fl gl : Str} {p1 p2 p3 p4 q1 q2 q3 q4 : Pos} (T : OexC K C) (no : PySem.W.findIn K (.ref C) fl = some none) (no2 : PySem.W.findIn K (.ref C) gl = some none)
    (F : FunD K "__init__" q a [.Assign [.Attribute (.Name "self" p1) fl p2] (.Name fl p3) p4, .Assign [.Attribute (.Name "self" q1) gl q2] (.Name gl q3) q4] sc [] [] f fd) (S : FnScope ["self", fl, gl] ["self", fl, gl] sc)
    (d1 : (fl == ("__debug__" : Str)) = false := by decide +kernel) (d2 : (fl == ("__classdict__" : Str)) = false := by decide +kernel)
    (d3 : (gl == ("__debug__" : Str)) = false := by decide +kernel) (d4 : (gl == ("__classdict__" : Str)) = false := by decide +kernel) :
    FnOk P w K mg base CX0 1 f fd ["self", fl, gl] (spIni2 C fl gl) := by
  refine F.ok S (fun vs H Q E h => ?_) (fun cdv A outer s H vs Q E hr h => ⟨_, PSs.nox (pss_cons (ps_ost (pe_var (i := 0) rfl (vis_of S (by simp))) (pe_var (i := 1) rfl (vis_of S (by simp)) d1 d2))
    (pss_one (ps_ost (pe_var (i := 0) rfl (vis_of S (by simp))) (pe_var (i := 2) rfl (vis_of S (by simp)) d3 d4)))), ?_⟩)
  · obtain ⟨a, v, u, rfl, _⟩ := h
    rfl
  · obtain ⟨a, v, u, rfl, e, k⟩ := h
    exact ⟨_, rfl, _, rfl, a, C, rfl, T, no, .inl ⟨e, fun dx n ne => ⟨_, rfl, _, rfl, a, C, rfl, T, no2, .inr ⟨dx, _, upd_same, by rw [upd_ne ne]; exact upd_same, (by show 1 ≤ 900; decide), k dx n ne⟩⟩⟩⟩
end

/-! ### an error class with all that is told of it -/
section
variable (P : Program) (w : World) (K : PySem.W.Frag) (mg : Str → Option Value) (base : Heap)
structure Tells (C : Addr) (t : Str) : Prop where
  ex : ∃ f fd, Meth K C "told" f ∧ FnOk P w K mg base CX0 1 f fd ["self"] (spTold t) ∧ Binds K fd ["self"] []
/-- the class x, made of one thing, its field -/
structure Err1 (x fl t : Str) : Prop where
  g : mg x = some (.ref (He.ga K x))
  c : ErrC K (He.ga K x)
  no : PySem.W.findIn K (.ref (He.ga K x)) fl = some none
  tl : Tells P w K mg base (He.ga K x) t
  ini : ∃ fI fd, PySem.W.findIn K (.ref (He.ga K x)) "__init__" = some (some (.ref fI)) ∧ PySem.W.typeIn K (.ref fI) = some (.type "function") ∧
    FnOk P w K mg base CX0 1 fI fd ["self", fl] (spIni1 (He.ga K x) fl) ∧ Binds K fd ["self", fl] []
structure Err2 (x fl gl t : Str) : Prop where
  g : mg x = some (.ref (He.ga K x))
  c : ErrC K (He.ga K x)
  no : PySem.W.findIn K (.ref (He.ga K x)) fl = some none
  no2 : PySem.W.findIn K (.ref (He.ga K x)) gl = some none
  tl : Tells P w K mg base (He.ga K x) t
  ini : ∃ fI fd, PySem.W.findIn K (.ref (He.ga K x)) "__init__" = some (some (.ref fI)) ∧ PySem.W.typeIn K (.ref fI) = some (.type "function") ∧
    FnOk P w K mg base CX0 1 fI fd ["self", fl, gl] (spIni2 (He.ga K x) fl gl) ∧ Binds K fd ["self", fl, gl] []
/-- made of nothing -/
structure Err0 (x t : Str) : Prop where
  g : mg x = some (.ref (He.ga K x))
  c : ErrC K (He.ga K x)
  ec : PySem.W.excIn K (He.ga K x) He.veBase "ValueError.__new__" = true
  tl : Tells P w K mg base (He.ga K x) t
end
section
variable {X : Cx} {x fl gl t : Str} {e e2 : Expr} {ta tb : TE} {p pos : Pos}
theorem pe_err1 (E : Err1 X.prog X.w X.K X.mg X.base x fl t) (hr : Room 2 X.A) (hg : Gl X x) (ha : PE X e ta) (hdb : (x == ("__debug__" : Str)) = false := by decide +kernel)
    (hs : starEach [e] X.env = (false, eval e X.env) :: starEach [] X.env := by rfl) :
    PE X (.Call (.Name x p) [e] [] pos) (fun σ H Q => ta σ H fun v H1 => ∀ a d H', H1 a = none → H1 d = none → Same H1 H' → XAt H' a (He.ga X.K x) (some d) → H' d = some (exd d [(fl, v)]) → Q (.ref a) H') := by
  obtain ⟨fI, fd, i1, i2, F, b⟩ := E.ini
  refine PE.imp (pe_new E.c.o i1 i2 F hr b pass0 hg E.g (pa_cons (PE.up ha) pa_nil hs) hdb hs rfl) fun σ H Q h => ?_
  refine ⟨_, h, fun v H1 k => ⟨(by show 1 ≤ 1000; decide), fun a na => ⟨a, v, rfl, upd_same, fun d nd ne => ?_⟩⟩⟩
  have nd1 : H1 d = none := by rw [upd_ne ne] at nd; exact nd
  refine ⟨rfl, k a d _ na nd1 (fun b o q => ?_) (.inl upd_same) (by rw [upd_ne ne]; exact upd_same)⟩
  rw [upd_ne (ne_of_none q na), upd_ne (ne_of_none q nd1), upd_ne (ne_of_none q na)]
  exact q
theorem pe_err2 (E : Err2 X.prog X.w X.K X.mg X.base x fl gl t) (hr : Room 2 X.A) (hg : Gl X x) (ha : PE X e ta) (hb : PE X e2 tb) (hdb : (x == ("__debug__" : Str)) = false := by decide +kernel)
    (hs : starEach [e, e2] X.env = (false, eval e X.env) :: starEach [e2] X.env := by rfl) (hs2 : starEach [e2] X.env = (false, eval e2 X.env) :: starEach [] X.env := by rfl)
    (hp : (backTo pos (starEach [e2] X.env)).any (·.1) = false := by rfl) :
    PE X (.Call (.Name x p) [e, e2] [] pos) (fun σ H Q => ta σ H fun v H0 => Lf.up tb σ H0 fun u H1 => ∀ a d H', H1 a = none → H1 d = none → Same H1 H' → XAt H' a (He.ga X.K x) (some d) → H' d = some (exd d [(gl, u), (fl, v)]) → Q (.ref a) H') := by
  obtain ⟨fI, fd, i1, i2, F, b⟩ := E.ini
  refine PE.imp (pe_new E.c.o i1 i2 F hr b pass0 hg E.g (pa_cons (PE.up ha) (pa_cons (PE.up hb) pa_nil hs2) hs) hdb hs hp) fun σ H Q h => ?_
  refine ⟨_, h, fun v H0 h2 => ?_⟩
  obtain ⟨Q0, h3, h4⟩ := h2
  refine ⟨Q0, h3, fun u H1 z => ?_⟩
  have k := h4 u H1 z
  refine ⟨(by show 2 ≤ 1000; decide), fun a na => ⟨a, v, u, rfl, upd_same, fun d nd ne => ?_⟩⟩
  have nd1 : H1 d = none := by rw [upd_ne ne] at nd; exact nd
  refine ⟨rfl, k a d _ na nd1 (fun b o q => ?_) (.inl (by rw [upd_ne ne.symm]; exact upd_same)) upd_same⟩
  rw [upd_ne (ne_of_none q nd1), upd_ne (ne_of_none q na), upd_ne (ne_of_none q nd1), upd_ne (ne_of_none q na)]
  exact q
theorem pe_err0 (E : Err0 X.prog X.w X.K X.mg X.base x t) (hg : Gl X x) (hdb : (x == ("__debug__" : Str)) = false := by decide +kernel) :
    PE X (.Call (.Name x p) [] [] pos) (fun _ H Q => ∀ a H', H a = none → Same H H' → XAt H' a (He.ga X.K x) none → Q (.ref a) H') :=
  PE.imp (pe_bare F.excBase_ValueError E.ec E.g E.c.o.kC hg hdb) fun σ H Q h a na => h a _ na (same_upd na) (.inr ⟨rfl, upd_same⟩)
end
end Lf

set_option Elab.async false
set_option linter.all false
set_option maxRecDepth 100000
set_option maxHeartbeats 4000000
/-! Heaps that grow; data. -/
namespace Lf
open PySem PySem.Spec PyProof.Rows L2
/-- all but lists stay -/
def Solid (H H' : Hp) : Prop := ∀ b o, H b = some o → (∀ xs, o ≠ .lst xs) → H' b = some o
theorem Solid.refl (H : Hp) : Solid H H := fun _ _ h _ => h
theorem Solid.trans {H H1 H2 : Hp} (a : Solid H H1) (b : Solid H1 H2) : Solid H H2 := fun c o h n => b c o (a c o h n) n
theorem Solid.of {H H' : Hp} (e : Same H H') : Solid H H' := fun b o h _ => e b o h
theorem Solid.lst {H : Hp} {l : Addr} {xs ys : List V} (h : H l = some (.lst xs)) : Solid H (upd H l (.lst ys)) := fun b o e n => by
  rw [upd_ne (fun z => by rw [z, h] at e; cases e; exact n xs rfl)]
  exact e
theorem exo_nl {a C : Addr} {d : Option Addr} (xs : List V) : exo a C d ≠ .lst xs := fun z => by
  have z' : HO.ext _ = HO.lst xs := z
  cases z'
theorem exO_nl {a : Addr} {c : Value} (xs : List V) : ExO c a ≠ .lst xs := fun z => by
  have z' : HO.ext _ = HO.lst xs := z
  cases z'
theorem exd_nl {a : Addr} {fs : List (Str × V)} (xs : List V) : exd a fs ≠ .lst xs := fun z => by
  have z' : HO.ext _ = HO.lst xs := z
  cases z'
theorem XAt.solid {H H' : Hp} {a C : Addr} {d : Option Addr} (h : XAt H a C d) (s : Solid H H') : XAt H' a C d := by
  rcases h with h | ⟨e, h⟩
  · exact .inl (s _ _ h exo_nl)
  · exact .inr ⟨e, s _ _ h exO_nl⟩
/-- all but the thing at l stay -/
def But (l : Addr) (H H' : Hp) : Prop := ∀ b o, b ≠ l → H b = some o → H' b = some o
theorem But.refl {l : Addr} {H : Hp} : But l H H := fun _ _ _ h => h
theorem But.trans {l : Addr} {H H1 H2 : Hp} (a : But l H H1) (b : But l H1 H2) : But l H H2 := fun c o n h => b c o n (a c o n h)
theorem But.of {l : Addr} {H H' : Hp} (e : Same H H') : But l H H' := fun b o _ h => e b o h
theorem But.upd {l : Addr} {H : Hp} {o : HO} : But l H (upd H l o) := fun b u n h => by rw [upd_ne n]; exact h
theorem Same.but {l : Addr} {H0 H H' : Hp} (s : Same H0 H) (n : H0 l = none) (b : But l H H') : Same H0 H' := fun c o h => b c o (ne_of_none h n) (s c o h)
theorem SqT.same {K : PySem.W.Frag} {H H' : Hp} {a : Addr} {xs : List V} (e : Same H H') (h : SqT K H a xs) : SqT K H' a xs := by
  rcases h with (h | ⟨o, h⟩) | h
  · exact .inl (.inl (e _ _ h))
  · exact .inl (.inr ⟨o, e _ _ h⟩)
  · exact .inr h
theorem But.solid {l : Addr} {H H' : Hp} {xs : List V} (h : H l = some (.lst xs)) (b : But l H H') : Solid H H' := fun c o e n => b c o (fun z => by rw [z, h] at e; cases e; exact n xs rfl) e
theorem ifT {c : Bool} {A B : Prop} (hc : c = true) (h : A) : if c = true then A else B := by
  rw [if_pos hc]
  exact h
theorem ifF {c : Bool} {A B : Prop} (hc : c = false) (h : B) : if c = true then A else B := by
  rw [hc, if_neg Bool.false_ne_true]
  exact h
theorem pair_get {α β : Type} {F : α → β → Prop} : ∀ {as : List α} {bs : List β} {i : Nat} {a : α}, Paired F as bs → as[i]? = some a → ∃ b, bs[i]? = some b ∧ F a b
  | _, _, _, _, .nil, e => by simp at e
  | _, _, 0, _, .cons r _, e => by simp at e; subst e; exact ⟨_, rfl, r⟩
  | _, _, i + 1, a, .cons _ t, e => by
    obtain ⟨b, h1, h2⟩ := pair_get (i := i) (a := a) t (by simpa using e)
    exact ⟨b, by simpa using h1, h2⟩
theorem take_snoc {α : Type} {l : List α} {i : Nat} {x : α} (h : l[i]? = some x) : l.take (i + 1) = l.take i ++ [x] := by
  obtain ⟨hi, e⟩ := List.getElem?_eq_some_iff.mp h
  rw [← e]
  simp
theorem map_at {α : Type} {f : α → V} {l : List α} {i : Nat} {y : V} (h : (l.map f)[i]? = some y) : ∃ a, l[i]? = some a ∧ y = f a := by
  rw [List.getElem?_map] at h
  cases e : l[i]? with
  | none => rw [e] at h; cases h
  | some a => rw [e] at h; exact ⟨a, rfl, (Option.some.inj h).symm⟩
theorem eqv_same {d : PyData} (h : SeqAt.shaped d = true) : (!PyData.eqv d d) = false := by
  rw [SeqAt.eqv_refl d (SeqAt.canLay_of_shaped h)]
  rfl
mutual
theorem dp_same {K : PySem.W.Frag} {H H' : Hp} (e : Same H H') : ∀ {v : V} {d : PyData}, Dp K H v d → Dp K H' v d
  | _, _, .non => .non
  | _, _, .bl b => .bl b
  | _, _, .int i => .int i
  | _, _, .str x => .str x
  | _, _, .lst h r => .lst (L2.Same.seq e h) (dpAll_same e r)
  | _, _, .tup h r => .tup (SqT.same e h) (dpAll_same e r)
theorem dpAll_same {K : PySem.W.Frag} {H H' : Hp} (e : Same H H') : ∀ {vs : List V} {ds : List PyData}, DpAll K H vs ds → DpAll K H' vs ds
  | _, _, .nil => .nil
  | _, _, .cons h r => .cons (dp_same e h) (dpAll_same e r)
end
end Lf

set_option Elab.async false
set_option linter.all false
set_option maxRecDepth 100000
set_option maxHeartbeats 4000000
/-! for i, x in enumerate(t), t a tuple. -/
namespace Lf
open PySem PySem.Spec PyProof.Rows L2
set_option maxHeartbeats 8000000 in
theorem new_enum {v : Value} {o : Obj} {G : Heap → Prop} (B : Begins v o G) :
    Meets (Builtin.«enumerate.__new__» ⟨[.type "enumerate", v], []⟩) (fun _ R s => G s.heap ∧
      R (.ok (.ret (.ref (s.heap.push o).objs.size)))
        { s with heap := (s.heap.push o).push { cls := .type "enumerate", data := .fields #[.none, .bool false, .ref s.heap.objs.size, rawInt 0, .none, .none] } }) :=
  .of_wp fun prog w A R s hh => by
    obtain ⟨hp, g, d, tk, os⟩ := s
    obtain ⟨hg, fin⟩ := hh
    have sub := sub_enumerate
    have go : ∀ {A' : Around} {E' : Value → Shared → Prop} {Q' : Value → Shared → Prop}, Q' (.ref hp.objs.size) ⟨hp.push o, g, d, tk, os⟩ → wpAny (model prog w) A' (pyIter v) Q' E' ⟨hp, g, d, tk, os⟩ := fun q =>
      B.iter prog w _ _ ⟨hp, g, d, tk, os⟩ _ hg q
    wp_walk using go
    refine wpAny_stack_any fun st => wpAny_pure ?_
    split
    · rename_i c _ _ _ _ _
      cases (c == Value.type "enumerate") <;> (wp_walk using go; exact ⟨_, rfl, fin⟩)
    · wp_walk using go
      exact ⟨_, rfl, fin⟩
theorem call_enum {prog : Program} {w : World} {A : Around} {E : Value → Shared → Prop} {s : Shared} {v : Value} {o : Obj} {G : Heap → Prop} {Q : Value → Shared → Prop} (B : Begins v o G) (hg : G s.heap)
    (h : ∀ h', IsEnum h' (s.heap.objs.size + 1) s.heap.objs.size 0 .none → h'.get? s.heap.objs.size = some o → (∀ b u, s.heap.get? b = some u → h'.get? b = some u) → Q (.ref (s.heap.objs.size + 1)) { s with heap := h' }) :
    wpAny (model prog w) A (call (.type "enumerate") [v]) Q E s := by
  refine callType_new F.called_enumerate (by decide) (F.typeCall_enumerate_1 _) (F.newCall_enumerate_1 _) (fun x => F.args_object_init_2 x _) F.entry_enumerate_new (new_enum B) ⟨hg, ?_⟩
  have sz : (s.heap.push o).objs.size = s.heap.objs.size + 1 := Heap.size_push ..
  show _ ∧ _
  rw [sz]
  let e : Obj := { cls := .type "enumerate", data := .fields #[.none, .bool false, .ref s.heap.objs.size, rawInt 0, .none, .none] }
  have he : IsEnum ((s.heap.push o).push e) (s.heap.objs.size + 1) s.heap.objs.size 0 .none := by
    have z := Heap.get?_push_size (s.heap.push o) (o := e) rfl
    rw [sz] at z
    exact z
  exact ⟨⟨_, he, rfl⟩, h _ he (Heap.get?_push_of_some _ (Heap.get?_push_size _ B.free)) fun b u z => Heap.get?_push_of_some _ (Heap.get?_push_of_some _ z)⟩
/-- the tuple at a as it stands, its items in new pairs with their places -/
def Itet (K : PySem.W.Frag) (a : Addr) : It :=
  ⟨fun i H => ∃ (xs : List V) (x : V), SqT K H a xs ∧ xs[i]? = some x,
    fun i H v H' => ∃ T x, v = .ref T ∧ H T = none ∧ H' = upd H T (.tup [.int (i : Nat), x]) ∧ ∀ xs, SqT K H a xs → xs[i]? = some x,
    fun i H => ∃ xs : List V, SqT K H a xs ∧ xs.length = i⟩
theorem turn_enumT {P : Program} {w : World} {K : PySem.W.Frag} {elts : List Expr} {kk : Nat} {tpos : Pos} (a e it : Addr) :
    Turn P w K (.Tuple elts kk tpos) (Itet K a) [e, it] e (fun i h => (∃ old, IsEnum h e it ((i : Nat) : Int) old) ∧ h.IsTupleIter it a i ∧ e ≠ it ∧ a ≠ it ∧ a ≠ e) where
  mem := List.mem_cons_self
  obj := fun i h st b hb => by
    obtain ⟨⟨old, he⟩, ⟨o, ho, hc, hd⟩, _⟩ := st
    simp only [List.mem_cons, List.not_mem_nil, or_false] at hb
    rcases hb with rfl | rfl
    · exact ⟨_, he, fun v q => nomatch q⟩
    · exact ⟨o, ho, fun v q => by rw [hd] at q; cases q⟩
  keep := fun i h h' st k => by
    obtain ⟨⟨old, he⟩, hi, ne⟩ := st
    exact ⟨⟨old, k e (by simp) _ he⟩, hi.at fun o q => k it (by simp) o q, ne⟩
  item := by
    intro X hP hw hK hc i pins s σ H E I hf st hg
    subst hP hw hK
    obtain ⟨⟨old, he⟩, hit, ne, na, nae⟩ := st
    obtain ⟨xs, x, hq, hx⟩ := hg
    obtain ⟨its, rv, p, hz⟩ := I.tuple hq
    obtain ⟨u, hu, ru⟩ := rv.get hx
    have el : e < s.heap.objs.size := Heap.lt_size he
    have il : it < s.heap.objs.size := by obtain ⟨_, q, _⟩ := hit; exact Heap.lt_size q
    have calm : X.A.in1.handled = none := by have := I.ok.hd hc; simp [this]
    have hlt : i < its.toArray.size := by rw [List.size_toArray, ← rv.length]; exact (List.getElem?_eq_some_iff.mp hx).1
    refine wpAny_pyNext_enum_itemD (Draws.tuple (prog := X.prog) (w := X.w) calm it a na its.toArray) he ⟨hit, p⟩ hlt ne (by simp only [List.mem_cons, List.not_mem_nil, or_false, not_or]; exact ⟨ne, Ne.symm nae⟩) fun y h' tk hy ho st' hT hsz hk => ?_
    have ey : y = u := by
      have h1 : its[i]? = some y := by simpa using hy
      rw [hu] at h1
      exact (Option.some.inj h1).symm
    subst ey
    refine ⟨_, rfl, wpAny_letOwnedTupleGo_enum (s := { s with heap := h', toks := tk + 1 }) ho fun h'' he' sb => ?_⟩
    have hT2 := (sb.2 _ (Nat.ne_of_gt el)).trans hT
    have new : ObjOk X.prog X.w (upd H s.heap.objs.size (.tup [.int (i : Nat), x])) h'' s.heap.objs.size (.tup [.int (i : Nat), x]) :=
      ⟨by show 2 ≤ sizeLine; decide, [.int i tk, y], .cons ⟨_, rfl⟩ (.cons ru .nil), ⟨_, hT2, rfl, _, rfl⟩⟩
    have off : ∀ b, b ∉ [e, it] → b ≠ e ∧ b ≠ it := fun b hb => by
      simp only [List.mem_cons, List.not_mem_nil, or_false, not_or] at hb
      exact hb
    have I1 : Inv X pins σ (upd H s.heap.objs.size (.tup [.int (i : Nat), x])) { s with heap := h'', toks := tk + 1 } :=
      I.turnedNew (ch := [e, it]) (fun b ob hb q => (sb.2 b (off b hb).1).trans (hk b ob (off b hb).1 (off b hb).2 q)) hf (Nat.le_refl _) new
    refine ⟨.ref s.heap.objs.size, _, I1, rfl, ⟨_, x, rfl, I.hok.fresh (Nat.le_refl _), rfl, fun ys hy => by rw [I.tuple_inj hy hq]; exact hx⟩, ⟨⟨y, ?_⟩, st'.1.at fun o q => (sb.2 it (Ne.symm ne)).trans q, ne, na, nae⟩, fun b hb => ?_⟩
    · have z : ((i + 1 : Nat) : Int) = (i : Int) + 1 := by omega
      rw [z]
      exact he'
    · have lt : b < s.heap.objs.size := by
        simp only [List.mem_cons, List.not_mem_nil, or_false] at hb
        rcases hb with rfl | rfl
        · exact el
        · exact il
      rw [upd_ne (Nat.ne_of_lt lt)]
      exact (hf b hb).1
  done := by
    intro X hP hw hK hc i pins s σ H E I hf st hg
    subst hP hw hK
    obtain ⟨⟨old, he⟩, hit, ne, na, nae⟩ := st
    obtain ⟨xs, hq, hx⟩ := hg
    obtain ⟨its, rv, p, hz⟩ := I.tuple hq
    obtain ⟨f0, f1, f2, f3, f4, f5⟩ := hf it (by simp)
    have calm : X.A.in1.handled = none := by have := I.ok.hd hc; simp [this]
    have en : its.toArray.size = i := by rw [List.size_toArray, ← rv.length, hx]
    exact wpAny_pyNext_enum_endD (Draws.tuple (prog := X.prog) (w := X.w) calm it a na its.toArray) he (by rw [en]; exact ⟨hit, p⟩) fun h' eb => ⟨rfl, I.turned (t' := s.toks) (fun b o hb q => eb b o hb q) f0 f1 f3 f4 f5⟩
  self := fun A i s Q E st h => by
    obtain ⟨⟨_, he⟩, _⟩ := st
    exact wpAny_pyIter_enum he h
/-- enumerate(x), x a list or a tuple -/
def iEnumA (K : PySem.W.Frag) (ta : TE) : TI := fun σ H R => ta σ H fun x H1 => ∃ a xs, x = .ref a ∧ ((SqL K H1 a xs ∧ R (Ite K a) H1) ∨ (SqT K H1 a xs ∧ R (Itet K a) H1))
theorem pi_enumA {X : Cx} {e : Expr} {ta : TE} {p pos tpos : Pos} {elts : List Expr} {kk : Nat} (hg : Gl X "enumerate") (hm : X.mg "enumerate" = none) (ha : PE X e ta)
    (hs : starEach [e] X.env = [(false, eval e X.env)] := by rfl) : PI X (.Tuple elts kk tpos) (.Call (.Name "enumerate" p) [e] [] pos) (iEnumA X.K ta) := by
  refine ⟨fun pins s σ H R I h => ?_⟩
  refine Call_ (ld_blt I hg hm boot_enumerate (PyProof.Rows.callWith_type1 (thn ((pa_cons (PE.up ha) pa_nil hs).run pos pins s σ H (fun vs H1 => ∃ x, vs = [x] ∧ ∃ a xs, x = .ref a ∧ ((SqL X.K H1 a xs ∧ R (Ite X.K a) H1) ∨ (SqT X.K H1 a xs ∧ R (Itet X.K a) H1))) I ?_) fun us s1 hh => ?_) hs rfl))
  · exact ⟨_, h, fun v H' z => ⟨v, rfl, z⟩⟩
  obtain ⟨vs, H1, I1, r1, x, rfl, a, xs, rfl, q1⟩ := hh
  cases r1 with
  | cons r rr =>
    cases rr
    cases r
    have fp : ∀ b ∈ [s1.heap.objs.size + 1, s1.heap.objs.size], s1.heap.objs.size ≤ b := fun b hb => by
      simp only [List.mem_cons, List.not_mem_nil, or_false] at hb
      rcases hb with rfl | rfl
      · exact Nat.le_add_right _ _
      · exact Nat.le_refl _
    rcases q1 with ⟨hq, q⟩ | ⟨hq, q⟩
    · obtain ⟨its, rv, p', hz⟩ := I1.list hq
      refine call_enum (begins_list a its.toArray) p'.isList fun h' he hit hk => wpAny_pyIter_enum he ?_
      exact ⟨s1.heap.objs.size + 1, [s1.heap.objs.size + 1, s1.heap.objs.size], _, _, H1, rfl, I1.kept (t' := s1.toks) hk, turn_enum a (s1.heap.objs.size + 1) s1.heap.objs.size,
        ⟨⟨.none, he⟩, ⟨_, hit, rfl, rfl⟩, Nat.succ_ne_self _⟩, fun b hb => I1.fpOk (fp b hb) (I1.hok.fresh (fp b hb)), q⟩
    · obtain ⟨its, rv, p', hz⟩ := I1.tuple hq
      have al : a < s1.heap.objs.size := p'.lt
      refine call_enum (begins_tuple a its.toArray) p' fun h' he hit hk => wpAny_pyIter_enum he ?_
      exact ⟨s1.heap.objs.size + 1, [s1.heap.objs.size + 1, s1.heap.objs.size], _, _, H1, rfl, I1.kept (t' := s1.toks) hk, turn_enumT a (s1.heap.objs.size + 1) s1.heap.objs.size,
        ⟨⟨.none, he⟩, ⟨_, hit, rfl, rfl⟩, Nat.succ_ne_self _, Nat.ne_of_lt al, Nat.ne_of_lt (Nat.lt_succ_of_lt al)⟩, fun b hb => I1.fpOk (fp b hb) (I1.hok.fresh (fp b hb)), q⟩
/-- it gives each item of xs in a new pair with its place -/
theorem walk_enumT {K : PySem.W.Frag} {a : Addr} {xs : List V} : Walk (Itet K a) xs.length (fun H => SqT K H a xs)
    (fun i H v H' => ∃ T x, v = .ref T ∧ H T = none ∧ H' = upd H T (.tup [.int (i : Nat), x]) ∧ xs[i]? = some x) where
  goes := fun i H hi g => ⟨xs, _, g, List.getElem?_eq_getElem hi⟩
  stops := fun H g => ⟨xs, g, rfl⟩
  yields := fun i H x H' _ g y => by
    obtain ⟨T, z, e, n, eh, f⟩ := y
    exact ⟨T, z, e, n, eh, f xs g⟩
theorem walk_enumL {K : PySem.W.Frag} {a : Addr} {xs : List V} : Walk (Ite K a) xs.length (fun H => SqL K H a xs)
    (fun i H v H' => ∃ T x, v = .ref T ∧ H T = none ∧ H' = upd H T (.tup [.int (i : Nat), x]) ∧ xs[i]? = some x) where
  goes := fun i H hi g => ⟨xs, _, g, List.getElem?_eq_getElem hi⟩
  stops := fun H g => ⟨xs, g, Nat.le_refl _⟩
  yields := fun i H x H' _ g y => by
    obtain ⟨T, z, e, n, eh, f⟩ := y
    exact ⟨T, z, e, n, eh, f xs g⟩
end Lf

set_option Elab.async false
set_option linter.all false
set_option maxRecDepth 100000
set_option maxHeartbeats 8000000
/-! A binary operator by an own method, the other operand of any type; != by an own __eq__. -/
namespace Lf
open PySem PySem.Spec PyProof.Rows L2
section
open PySem.W
variable {prog : Program} {w : World} {A : Around} {E : Value → Shared → Prop} {s : Shared} {K : Frag} {x C L f : Addr} {h₀ : Heap} {m : Str → Option Value} {ox : Obj} {od : Option Obj}
/-- what is to be known of the other operand's type -/
structure Side (K : Frag) (C : Addr) (nm : String) (tb : Value) (right py : Bool) : Prop where
  ne : (Value.ref C == tb) = false
  fills : ∀ (M : Model) (h : Heap), K.In h → Looks M h (fillsNumberSlot tb nm) right
  sub : subIn K tb (.ref C) = some false
  inPy : right = true → ∀ (M : Model) (h : Heap), K.In h → Looks M h (numberSlotInPython tb nm) py
  refl : right = true → py = false → ∃ ro, findIn K tb (dunderR nm) = some ro
theorem bin_other {op : Operator} {b tb : Value} {rc : Option Value} {right py : Bool} {Q : Value → Shared → Prop} (F : Fr h₀ L s.heap m) (X₀ : K.In h₀) (I : InstAt s.heap x ox C od) (hc : selfFirst K C = true)
    (hs : findIn K (.ref C) (PySem.dunder op.info.2) = some (some (.ref f))) (hf : isFn K (.ref f) = true) (hr : findIn K (.ref C) (dunderR op.info.2) = some rc) (hp : rc = none ∨ ∃ g : Addr, rc = some (.ref g))
    (Lb : Looks (model prog w) s.heap (typeOf b) tb) (S : Side K C op.info.2 tb right py)
    (h : wpAny (model prog w) A (call (.ref f) [.ref x, b]) (PySem.W.CmpBack Q) E s) : wpAny (model prog w) A (binaryOp op (.ref x) b) Q E s := by
  have X := X₀.keeps F.keep
  obtain ⟨cd, rest, hcd, hm⟩ := ksp_first hc
  rcases hi : op.info with ⟨sym, nm'⟩
  rw [hi] at hs hr S
  dsimp only at hs hr S
  have one := ksp_try X I hs hf h
  obtain ⟨hh, g, d, tt, os⟩ := s
  have L1 : Looks (model prog w) hh (typeOf (.ref x)) (.ref C) := I.type
  have L3 : Looks (model prog w) hh (fillsNumberSlot (.ref C) nm') true := fills_K X hcd hm hs
  have L4 := S.fills (model prog w) hh X
  have L5 : Looks (model prog w) hh (isSubtype tb (.ref C)) false := looks_subIn X S.sub
  have L6 : Looks (model prog w) hh (numberSlotInPython (.ref C) nm') true := ksp_inPy X hs hr hp
  have hne := S.ne
  simp only [binaryOp, hi]
  refine wpAny_holding (wpAny_bind ?_)
  unfold binaryOp1
  refine wpAny_bind (L1.at (wpAny_bind (Lb.at (wpAny_bind (L3.at ?_)))))
  simp only [hne, Bool.false_eq_true, if_false]
  cases right with
  | false =>
    ksp_lk
    refine wpAny_mono one (fun r s' hr' => ?_) fun _ _ e => e
    obtain ⟨v, rfl, hq⟩ := hr'
    ksp_lk
    exact hq
  | true =>
    have L7 := S.inPy rfl (model prog w) hh X
    cases py with
    | true =>
      ksp_lk
      refine wpAny_mono one (fun r s' hr' => ?_) fun _ _ e => e
      obtain ⟨v, rfl, hq⟩ := hr'
      ksp_lk
      exact hq
    | false =>
      obtain ⟨ro, hro⟩ := S.refl rfl rfl
      have L8 : Looks (model prog w) hh (typeLookup tb (dunderR nm')) ro := looks_findIn X hro
      ksp_lk
      refine wpAny_mono one (fun r s' hr' => ?_) fun _ _ e => e
      obtain ⟨v, rfl, hq⟩ := hr'
      ksp_lk
      exact hq
end

/-- what is known of a class C with a method of its own for op -/
structure OwnOp (K : PySem.W.Frag) (C : Addr) (nm : String) (f : Addr) : Prop where
  first : PySem.W.selfFirst K C = true
  find : PySem.W.findIn K (.ref C) (PySem.dunder nm) = some (some (.ref f))
  fn : PySem.W.isFn K (.ref f) = true
  refl : PySem.W.findIn K (.ref C) (dunderR nm) = some none
def RightOf (K : PySem.W.Frag) (C : Addr) (nm : String) (t : Value) : Prop := t = .ref C ∨ ∃ right py, Side K C nm t right py
def rBin (K : PySem.W.Frag) (C : Addr) (nm : String) (sp : Sp) (E : XK) : R2 := fun x y H Q => ∃ a dx fs t, x = .ref a ∧ H a = some (.ins C dx fs) ∧ TyX K H y t ∧ RightOf K C nm t ∧ sp [.ref a, y] H Q E
theorem cmpBack {X : Cx} {pins : List (Addr × Obj)} {σ : L2.St} {Q : VK} {v : Value} {s : Shared} (h : EP X pins σ Q v s) : PySem.W.CmpBack (EP X pins σ Q) v s := by
  cases v with
  | notImplemented =>
    obtain ⟨z, H, I, r, q⟩ := h
    cases z <;> first | (obtain ⟨_, e⟩ := r; cases e; done) | (cases r; done)
  | _ => exact h
theorem op_own {X : Cx} {CX : CXT} {k : Nat} {f C : Addr} {fd : FuncData} {ps : List Str} {sp : Sp} {E : XK} {op : Operator} (O : OwnOp X.K C op.info.2 f) (F : FnOk X.prog X.w X.K X.mg X.base CX k f fd ps sp) (hr : Room k X.A)
    (hb : L2.Binds X.K fd ps []) (hx : Passes CX X E) : OpR X (binaryOp op) (rBin X.K C op.info.2 sp E) := by
  intro pins s σ H x y v u Q I rx ry hq
  obtain ⟨a, dx, fs, t, rfl, ha, ty, rt, h⟩ := hq
  cases rx
  obtain ⟨mA, J, _⟩ := ins_get I.hok ha
  obtain ⟨od, J, _⟩ := J.look
  obtain ⟨m, hF⟩ := I.fr
  obtain ⟨P, Z, hP, _⟩ := kit_of I ry ty
  have Lb := Z.ty (model X.prog X.w) s.heap I.kIn hP
  have run : wpAny (model X.prog X.w) X.A (call (.ref f) [.ref a, u]) (PySem.W.CmpBack (EP X pins σ Q)) X.xe s :=
    wpAny_mono (run_fn (us := [.ref a, u]) (vs := [.ref a, y]) F hr hb .nil hx I (.cons rfl (.cons ry .nil)) h) (fun _ _ q => cmpBack q) fun _ _ e => e
  rcases rt with rfl | ⟨right, py, S⟩
  · exact PySem.W.binop_K hF I.ok.mod.kin J Lb O.first O.find O.fn run
  · exact bin_other hF I.ok.mod.kin J O.first O.find O.fn O.refl (.inl rfl) Lb S run

section
open PySem.W
variable {prog : Program} {w : World} {A : Around} {E : Value → Shared → Prop} {s : Shared} {K : Frag} {x C L f : Addr} {h₀ : Heap} {m : Str → Option Value} {ox : Obj} {od : Option Obj}
theorem slotNe : PySem.Slot "object" "__ne__" "object.__ne__" := PySem.F.slot_object_ne
theorem ifBound_ne {b : Value} {Q : Option Value → Shared → Prop} (X : K.In s.heap) (I : InstAt s.heap x ox C od) (hf : findIn K (.ref C) "__ne__" = some (some (.builtin "object.__ne__")))
    (h : wpAny (model prog w) A (call (.builtin "object.__ne__") [.ref x, b]) (fun v => Q (some v)) E s) : wpAny (model prog w) A (callSpecialIfBound? (.ref x) "__ne__" [b]) Q E s := by
  simp only [callSpecialIfBound?, bindSpecialIfBound?]
  refine wpAny_holding (wpAny_bind (wpAny_bind (wpAny_bind (I.type.here ((looks_findIn X hf).here ?_)))))
  refine wpAny_bind (wpAny_askSetting (wpAny_ite ?_))
  have fin : wpAny (model prog w) A (call (.builtin "object.__ne__") ([.ref x] ++ [b]) >>= fun v => pure (some v)) Q E s := wpAny_bind (wpAny_mono h (fun v s' h' => wpAny_pure h') fun _ _ h' => h')
  rw [slotNe.bind]
  split
  · exact wpAny_bind (wpAny_pure (wpAny_pure (by exact fin)))
  · exact wpAny_tryCatch (wpAny_bind (wpAny_pure (wpAny_pure (by exact fin))))
theorem ne_body {b : Value} {Q : Fin → Shared → Prop} (hu : A.units < cLine) (X : K.In s.heap) (I : InstAt s.heap x ox C od) (hs : findIn K (.ref C) "__eq__" = some (some (.ref f))) (hf : isFn K (.ref f) = true)
    (h : wpAny (model prog w) A (call (.ref f) [.ref x, b]) (fun v s' => ∃ r, v = .bool r ∧ Q (.done (.ret (.bool (!r)))) s') E s) : wpAny (model prog w) A (Builtin.«object.__ne__» ⟨[.ref x, b], []⟩) Q E s := by
  unfold Builtin.«object.__ne__»
  refine wpAny_bind (wpAny_pure ?_)
  refine wpAny_bind (wpAny_cRoomFor hu ?_)
  refine wpAny_bind (ifBound_K X I hs hf (wpAny_mono h (fun v s' hv => ?_) fun _ _ e => e))
  obtain ⟨r, rfl, q⟩ := hv
  exact wpAny_bind (wpAny_truthy_bool (wpAny_pure q))

theorem call_ne {b : Value} {Q : Value → Shared → Prop} (hu : A.in1.units < cLine) (X : K.In s.heap) (I : InstAt s.heap x ox C od) (ho : subIn K (.ref C) (.type "object") = some true) (hs : findIn K (.ref C) "__eq__" = some (some (.ref f))) (hf : isFn K (.ref f) = true)
    (h : wpAny (model prog w) A.in1 (call (.ref f) [.ref x, b]) (fun v s' => ∃ r, v = .bool r ∧ Q (.bool (!r)) s') E s) : wpAny (model prog w) A (call (.builtin "object.__ne__") [.ref x, b]) Q E s := by
  refine wpAny_call (codeAny_call_builtin slotNe.plain PySem.F.cmpEntry_ne ?_)
  refine PySem.W.check_slot PySem.F.cmpKind_ne PySem.F.cmpSplit_ne (I.type.andThen (looks_subIn X ho)) (PySem.F.cmpArgs_ne _ _) ?_
  refine ne_body hu X I hs hf (wpAny_mono h (fun v s' hv => ?_) fun _ _ e => e)
  obtain ⟨r, rfl, q⟩ := hv
  exact ⟨r, rfl, q⟩
theorem rc_ne {b tb : Value} {Q : Value → Shared → Prop} (hu : A.units + 1 < cLine) (F : Fr h₀ L s.heap m) (X₀ : K.In h₀) (I : InstAt s.heap x ox C od) (hb : Looks (model prog w) s.heap (typeOf b) tb) (hn : notFirst K C tb = true) (ho : subIn K (.ref C) (.type "object") = some true)
    (hne : findIn K (.ref C) "__ne__" = some (some (.builtin "object.__ne__"))) (hs : findIn K (.ref C) "__eq__" = some (some (.ref f))) (hf : isFn K (.ref f) = true)
    (h : wpAny (model prog w) A.in1 (call (.ref f) [.ref x, b]) (fun v s' => ∃ r, v = .bool r ∧ Q (.bool (!r)) s') E s) : wpAny (model prog w) A (richCompare .NotEq (.ref x) b) Q E s := by
  have X := X₀.keeps F.keep
  have one : wpAny (model prog w) A (tryCompare (.ref x) "__ne__" b) (fun r s' => ∃ v, r = some v ∧ Q v s') E s := by
    unfold tryCompare
    refine wpAny_bind (ifBound_ne X I hne (call_ne hu X I ho hs hf (wpAny_mono h (fun v s' hv => ?_) fun _ _ e => e)))
    obtain ⟨r, rfl, q⟩ := hv
    exact ⟨r, rfl, wpAny_pure ⟨_, rfl, q⟩⟩
  unfold richCompare
  simp only [oneThing_ref]
  refine wpAny_holding (wpAny_bind (wpAny_cRoomFor (Nat.lt_of_succ_lt hu) ?_))
  refine wpAny_bind (I.type.here (wpAny_bind (hb.here ?_)))
  split
  · rename_i q
    have e : subIn K tb (.ref C) = some false := by
      rcases Bool.or_eq_true_iff.mp hn with e | e
      · rw [beq_iff_eq.mp e] at q; simp at q
      · exact beq_iff_eq.mp e
    refine wpAny_bind ((looks_subIn X e).here ?_)
    simp only [Bool.false_eq_true, if_false]
    refine wpAny_bind (wpAny_mono one (fun r s' z => ?_) fun _ _ e => e)
    obtain ⟨v, rfl, hq⟩ := z
    exact wpAny_pure hq
  · refine wpAny_bind (wpAny_pure ?_)
    simp only [Bool.false_eq_true, if_false]
    refine wpAny_bind (wpAny_mono one (fun r s' z => ?_) fun _ _ e => e)
    obtain ⟨v, rfl, hq⟩ := z
    exact wpAny_pure hq
end
/-- a function's promise kept below the running body -/
theorem run_sub {X : Cx} {CX : CXT} {k : Nat} {f : Addr} {fd : FuncData} {ps : List Str} {sp : Sp} {E : XK} {A : Around} (F : FnOk X.prog X.w X.K X.mg X.base CX k f fd ps sp) (sb : Sub X k A) (hb : L2.Binds X.K fd ps []) (hx : Passes CX X E)
    {pins : List (Addr × Obj)} {σ : L2.St} {H : Hp} {s : Shared} {Q : VK} {us : List Value} {vs : List V} (I : L2.Inv X pins σ H s) (r : Vals vs us) (h : sp vs H Q E) : wpAny (model X.prog X.w) A (call (.ref f) us) (EP X pins σ Q) X.xe s := by
  have hl := F.len _ _ _ _ h
  have e0 : Env0 X.prog X.w X.K X.mg X.base A X.stack s H := by
    have e := I.env0
    exact ⟨by rw [sb.fr]; exact e.frames, e.mod, e.bs, e.bsz, e.funs, e.frf, e.hok, e.bare⟩
  have hl2 : us.length = ps.length := by rw [← r.length]; exact hl
  refine wpAny_call (codeAny_mono (F.run A X.stack s H ⟨us, []⟩ us vs Q E sb.room e0 (by
    have := hb s us I.kIn (by simpa using hl2)
    simpa using this) r h) fun r s' hq => ?_)
  cases r with
  | error e => exact hx pins σ H s e s' I hq
  | ok fl =>
    cases fl with
    | ret u => exact I.after hq
    | next => exact False.elim hq
    | brk => exact False.elim hq
    | cont => exact False.elim hq
/-- what is known of a class with an own == and no own != -/
structure OwnEq (K : PySem.W.Frag) (C f : Addr) : Prop where
  eq : PySem.W.findIn K (.ref C) "__eq__" = some (some (.ref f))
  fn : PySem.W.isFn K (.ref f) = true
  ne : PySem.W.findIn K (.ref C) "__ne__" = some (some (.builtin "object.__ne__"))
  obj : PySem.W.subIn K (.ref C) (.type "object") = some true
/-- x == y of an instance x of C and any y whose class doesn't descend from C -/
def rOwnEq (K : PySem.W.Frag) (C : Addr) (sp : Sp) (E : XK) : R2 := fun x y H Q => ∃ a dx fs t, x = .ref a ∧ H a = some (.ins C dx fs) ∧ TyX K H y t ∧ PySem.W.notFirst K C t = true ∧ sp [.ref a, y] H Q E
def rOwnNe (K : PySem.W.Frag) (C : Addr) (sp : Sp) (E : XK) : R2 := fun x y H Q => ∃ a dx fs t, x = .ref a ∧ H a = some (.ins C dx fs) ∧ TyX K H y t ∧ PySem.W.notFirst K C t = true ∧ sp [.ref a, y] H (fun v H' => ∃ b, v = .bl b ∧ Q (.bl (!b)) H') E
section
variable {X : Cx} {CX : CXT} {k : Nat} {f C : Addr} {fd : FuncData} {ps : List Str} {sp : Sp} {E : XK}
theorem op_ownEq (O : OwnEq X.K C f) (F : FnOk X.prog X.w X.K X.mg X.base CX k f fd ps sp) (hr : Room k X.A) (hb : L2.Binds X.K fd ps []) (hx : Passes CX X E) : OpR X (compareOp .Eq) (rOwnEq X.K C sp E) := by
  intro pins s σ H x y v u Q I rx ry hq
  obtain ⟨a, dx, fs, t, rfl, ha, ty, nf, h⟩ := hq
  cases rx
  obtain ⟨mA, J, _⟩ := ins_get I.hok ha
  obtain ⟨od, J, _⟩ := J.look
  obtain ⟨m, hF⟩ := I.fr
  obtain ⟨P, Z, hP, _⟩ := kit_of I ry ty
  have run : wpAny (model X.prog X.w) X.A (call (.ref f) [.ref a, u]) (PySem.W.CmpBack (EP X pins σ Q)) X.xe s :=
    wpAny_mono (run_fn (us := [.ref a, u]) (vs := [.ref a, y]) F hr hb .nil hx I (.cons rfl (.cons ry .nil)) h) (fun _ _ q => cmpBack q) fun _ _ e => e
  show wpAny (model X.prog X.w) X.A (richCompare .Eq (.ref a) u) (EP X pins σ Q) X.xe s
  exact PySem.W.cmp_K (op := .Eq) hr.units0 hF I.ok.mod.kin J (Z.ty _ s.heap I.kIn hP) nf O.eq O.fn run
theorem op_ownNe (O : OwnEq X.K C f) (F : FnOk X.prog X.w X.K X.mg X.base CX k f fd ps sp) (hr : Room (k + 1) X.A) (hb : L2.Binds X.K fd ps []) (hx : Passes CX X E) : OpR X (compareOp .NotEq) (rOwnNe X.K C sp E) := by
  intro pins s σ H x y v u Q I rx ry hq
  obtain ⟨a, dx, fs, t, rfl, ha, ty, nf, h⟩ := hq
  cases rx
  obtain ⟨mA, J, _⟩ := ins_get I.hok ha
  obtain ⟨od, J, _⟩ := J.look
  obtain ⟨m, hF⟩ := I.fr
  obtain ⟨P, Z, hP, _⟩ := kit_of I ry ty
  have sb : Sub X k X.A.in1 := ⟨hr.in1, rfl⟩
  have run : wpAny (model X.prog X.w) X.A.in1 (call (.ref f) [.ref a, u]) (fun v s' => ∃ r, v = .bool r ∧ EP X pins σ Q (.bool (!r)) s') X.xe s :=
    wpAny_mono (run_sub (us := [.ref a, u]) (vs := [.ref a, y]) F sb hb hx I (.cons rfl (.cons ry .nil)) h) (fun v s' q => by
      obtain ⟨z, H', I', r, b, rfl, q⟩ := q
      cases r
      exact ⟨b, rfl, .bl (!b), H', I', rfl, q⟩) fun _ _ e => e
  show wpAny (model X.prog X.w) X.A (richCompare .NotEq (.ref a) u) (EP X pins σ Q) X.xe s
  exact rc_ne hr.in1.units0 hF I.ok.mod.kin J (Z.ty _ s.heap I.kIn hP) nf O.obj O.ne O.eq O.fn run
end

theorem dunder_mul : PySem.dunder "mul" = ("__mul__" : Str) := by decide +kernel
/-- what a head says of an own class with *, == and no reflected *, no != -/
def opsB (K : PySem.W.Frag) (owns : List Addr) (C : Addr) : Bool :=
  PySem.W.selfFirst K C && (decide (PySem.W.findIn K (.ref C) (dunderR "mul") = some none) && (decide (PySem.W.findIn K (.ref C) "__ne__" = some (some (.builtin "object.__ne__"))) && (decide (PySem.W.subIn K (.ref C) (.type "object") = some true) &&
  ((["NoneType", "int", "bool", "str", "list", "tuple"].all fun b => decide (PySem.W.subIn K (.type b) (.ref C) = some false)) && (owns.all fun D => decide (PySem.W.subIn K (.ref D) (.ref C) = some (decide (D = C))))))))
structure Ops (K : PySem.W.Frag) (owns : List Addr) (C : Addr) : Prop where
  first : PySem.W.selfFirst K C = true
  rmul : PySem.W.findIn K (.ref C) (dunderR "mul") = some none
  ne : PySem.W.findIn K (.ref C) "__ne__" = some (some (.builtin "object.__ne__"))
  obj : PySem.W.subIn K (.ref C) (.type "object") = some true
  tys : ∀ b ∈ ["NoneType", "int", "bool", "str", "list", "tuple"], PySem.W.subIn K (.type b) (.ref C) = some false
  own : ∀ D ∈ owns, PySem.W.subIn K (.ref D) (.ref C) = some (decide (D = C))
theorem ops_ok {K : PySem.W.Frag} {owns : List Addr} {C : Addr} (h : opsB K owns C = true) : Ops K owns C := by
  unfold opsB at h
  simp only [Bool.and_eq_true, decide_eq_true_eq, List.all_eq_true] at h
  obtain ⟨a, b, c, d, e, f⟩ := h
  exact ⟨a, b, c, d, e, f⟩
section
variable {K : PySem.W.Frag} {owns : List Addr} {C D f g : Addr}
theorem Ops.mul (o : Ops K owns C) (m : Meth K C "__mul__" f) : OwnOp K C "mul" f := ⟨o.first, by rw [dunder_mul]; exact m.at_, m.fn, o.rmul⟩
theorem Ops.eq (o : Ops K owns C) (m : Meth K C "__eq__" f) : OwnEq K C f := ⟨m.at_, m.fn, o.ne, o.obj⟩
theorem right_same : RightOf K C "mul" (.ref C) := .inl rfl
theorem Ops.right (o : Ops K owns C) (o2 : Ops K owns D) (m2 : Meth K D "__mul__" g) (hD : D ∈ owns) (ne : D ≠ C) : RightOf K C "mul" (.ref D) :=
  .inr ⟨true, true, ⟨Bool.eq_false_iff.mpr fun q => ne (by have := beq_iff_eq.mp q; injection this with this; exact this.symm), fun M h X => by
    obtain ⟨cd, rest, hcd, hm⟩ := PySem.W.ksp_first o2.first
    exact PySem.W.fills_K X hcd hm (o2.mul m2).find, by rw [o.own D hD, decide_eq_false ne], fun _ M h X => PySem.W.ksp_inPy X (o2.mul m2).find o2.rmul (.inl rfl), fun _ z => nomatch z⟩⟩
theorem Ops.rightT (o : Ops K owns C) {T : String} {fo ro : Option Value} (hT : T ∈ ["NoneType", "int", "bool", "str", "list", "tuple"]) (h1 : fastLookup T (PySem.dunder "mul") = some fo) (h2 : fastLookup T (dunderR "mul") = some ro) : RightOf K C "mul" (.type T) :=
  .inr ⟨_, false, ⟨Bool.eq_false_iff.mpr fun q => (nomatch beq_iff_eq.mp q), fun M h X => PySem.W.ksp_fillsT X h1 h2, o.tys T hT, fun _ M h X => PySem.W.Looks.of_pure rfl, fun _ _ => ⟨ro, h2⟩⟩⟩
theorem Ops.right_int (o : Ops K owns C) : RightOf K C "mul" (.type "int") := o.rightT (fo := some (.builtin "int.__mul__")) (ro := some (.builtin "int.__rmul__")) (by decide) (by kernel_rfl) (by kernel_rfl)
theorem Ops.right_none (o : Ops K owns C) : RightOf K C "mul" (.type "NoneType") := o.rightT (fo := none) (ro := none) (by decide) (by kernel_rfl) (by kernel_rfl)
theorem Ops.right_tuple (o : Ops K owns C) : RightOf K C "mul" (.type "tuple") := o.rightT (fo := some (.builtin "tuple.__mul__")) (ro := some (.builtin "tuple.__rmul__")) (by decide) (by kernel_rfl) (by kernel_rfl)
theorem Ops.right_list (o : Ops K owns C) : RightOf K C "mul" (.type "list") := o.rightT (fo := some (.builtin "list.__mul__")) (ro := some (.builtin "list.__rmul__")) (by decide) (by kernel_rfl) (by kernel_rfl)
theorem Ops.right_str (o : Ops K owns C) : RightOf K C "mul" (.type "str") := o.rightT (fo := some (.builtin "str.__mul__")) (ro := some (.builtin "str.__rmul__")) (by decide) (by kernel_rfl) (by kernel_rfl)
theorem Ops.notFirst (o : Ops K owns C) (hD : D ∈ owns) : PySem.W.notFirst K C (.ref D) = true := by
  unfold PySem.W.notFirst
  by_cases e : D = C
  · subst e
    simp
  · rw [o.own D hD, decide_eq_false e]
    simp
theorem Ops.notFirstT (o : Ops K owns C) {T : String} (hT : T ∈ ["NoneType", "int", "bool", "str", "list", "tuple"]) : PySem.W.notFirst K C (.type T) = true := by
  unfold PySem.W.notFirst
  rw [o.tys T hT]
  simp
end
end Lf

set_option Elab.async false
set_option linter.all false
set_option maxRecDepth 100000
set_option maxHeartbeats 0
namespace K69
open PySem PySem.Spec PyProof.Rows L2
def top (i : Nat) : Stmt := PySem.Challenge.pw_letterfolds_k69_whole_least_words_apart.main.body.getD i (.Pass ⟨0, 0, 0, 0⟩)
abbrev s_is_number : Stmt := top 4
def d_is_number : He.DefD := ⟨("is_number", none), "is_number", "is_number", defArgs s_is_number, defBody s_is_number, defScope s_is_number, [], []⟩
abbrev s_is_between : Stmt := top 5
def d_is_between : He.DefD := ⟨("is_between", none), "is_between", "is_between", defArgs s_is_between, defBody s_is_between, defScope s_is_between, [], []⟩
abbrev s_is_sequence : Stmt := top 6
def d_is_sequence : He.DefD := ⟨("is_sequence", none), "is_sequence", "is_sequence", defArgs s_is_sequence, defBody s_is_sequence, defScope s_is_sequence, [], []⟩
abbrev s_wrong_place : Stmt := top 7
def d_wrong_place : He.DefD := ⟨("wrong_place", none), "wrong_place", "wrong_place", defArgs s_wrong_place, defBody s_wrong_place, defScope s_wrong_place, [], []⟩
abbrev s_FoldError_told : Stmt := inClass (top 9) 0
def d_FoldError_told : He.DefD := ⟨("FoldError", some "told"), "told", "FoldError.told", defArgs s_FoldError_told, defBody s_FoldError_told, defScope s_FoldError_told, [], []⟩
abbrev s_NoNumber_init : Stmt := inClass (top 10) 0
def d_NoNumber_init : He.DefD := ⟨("NoNumber", some "__init__"), "__init__", "NoNumber.__init__", defArgs s_NoNumber_init, defBody s_NoNumber_init, defScope s_NoNumber_init, [], []⟩
abbrev s_NoNumber_told : Stmt := inClass (top 10) 1
def d_NoNumber_told : He.DefD := ⟨("NoNumber", some "told"), "told", "NoNumber.told", defArgs s_NoNumber_told, defBody s_NoNumber_told, defScope s_NoNumber_told, [], []⟩
abbrev s_NoMonoid_init : Stmt := inClass (top 11) 0
def d_NoMonoid_init : He.DefD := ⟨("NoMonoid", some "__init__"), "__init__", "NoMonoid.__init__", defArgs s_NoMonoid_init, defBody s_NoMonoid_init, defScope s_NoMonoid_init, [], []⟩
abbrev s_NoMonoid_told : Stmt := inClass (top 11) 1
def d_NoMonoid_told : He.DefD := ⟨("NoMonoid", some "told"), "told", "NoMonoid.told", defArgs s_NoMonoid_told, defBody s_NoMonoid_told, defScope s_NoMonoid_told, [], []⟩
abbrev s_TooMany_init : Stmt := inClass (top 12) 0
def d_TooMany_init : He.DefD := ⟨("TooMany", some "__init__"), "__init__", "TooMany.__init__", defArgs s_TooMany_init, defBody s_TooMany_init, defScope s_TooMany_init, [], []⟩
abbrev s_TooMany_told : Stmt := inClass (top 12) 1
def d_TooMany_told : He.DefD := ⟨("TooMany", some "told"), "told", "TooMany.told", defArgs s_TooMany_told, defBody s_TooMany_told, defScope s_TooMany_told, [], []⟩
abbrev s_OtherLetters_told : Stmt := inClass (top 13) 0
def d_OtherLetters_told : He.DefD := ⟨("OtherLetters", some "told"), "told", "OtherLetters.told", defArgs s_OtherLetters_told, defBody s_OtherLetters_told, defScope s_OtherLetters_told, [], []⟩
abbrev s_NoAutomaton_init : Stmt := inClass (top 14) 0
def d_NoAutomaton_init : He.DefD := ⟨("NoAutomaton", some "__init__"), "__init__", "NoAutomaton.__init__", defArgs s_NoAutomaton_init, defBody s_NoAutomaton_init, defScope s_NoAutomaton_init, [], []⟩
abbrev s_NoAutomaton_told : Stmt := inClass (top 14) 1
def d_NoAutomaton_told : He.DefD := ⟨("NoAutomaton", some "told"), "told", "NoAutomaton.told", defArgs s_NoAutomaton_told, defBody s_NoAutomaton_told, defScope s_NoAutomaton_told, [], []⟩
abbrev s_NoLanguage_told : Stmt := inClass (top 15) 0
def d_NoLanguage_told : He.DefD := ⟨("NoLanguage", some "told"), "told", "NoLanguage.told", defArgs s_NoLanguage_told, defBody s_NoLanguage_told, defScope s_NoLanguage_told, [], []⟩
abbrev s_reached_from : Stmt := top 17
def d_reached_from : He.DefD := ⟨("reached_from", none), "reached_from", "reached_from", defArgs s_reached_from, defBody s_reached_from, defScope s_reached_from, [], []⟩
abbrev s_Monoid_init : Stmt := inClass (top 20) 0
def d_Monoid_init : He.DefD := ⟨("Monoid", some "__init__"), "__init__", "Monoid.__init__", defArgs s_Monoid_init, defBody s_Monoid_init, defScope s_Monoid_init, [], []⟩
abbrev s_Monoid_eq : Stmt := inClass (top 20) 1
def d_Monoid_eq : He.DefD := ⟨("Monoid", some "__eq__"), "__eq__", "Monoid.__eq__", defArgs s_Monoid_eq, defBody s_Monoid_eq, defScope s_Monoid_eq, [], []⟩
abbrev s_Monoid_size : Stmt := inClass (top 20) 2
def d_Monoid_size : He.DefD := ⟨("Monoid", some "size"), "size", "Monoid.size", defArgs s_Monoid_size, defBody s_Monoid_size, defScope s_Monoid_size, [], []⟩
abbrev s_Monoid_words : Stmt := inClass (top 20) 3
def d_Monoid_words : He.DefD := ⟨("Monoid", some "words"), "words", "Monoid.words", defArgs s_Monoid_words, defBody s_Monoid_words, defScope s_Monoid_words, [], []⟩
abbrev s_Monoid_left : Stmt := inClass (top 20) 4
def d_Monoid_left : He.DefD := ⟨("Monoid", some "left"), "left", "Monoid.left", defArgs s_Monoid_left, defBody s_Monoid_left, defScope s_Monoid_left, [], []⟩
abbrev s_Monoid_times : Stmt := inClass (top 20) 6
def d_Monoid_times : He.DefD := ⟨("Monoid", some "times"), "times", "Monoid.times", defArgs s_Monoid_times, defBody s_Monoid_times, defScope s_Monoid_times, [], []⟩
abbrev s_Monoid_check_number : Stmt := inClass (top 20) 17
def d_Monoid_check_number : He.DefD := ⟨("Monoid", some "_check_number"), "_check_number", "Monoid._check_number", defArgs s_Monoid_check_number, defBody s_Monoid_check_number, defScope s_Monoid_check_number, [], []⟩
abbrev s_check_monoid : Stmt := top 21
def d_check_monoid : He.DefD := ⟨("check_monoid", none), "check_monoid", "check_monoid", defArgs s_check_monoid, defBody s_check_monoid, defScope s_check_monoid, [], []⟩
abbrev s_check_form : Stmt := top 22
def d_check_form : He.DefD := ⟨("_check_form", none), "_check_form", "_check_form", defArgs s_check_form, defBody s_check_form, defScope s_check_form, [], []⟩
abbrev s_made_by : Stmt := top 23
def d_made_by : He.DefD := ⟨("_made_by", none), "_made_by", "_made_by", defArgs s_made_by, defBody s_made_by, defScope s_made_by, [], []⟩
abbrev s_left_table : Stmt := top 24
def d_left_table : He.DefD := ⟨("_left_table", none), "_left_table", "_left_table", defArgs s_left_table, defBody s_left_table, defScope s_left_table, [], []⟩
abbrev s_check_products : Stmt := top 25
def d_check_products : He.DefD := ⟨("_check_products", none), "_check_products", "_check_products", defArgs s_check_products, defBody s_check_products, defScope s_check_products, [], []⟩
abbrev s_letters_of : Stmt := top 26
def d_letters_of : He.DefD := ⟨("_letters_of", none), "_letters_of", "_letters_of", defArgs s_letters_of, defBody s_letters_of, defScope s_letters_of, [], []⟩
abbrev s_end : Stmt := top 27
def d_end : He.DefD := ⟨("_end", none), "_end", "_end", defArgs s_end, defBody s_end, defScope s_end, [], []⟩
abbrev s_found_from : Stmt := top 28
def d_found_from : He.DefD := ⟨("found_from", none), "found_from", "found_from", defArgs s_found_from, defBody s_found_from, defScope s_found_from, [.non], []⟩
abbrev s_Blocks_init : Stmt := inClass (top 30) 0
def d_Blocks_init : He.DefD := ⟨("Blocks", some "__init__"), "__init__", "Blocks.__init__", defArgs s_Blocks_init, defBody s_Blocks_init, defScope s_Blocks_init, [], []⟩
abbrev s_Blocks_taken : Stmt := inClass (top 30) 1
def d_Blocks_taken : He.DefD := ⟨("Blocks", some "taken"), "taken", "Blocks.taken", defArgs s_Blocks_taken, defBody s_Blocks_taken, defScope s_Blocks_taken, [], []⟩
abbrev s_Blocks_set_apart : Stmt := inClass (top 30) 2
def d_Blocks_set_apart : He.DefD := ⟨("Blocks", some "set_apart"), "set_apart", "Blocks.set_apart", defArgs s_Blocks_set_apart, defBody s_Blocks_set_apart, defScope s_Blocks_set_apart, [], []⟩
abbrev s_least_alike : Stmt := top 31
def d_least_alike : He.DefD := ⟨("least_alike", none), "least_alike", "least_alike", defArgs s_least_alike, defBody s_least_alike, defScope s_least_alike, [], []⟩
abbrev s_fewest_states : Stmt := top 32
def d_fewest_states : He.DefD := ⟨("fewest_states", none), "fewest_states", "fewest_states", defArgs s_fewest_states, defBody s_fewest_states, defScope s_fewest_states, [], []⟩
abbrev s_Unions_init : Stmt := inClass (top 34) 0
def d_Unions_init : He.DefD := ⟨("Unions", some "__init__"), "__init__", "Unions.__init__", defArgs s_Unions_init, defBody s_Unions_init, defScope s_Unions_init, [], []⟩
abbrev s_Unions_top : Stmt := inClass (top 34) 1
def d_Unions_top : He.DefD := ⟨("Unions", some "top"), "top", "Unions.top", defArgs s_Unions_top, defBody s_Unions_top, defScope s_Unions_top, [], []⟩
abbrev s_Unions_unite : Stmt := inClass (top 34) 2
def d_Unions_unite : He.DefD := ⟨("Unions", some "unite"), "unite", "Unions.unite", defArgs s_Unions_unite, defBody s_Unions_unite, defScope s_Unions_unite, [], []⟩
abbrev s_Automaton_init : Stmt := inClass (top 39) 0
def d_Automaton_init : He.DefD := ⟨("Automaton", some "__init__"), "__init__", "Automaton.__init__", defArgs s_Automaton_init, defBody s_Automaton_init, defScope s_Automaton_init, [], []⟩
abbrev s_Automaton_eq : Stmt := inClass (top 39) 1
def d_Automaton_eq : He.DefD := ⟨("Automaton", some "__eq__"), "__eq__", "Automaton.__eq__", defArgs s_Automaton_eq, defBody s_Automaton_eq, defScope s_Automaton_eq, [], []⟩
abbrev s_Language_init : Stmt := inClass (top 40) 0
def d_Language_init : He.DefD := ⟨("Language", some "__init__"), "__init__", "Language.__init__", defArgs s_Language_init, defBody s_Language_init, defScope s_Language_init, [], []⟩
abbrev s_Language_eq : Stmt := inClass (top 40) 1
def d_Language_eq : He.DefD := ⟨("Language", some "__eq__"), "__eq__", "Language.__eq__", defArgs s_Language_eq, defBody s_Language_eq, defScope s_Language_eq, [], []⟩
abbrev s_unlike_word : Stmt := top 41
def d_unlike_word : He.DefD := ⟨("unlike_word", none), "unlike_word", "unlike_word", defArgs s_unlike_word, defBody s_unlike_word, defScope s_unlike_word, [], []⟩
abbrev s_syntactic : Stmt := top 42
def d_syntactic : He.DefD := ⟨("syntactic", none), "syntactic", "syntactic", defArgs s_syntactic, defBody s_syntactic, defScope s_syntactic, [], []⟩
abbrev s_check_thing : Stmt := top 43
def d_check_thing : He.DefD := ⟨("check_thing", none), "check_thing", "check_thing", defArgs s_check_thing, defBody s_check_thing, defScope s_check_thing, [], []⟩
abbrev s_are_rows : Stmt := top 44
def d_are_rows : He.DefD := ⟨("_are_rows", none), "_are_rows", "_are_rows", defArgs s_are_rows, defBody s_are_rows, defScope s_are_rows, [], []⟩
abbrev s_states_of : Stmt := top 45
def d_states_of : He.DefD := ⟨("_states_of", none), "_states_of", "_states_of", defArgs s_states_of, defBody s_states_of, defScope s_states_of, [], []⟩
abbrev s_check_letters : Stmt := top 46
def d_check_letters : He.DefD := ⟨("_check_letters", none), "_check_letters", "_check_letters", defArgs s_check_letters, defBody s_check_letters, defScope s_check_letters, [], []⟩
abbrev s_parting_word : Stmt := top 47
def d_parting_word : He.DefD := ⟨("_parting_word", none), "_parting_word", "_parting_word", defArgs s_parting_word, defBody s_parting_word, defScope s_parting_word, [], []⟩
abbrev s_what_words_do : Stmt := top 48
def d_what_words_do : He.DefD := ⟨("_what_words_do", none), "_what_words_do", "_what_words_do", defArgs s_what_words_do, defBody s_what_words_do, defScope s_what_words_do, [], []⟩
abbrev s_L_source : Stmt := top 50
def d_L_source : He.DefD := ⟨("_law_source", none), "_law_source", "_law_source", defArgs s_L_source, defBody s_L_source, defScope s_L_source, [], []⟩
abbrev s_L_draw : Stmt := top 51
def d_L_draw : He.DefD := ⟨("_law_draw", none), "_law_draw", "_law_draw", defArgs s_L_draw, defBody s_L_draw, defScope s_L_draw, [], []⟩
abbrev s_L_pick : Stmt := top 52
def d_L_pick : He.DefD := ⟨("_law_pick", none), "_law_pick", "_law_pick", defArgs s_L_pick, defBody s_L_pick, defScope s_L_pick, [], []⟩
abbrev s_L_moves : Stmt := top 53
def d_L_moves : He.DefD := ⟨("_law_moves", none), "_law_moves", "_law_moves", defArgs s_L_moves, defBody s_L_moves, defScope s_L_moves, [], []⟩
abbrev s_L_plan : Stmt := top 54
def d_L_plan : He.DefD := ⟨("_law_plan", none), "_law_plan", "_law_plan", defArgs s_L_plan, defBody s_L_plan, defScope s_L_plan, [], []⟩
abbrev s_L_apart : Stmt := top 55
def d_L_apart : He.DefD := ⟨("_law_apart", none), "_law_apart", "_law_apart", defArgs s_L_apart, defBody s_L_apart, defScope s_L_apart, [], []⟩
abbrev s_L_made : Stmt := top 56
def d_L_made : He.DefD := ⟨("_law_made", none), "_law_made", "_law_made", defArgs s_L_made, defBody s_L_made, defScope s_L_made, [], []⟩
abbrev s_L_two : Stmt := top 57
def d_L_two : He.DefD := ⟨("_law_two", none), "_law_two", "_law_two", defArgs s_L_two, defBody s_L_two, defScope s_L_two, [], []⟩
abbrev s_L_is_refused : Stmt := top 58
def d_L_is_refused : He.DefD := ⟨("_law_is_refused", none), "_law_is_refused", "_law_is_refused", defArgs s_L_is_refused, defBody s_L_is_refused, defScope s_L_is_refused, [], []⟩
abbrev s_L_right : Stmt := top 59
def d_L_right : He.DefD := ⟨("_law_right", none), "_law_right", "_law_right", defArgs s_L_right, defBody s_L_right, defScope s_L_right, [], []⟩
abbrev s_law : Stmt := top 60
def d_law : He.DefD := ⟨("law", none), "law", "law", defArgs s_law, defBody s_law, defScope s_law, [], []⟩
def fn : List He.DefD := [d_is_number, d_is_between, d_is_sequence, d_wrong_place, d_FoldError_told, d_NoNumber_init, d_NoNumber_told, d_NoMonoid_init, d_NoMonoid_told, d_TooMany_init, d_TooMany_told, d_OtherLetters_told, d_NoAutomaton_init, d_NoAutomaton_told, d_NoLanguage_told, d_reached_from, d_Monoid_init, d_Monoid_eq, d_Monoid_size, d_Monoid_words, d_Monoid_left, d_Monoid_times, d_Monoid_check_number, d_check_monoid, d_check_form, d_made_by, d_left_table, d_check_products, d_letters_of, d_end, d_found_from, d_Blocks_init, d_Blocks_taken, d_Blocks_set_apart, d_least_alike, d_fewest_states, d_Unions_init, d_Unions_top, d_Unions_unite, d_Automaton_init, d_Automaton_eq, d_Language_init, d_Language_eq, d_unlike_word, d_syntactic, d_check_thing, d_are_rows, d_states_of, d_check_letters, d_parting_word, d_what_words_do, d_L_source, d_L_draw, d_L_pick, d_L_moves, d_L_plan, d_L_apart, d_L_made, d_L_two, d_L_is_refused, d_L_right, d_law]
def fa : List He.Fa := [.glo "FoldError", .glo "NoNumber", .glo "NoMonoid", .glo "TooMany", .glo "OtherLetters", .glo "NoAutomaton", .glo "NoLanguage", .glo "Monoid", .glo "Blocks", .glo "Unions", .glo "Automaton", .glo "Language", .glo "is_number", .glo "is_between", .glo "is_sequence", .glo "wrong_place", .glo "reached_from", .glo "check_monoid", .glo "_check_form", .glo "_made_by", .glo "_left_table", .glo "_check_products", .glo "_letters_of", .glo "_end", .glo "found_from", .glo "least_alike", .glo "fewest_states", .glo "unlike_word", .glo "syntactic", .glo "check_thing", .glo "_are_rows", .glo "_states_of", .glo "_check_letters", .glo "_parting_word", .glo "_what_words_do", .glo "_law_source", .glo "_law_draw", .glo "_law_pick", .glo "_law_moves", .glo "_law_plan", .glo "_law_apart", .glo "_law_made", .glo "_law_two", .glo "_law_is_refused", .glo "_law_right", .glo "law", .int "MOST_SIZE" 2000, .int "MOST_LETTERS" 4, .int "MOST_STATES" 40, .int "MOST_FOUND" 500, .str "LETTERS" "abcdef", .str "SIGNS" "abcdefghijklmnopqrst", .free "ValueError", .free "abs", .free "all", .free "bool", .free "enumerate", .free "int", .free "isinstance", .free "len", .free "list", .free "max", .free "min", .free "range", .free "set", .free "sorted", .free "tuple", .cls "Monoid", .mkr "Monoid", .meth "Monoid" "__eq__", .meth "Monoid" "size", .meth "Monoid" "words", .meth "Monoid" "left", .meth "Monoid" "times", .meth "Monoid" "_check_number", .noat "Monoid" "right", .noat "Monoid" "_made", .noat "Monoid" "_left", .cls "Blocks", .mkr "Blocks", .meth "Blocks" "taken", .meth "Blocks" "set_apart", .noat "Blocks" "block_of", .noat "Blocks" "members", .noat "Blocks" "waiting", .noat "Blocks" "_is_waiting", .cls "Unions", .mkr "Unions", .meth "Unions" "top", .meth "Unions" "unite", .noat "Unions" "class_count", .noat "Unions" "_tops", .cls "Automaton", .mkr "Automaton", .meth "Automaton" "__eq__", .noat "Automaton" "rows", .noat "Automaton" "start", .noat "Automaton" "accepted", .cls "Language", .mkr "Language", .meth "Language" "__eq__", .noat "Language" "monoid", .noat "Language" "accepted", .meth "NoNumber" "told", .meth "NoMonoid" "told", .meth "TooMany" "told", .meth "OtherLetters" "told", .meth "NoAutomaton" "told", .meth "NoLanguage" "told", .exc "OtherLetters", .exc "NoLanguage", .exm "NoNumber" "FoldError" true, .exm "NoNumber" "NoNumber" true, .exm "NoNumber" "NoMonoid" false, .exm "NoNumber" "TooMany" false, .exm "NoNumber" "OtherLetters" false, .exm "NoNumber" "NoAutomaton" false, .exm "NoNumber" "NoLanguage" false, .exm "NoMonoid" "FoldError" true, .exm "NoMonoid" "NoNumber" false, .exm "NoMonoid" "NoMonoid" true, .exm "NoMonoid" "TooMany" false, .exm "NoMonoid" "OtherLetters" false, .exm "NoMonoid" "NoAutomaton" false, .exm "NoMonoid" "NoLanguage" false, .exm "TooMany" "FoldError" true, .exm "TooMany" "NoNumber" false, .exm "TooMany" "NoMonoid" false, .exm "TooMany" "TooMany" true, .exm "TooMany" "OtherLetters" false, .exm "TooMany" "NoAutomaton" false, .exm "TooMany" "NoLanguage" false, .exm "OtherLetters" "FoldError" true, .exm "OtherLetters" "NoNumber" false, .exm "OtherLetters" "NoMonoid" false, .exm "OtherLetters" "TooMany" false, .exm "OtherLetters" "OtherLetters" true, .exm "OtherLetters" "NoAutomaton" false, .exm "OtherLetters" "NoLanguage" false, .exm "NoAutomaton" "FoldError" true, .exm "NoAutomaton" "NoNumber" false, .exm "NoAutomaton" "NoMonoid" false, .exm "NoAutomaton" "TooMany" false, .exm "NoAutomaton" "OtherLetters" false, .exm "NoAutomaton" "NoAutomaton" true, .exm "NoAutomaton" "NoLanguage" false, .exm "NoLanguage" "FoldError" true, .exm "NoLanguage" "NoNumber" false, .exm "NoLanguage" "NoMonoid" false, .exm "NoLanguage" "TooMany" false, .exm "NoLanguage" "OtherLetters" false, .exm "NoLanguage" "NoAutomaton" false, .exm "NoLanguage" "NoLanguage" true]
def inis : List (Str × List Str) := [("NoNumber", ["number"]), ("NoMonoid", ["what", "place"]), ("TooMany", ["most"]), ("NoAutomaton", ["what"])]
def bares : List Str := ["OtherLetters", "NoLanguage"]
def owns : List Str := ["Monoid", "Blocks", "Unions", "Automaton", "Language"]
def opsl : List Str := []
def iniB (K : PySem.W.Frag) (p : Str × List Str) : Bool := Lf.errB K (He.ga K p.1) && (decide (PySem.W.findIn K (.ref (He.ga K p.1)) "__init__" = some (some (.ref (He.ma K (He.ga K p.1) "__init__")))) &&
  (decide (PySem.W.typeIn K (.ref (He.ma K (He.ga K p.1) "__init__")) = some (.type "function")) && (p.2.all fun f => decide (PySem.W.findIn K (.ref (He.ga K p.1)) f = some none))))
def isB (K : PySem.W.Frag) (x : Str) : Bool := decide (PySem.W.kitOne K (.ref (He.ga K x)) (.ref (He.ga K "FoldError")) = some true)
/-- an own class among all: what isinstance says of its instances, and of others -/
def ownB (K : PySem.W.Frag) (x : Str) : Bool := decide (PySem.W.findIn K (.ref (He.ga K x)) "__class__" = some (some (.builtin "object.__class__"))) && (decide (PySem.W.specialIn K (.builtin "object.__class__") "__get__" = some (some (.builtin "getset_descriptor.__get__"))) &&
  (decide (PySem.W.takesIn K (.builtin "object.__class__") = some true) && (decide (PySem.W.mroIn K (He.ga K x) (.type "object") = some true) &&
  ((["int", "bool", "str", "list", "tuple"].all fun b => decide (PySem.W.kitOne K (.ref (He.ga K x)) (.type b) = some false)) && ((["NoneType", "int", "bool", "str", "list", "tuple", "dict"].all fun b => decide (PySem.W.kitOne K (.type b) (.ref (He.ga K x)) = some false)) &&
  owns.all fun y => decide (PySem.W.kitOne K (.ref (He.ga K x)) (.ref (He.ga K y)) = some (decide (x = y))))))))
def ex (K : PySem.W.Frag) : Bool := (inis.all fun p => iniB K p && isB K p.1) && ((bares.all fun x => Lf.errB K (He.ga K x) && isB K x) && ((owns.all fun x => ownB K x) && opsl.all fun x => Lf.opsB K (owns.map fun y => He.ga K y) (He.ga K x)))
def loose : List Str := (["_wall", "is_number", "is_between", "is_sequence", "wrong_place", "FoldError", "NoNumber", "NoMonoid", "TooMany", "OtherLetters", "NoAutomaton", "NoLanguage", "reached_from", "Monoid", "check_monoid", "_check_form", "_made_by", "_left_table", "_check_products", "_letters_of", "_end", "found_from", "Blocks", "least_alike", "fewest_states", "Unions", "Automaton", "Language", "unlike_word", "syntactic"] : List Str) ++ (["check_thing", "_are_rows", "_states_of", "_check_letters", "_parting_word", "_what_words_do", "_law_source", "_law_draw", "_law_pick", "_law_moves", "_law_plan", "_law_apart", "_law_made", "_law_two", "_law_is_refused", "_law_right", "LETTERS", "SIGNS", "MOST_SIZE", "MOST_LETTERS", "MOST_STATES", "MOST_FOUND"] : List Str)
def tf : List He.Defn := [("_what_words_do", none)]
end K69

set_option Elab.async false
set_option linter.all false
set_option maxRecDepth 100000
set_option maxHeartbeats 8000000
namespace K69
open PySem PySem.Spec PyProof.Rows L2 Lf
/-- a list or a tuple of xs at a -/
def Sq (K : PySem.W.Frag) (H : Hp) (a : Addr) (xs : List V) : Prop := SqL K H a xs ∨ SqT K H a xs
theorem Sq.same {K : PySem.W.Frag} {H H' : Hp} {a : Addr} {xs : List V} (h : Sq K H a xs) (e : Same H H') : Sq K H' a xs := h.imp (L2.Same.seq e) (Lf.SqT.same e)
theorem tyx_l {K : PySem.W.Frag} {H : Hp} {a : Addr} {xs : List V} (h : SqL K H a xs) : TyX K H (.ref a) (.type "list") := by
  rcases h with (h | ⟨o, h⟩) | ⟨o, its, n, hk, hc, _⟩
  · exact .base (.lst h)
  · exact .base (.frz h)
  · exact .kList hk hc
theorem tyx_t {K : PySem.W.Frag} {H : Hp} {a : Addr} {xs : List V} (h : SqT K H a xs) : TyX K H (.ref a) (.type "tuple") := by
  rcases h with (h | ⟨o, h⟩) | ⟨o, its, n, hk, hc, _⟩
  · exact .base (.tup h)
  · exact .fTuple h
  · exact .kTuple hk hc
theorem any_lt {K : PySem.W.Frag} : PySem.W.kitAny K (.type "list") [.type "list", .type "tuple"] = some true ∧ PySem.W.kitAny K (.type "tuple") [.type "list", .type "tuple"] = some true :=
  ⟨kitAny_cons (kit_ty (b := "list") (r := true) (by decide +kernel)) (fun h => nomatch h) (fun _ => rfl),
   kitAny_cons (kit_ty (b := "list") (r := false) (by decide +kernel)) (fun _ => kitAny_cons (kit_ty (b := "tuple") (r := true) (by decide +kernel)) (fun h => nomatch h) (fun _ => rfl)) (fun h => nomatch h)⟩
/-- whether it is an int; of what a row may hold -/
def Flat : V → Prop
  | .non => True
  | .bl _ => True
  | .int _ => True
  | .str _ => True
  | _ => False
def isNum : V → Bool
  | .int _ => true
  | _ => false
def ofInt : V → Bool
  | .int _ => true
  | .bl _ => true
  | _ => false
def ofBool : V → Bool
  | .bl _ => true
  | _ => false
theorem flat_ty {K : PySem.W.Frag} {H : Hp} {x : V} (h : Flat x) : ∃ n, TyX K H x (.type n) ∧ PySem.W.kitOne K (.type n) (.type "int") = some (ofInt x) ∧ PySem.W.kitOne K (.type n) (.type "bool") = some (ofBool x) := by
  cases x with
  | non => exact ⟨_, .base .non, kit_ty (show kitB "NoneType" "int" = some false by decide +kernel), kit_ty (show kitB "NoneType" "bool" = some false by decide +kernel)⟩
  | bl b => exact ⟨_, .base (.bl b), kit_ty (show kitB "bool" "int" = some true by decide +kernel), kit_ty (show kitB "bool" "bool" = some true by decide +kernel)⟩
  | int i => exact ⟨_, .base (.int i), kit_ty (show kitB "int" "int" = some true by decide +kernel), kit_ty (show kitB "int" "bool" = some false by decide +kernel)⟩
  | str s => exact ⟨_, .base (.str s), kit_ty (show kitB "str" "int" = some false by decide +kernel), kit_ty (show kitB "str" "bool" = some false by decide +kernel)⟩
  | byt _ => exact h.elim
  | flt _ => exact h.elim
  | ref _ => exact h.elim
  | ty _ => exact h.elim
def spNum : Sp := fun vs H Q _ => ∃ x, vs = [x] ∧ Flat x ∧ Q (.bl (isNum x)) H
/-- thing between least and most -/
def btw (lo hi : Int) : V → Bool
  | .int i => decide (lo ≤ i) && decide (i ≤ hi)
  | _ => false
def spBtw : Sp := fun vs H Q _ => ∃ x lo hi, vs = [x, .int lo, .int hi] ∧ Flat x ∧ Q (.bl (btw lo hi x)) H
def spSeq (K : PySem.W.Frag) : Sp := fun vs H Q _ => ∃ a xs lo hi, vs = [.ref a, .int lo, .int hi] ∧ Sq K H a xs ∧ ∀ H', Same H H' → Q (.bl (decide (lo ≤ (xs.length : Int)) && decide ((xs.length : Int) ≤ hi))) H'
section
variable {P : Program} {w : World} {K : PySem.W.Frag} {mg : Str → Option Value} {base : Heap}
theorem scNum : FnScope ["thing"] ["thing"] (defScope s_is_number) := ⟨rfl, rfl, rfl, by decide +kernel, rfl, by decide +kernel, by decide +kernel⟩
theorem ok_num {f : Addr} {fd : FuncData} {q : Str} (F : FunD K "is_number" q (defArgs s_is_number) (defBody s_is_number) (defScope s_is_number) [] [] f fd) (zI : mg "isinstance" = none) (zi : mg "int" = none) (zb : mg "bool" = none) :
    FnOk P w K mg base CX0 1 f fd ["thing"] spNum := by
  refine F.ok scNum (fun vs H Q E h => ?_) (fun cdv A outer s H vs Q E hr h => ?_)
  · obtain ⟨x, rfl, _⟩ := h
    rfl
  · obtain ⟨x, rfl, fx, k⟩ := h
    refine ⟨_, PSs.nox (pss_one (ps_ret (pe_and (pe_callB call_isi rfl zI PyProof.Rows.boot_isinstance (pa_cons (pv 0) (pa_cons (pe_bltn (v := .ty "int") rfl zi PyProof.Rows.boot_int rfl) pa_nil)))
      (pe_one (pe_not (pe_callB call_isi rfl zI PyProof.Rows.boot_isinstance (pa_cons (pv 0) (pa_cons (pe_bltn (v := .ty "bool") rfl zb PyProof.Rows.boot_bool rfl) pa_nil)))))))), ?_⟩
    obtain ⟨n, ty, k1, k2⟩ := flat_ty (K := K) (H := H) fx
    refine ⟨_, rfl, x, .ty "int", _, _, _, rfl, .ty _, ty, k1, _, rfl, ?_⟩
    cases x with
    | int i => exact ⟨_, rfl, _, .ty "bool", _, _, _, rfl, .ty _, ty, k2, _, rfl, k⟩
    | bl b => exact ⟨_, rfl, _, .ty "bool", _, _, _, rfl, .ty _, ty, k2, _, rfl, k⟩
    | non => exact k
    | str s => exact k
    | byt _ => exact fx.elim
    | flt _ => exact fx.elim
    | ref _ => exact fx.elim
    | ty _ => exact fx.elim
theorem scBtw : FnScope ["thing", "least", "most"] ["thing", "least", "most"] (defScope s_is_between) := ⟨rfl, rfl, rfl, by decide +kernel, rfl, by decide +kernel, by decide +kernel⟩
theorem ok_btw {f : Addr} {fd : FuncData} {q : Str} (F : FunD K "is_between" q (defArgs s_is_between) (defBody s_is_between) (defScope s_is_between) [] [] f fd) (DN : Def P w K mg base CX0 1 "is_number" ["thing"] spNum) :
    FnOk P w K mg base CX0 2 f fd ["thing", "least", "most"] spBtw := by
  refine F.ok scBtw (fun vs H Q E h => ?_) (fun cdv A outer s H vs Q E hr h => ?_)
  · obtain ⟨x, lo, hi, rfl, _⟩ := h
    rfl
  · obtain ⟨x, lo, hi, rfl, fx, k⟩ := h
    refine ⟨_, PSs.nox (pss_one (ps_ret (pe_and (pe_def DN hr pass0 rfl (pa_cons (pv 0) pa_nil)) (pe_one (pe_chain op_le op_le (pv 1) (pv 0) (pv 2)))))), ?_⟩
    refine ⟨_, rfl, x, rfl, fx, _, rfl, ?_⟩
    cases x with
    | int i =>
      refine ⟨_, rfl, _, rfl, _, _, rfl, rfl, _, rfl, ?_⟩
      refine ite2 (fun c => ⟨_, rfl, _, _, rfl, rfl, ?_⟩) (fun c => ?_)
      · have z : btw lo hi (.int i) = decide (i ≤ hi) := by show (decide (lo ≤ i) && decide (i ≤ hi)) = _; rw [c]; rfl
        rw [z] at k
        exact k
      · have z : btw lo hi (.int i) = false := by
          show (decide (lo ≤ i) && decide (i ≤ hi)) = false
          cases h : decide (lo ≤ i) with
          | true => exact absurd h c
          | false => rfl
        rw [z] at k
        exact k
    | bl b => exact k
    | non => exact k
    | str s => exact k
    | byt _ => exact fx.elim
    | flt _ => exact fx.elim
    | ref _ => exact fx.elim
    | ty _ => exact fx.elim
theorem scSeq : FnScope ["thing", "least", "most"] ["thing", "least", "most"] (defScope s_is_sequence) := ⟨rfl, rfl, rfl, by decide +kernel, rfl, by decide +kernel, by decide +kernel⟩
theorem ok_seq {f : Addr} {fd : FuncData} {q : Str} (F : FunD K "is_sequence" q (defArgs s_is_sequence) (defBody s_is_sequence) (defScope s_is_sequence) [] [] f fd) (zI : mg "isinstance" = none) (zl : mg "list" = none) (zt : mg "tuple" = none) (zn : mg "len" = none) :
    FnOk P w K mg base CX0 1 f fd ["thing", "least", "most"] (spSeq K) := by
  refine F.ok scSeq (fun vs H Q E h => ?_) (fun cdv A outer s H vs Q E hr h => ?_)
  · obtain ⟨a, xs, lo, hi, rfl, _⟩ := h
    rfl
  · obtain ⟨a, xs, lo, hi, rfl, sq, k⟩ := h
    refine ⟨_, PSs.nox (pss_one (ps_ret (pe_and (pe_callB call_isiT rfl zI PyProof.Rows.boot_isinstance (pa_cons (pv 0) (pa_cons (pe_tup (pa_cons (pe_bltn (v := .ty "list") rfl zl PyProof.Rows.boot_list rfl) (pa_cons (pe_bltn (v := .ty "tuple") rfl zt PyProof.Rows.boot_tuple rfl) pa_nil))) pa_nil)))
      (pe_one (pe_chain op_le op_le (pv 1) (pe_callB call_len_seq rfl zn boot_len (pa_cons (pv 0) pa_nil)) (pv 2)))))), ?_⟩
    refine ⟨_, rfl, (by show 2 ≤ sizeLine; decide), fun p np => ?_⟩
    have sm := same_upd (o := .tup [.ty "list", .ty "tuple"]) np
    have sq' := sq.same sm
    have ty : ∃ t, TyX K (upd H p (.tup [.ty "list", .ty "tuple"])) (.ref a) t ∧ PySem.W.kitAny K t [.type "list", .type "tuple"] = some true := by
      rcases sq' with z | z
      · exact ⟨_, tyx_l z, any_lt.1⟩
      · exact ⟨_, tyx_t z, any_lt.2⟩
    obtain ⟨t, ty, ka⟩ := ty
    refine ⟨.ref a, p, _, t, _, true, rfl, upd_same, .cons (.ty _) (.cons (.ty _) .nil), ty, ka, true, rfl, ?_⟩
    refine ifT rfl ⟨_, rfl, _, rfl, a, xs, rfl, sq', _, _, rfl, rfl, _, rfl, ?_⟩
    have kk := k _ sm
    refine ite2 (fun c => ⟨_, rfl, _, _, rfl, rfl, ?_⟩) (fun c => ?_)
    · rw [c] at kk
      exact kk
    · have z : decide (lo ≤ (xs.length : Int)) = false := by
        cases h : decide (lo ≤ (xs.length : Int)) with
        | true => exact absurd h c
        | false => rfl
      rw [z] at kk
      exact kk
end
end K69

set_option Elab.async false
set_option linter.all false
set_option maxRecDepth 100000
set_option maxHeartbeats 8000000
namespace K69
open PySem PySem.Spec PyProof.Rows L2 Lf
/-- a source of draws of which at most n were mixed -/
def Src (H : Hp) (l : Addr) (n : Nat) : Prop := ∃ a b c : Int, H l = some (.lst [.int a, .int b, .int c]) ∧ 0 ≤ a ∧ (0 ≤ b ∧ b < 2147483587) ∧ 0 ≤ c ∧ c ≤ n
theorem yesT {σ : L2.St} {H : Hp} {A B : Hp → Prop} (h : A H) : tYes σ H fun b H3 => if b = true then A H3 else B H3 := by
  show if true = true then A H else B H
  rw [if_pos rfl]
  exact h
theorem Src.up {H : Hp} {l : Addr} {n m : Nat} (h : Src H l n) (e : n ≤ m) : Src H l m := by
  obtain ⟨a, b, c, h1, h2, h3, h4, h5⟩ := h
  exact ⟨a, b, c, h1, h2, h3, h4, by omega⟩
theorem Src.same {H H' : Hp} {l : Addr} {n : Nat} (h : Src H l n) (e : Same H H') : Src H' l n := by
  obtain ⟨a, b, c, h1, h2⟩ := h
  exact ⟨a, b, c, e _ _ h1, h2⟩
def spSource : Sp := fun vs H Q _ => ∃ n : Int, vs = [.int n] ∧ ∀ l H', H l = none → Same H H' → Src H' l 0 → Q (.ref l) H'
def spDraw : Sp := fun vs H Q _ => ∃ (l : Addr) (n : Nat) (m : Int), vs = [.ref l, .int m] ∧ Src H l n ∧ n ≤ 1000000 ∧ 0 < m ∧ m ≤ 1000 ∧ ∀ (k : Int) H', 0 ≤ k → k < m → But l H H' → Src H' l (n + 1) → Q (.int k) H'
section
variable {P : Program} {w : World} {K : PySem.W.Frag} {mg : Str → Option Value} {base : Heap}
theorem scSource : FnScope ["_law_cell"] ["_law_cell"] (defScope s_L_source) := ⟨rfl, rfl, rfl, by decide +kernel, rfl, by decide +kernel, by decide +kernel⟩
theorem ok_source {f : Addr} {fd : FuncData} {q : Str} (F : FunD K "_law_source" q (defArgs s_L_source) (defBody s_L_source) (defScope s_L_source) [] [] f fd) (zA : mg "abs" = none) (zI : mg "int" = none) :
    FnOk P w K mg base CX0 1 f fd ["_law_cell"] spSource := by
  refine F.ok scSource (fun vs H Q E h => ?_) (fun cdv A outer s H vs Q E hr h => ?_)
  · obtain ⟨n, rfl, _⟩ := h
    rfl
  · obtain ⟨n, rfl, k⟩ := h
    refine ⟨_, PSs.nox (pss_cons (ps_set (i := 0) scSource.nd rfl (.inl rfl) (pe_callB call_abs rfl zA boot_abs (pa_cons (pv 0) pa_nil)))
      (pss_one (ps_ret (pe_lst (pa_cons (pe_op op_mul (pv 0) (pe_callTy call_int1 rfl zI boot_int (pa_cons (pe_cmpR op_ge (pv 0) (pe_op op_pow pe_int pe_int) (nomark _)) pa_nil)))
        (pa_cons (pe_op op_mod (pe_callTy call_int1 rfl zI boot_int (pa_cons (pv 0) pa_nil)) pe_int)
        (pa_cons pe_int pa_nil))))))), ?_⟩
    refine ⟨_, rfl, n, rfl, ?_⟩
    have nn : 0 ≤ (if n < 0 then -n else n) := by split <;> omega
    generalize (if n < 0 then -n else n) = a at nn ⊢
    refine ⟨_, rfl, _, rfl, 10, 18, rfl, rfl, ⟨by decide, by decide, by decide⟩, a, _, rfl, rfl, .inr ⟨_, rfl, a, _, rfl, rfl, .inr ?_, ?_⟩⟩
    · split <;> decide
    refine ⟨_, rfl, .inl ⟨a, rfl, a, 2147483587, rfl, rfl, (show (0 : Int) < 2147483587 by decide), ?_⟩⟩
    refine ⟨(by show 3 ≤ sizeLine; decide), fun l hl => k l _ hl (same_upd hl) ⟨_, _, _, upd_same, ?_, ?_, by decide, by decide⟩⟩
    · split
      · omega
      · simp
    · constructor <;> omega
theorem scDraw : FnScope ["_law_source_here", "_law_many", "_law_digit", "_law_mixed"] ["_law_source_here", "_law_many"] (defScope s_L_draw) := ⟨rfl, rfl, rfl, by decide +kernel, rfl, by decide +kernel, by decide +kernel⟩
theorem ok_draw {f : Addr} {fd : FuncData} {q : Str} (F : FunD K "_law_draw" q (defArgs s_L_draw) (defBody s_L_draw) (defScope s_L_draw) [] [] f fd) (zI : mg "int" = none) :
    FnOk P w K mg base CX0 1 f fd ["_law_source_here", "_law_many"] spDraw := by
  refine F.ok scDraw (fun vs H Q E h => ?_) (fun cdv A outer s H vs Q E hr h => ?_)
  · obtain ⟨l, n, m, rfl, _⟩ := h
    rfl
  · obtain ⟨l, n, m, rfl, ⟨a, b, c, hl, ha, ⟨hb1, hb2⟩, hc1, hc2⟩, n1, m0, m1, k⟩ := h
    have gI (i : Int) := i
    refine ⟨_, PSs.nox (pss_cons (ps_if (pt_cmpR op_gt (pe_ix ix_list (pv 0) pe_int (fun _ _ => rfl)) pe_int (nomark _))
        (pss_cons (ps_set (i := 2) scDraw.nd rfl (.inl rfl) (pe_op op_mod (pe_callTy call_int1 rfl zI boot_int (pa_cons (pe_ix ix_list (pv 0) pe_int (fun _ _ => rfl)) pa_nil)) (pv 1)))
        (pss_cons (ps_asg (pe_op op_fdiv (pe_ix ix_list (pv 0) pe_int (fun _ _ => rfl)) (pv 1)) (pg_sub (pv 0) pe_int set_list))
        (pss_one (ps_ret (pv 2))))) pss_nil)
      (pss_cons (ps_asg (pe_op op_add (pe_ix ix_list (pv 0) pe_int (fun _ _ => rfl)) pe_int) (pg_sub (pv 0) pe_int set_list))
      (pss_cons (ps_set (i := 3) scDraw.nd rfl (.inl rfl) (pe_op op_mod (pe_callTy call_int1 rfl zI boot_int (pa_cons (pe_op op_mul (pe_op op_add (pe_op op_add (pe_ix ix_list (pv 0) pe_int (fun _ _ => rfl)) (pe_op op_mul pe_int (pe_ix ix_list (pv 0) pe_int (fun _ _ => rfl)))) pe_int) pe_int) pa_nil)) pe_int))
      (pss_cons (ps_set (i := 3) scDraw.nd rfl (.inl rfl) (pe_op op_mod (pe_callTy call_int1 rfl zI boot_int (pa_cons (pe_op op_mul (pv 3) (pe_op op_add (pe_op op_fdiv (pv 3) pe_int) pe_int)) pa_nil)) pe_int))
      (pss_one (ps_ret (pe_op op_mod (pe_callTy call_int1 rfl zI boot_int (pa_cons (pe_op op_fdiv (pe_op op_mod (pe_callTy call_int1 rfl zI boot_int (pa_cons (pe_op op_mul (pv 3) (pe_op op_add (pe_op op_fdiv (pv 3) pe_int) pe_int)) pa_nil)) pe_int) pe_int) pa_nil)) (pv 1)))))))), ?_⟩
    have at0 : atI [V.int a, V.int b, V.int c] 0 = some (.int a) := rfl
    refine ⟨_, rfl, l, _, 0, _, rfl, rfl, SqL.of hl, at0, a, 0, rfl, rfl, _, rfl, ?_⟩
    refine ite2 (fun h0 => ?_) (fun h0 => ?_)
    · refine ⟨_, rfl, l, _, 0, _, rfl, rfl, SqL.of hl, at0, .inl ⟨a, rfl, _, rfl, a, m, rfl, rfl, m0, ?_⟩⟩
      refine ⟨_, rfl, l, _, 0, _, rfl, rfl, SqL.of hl, at0, _, rfl, a, m, rfl, rfl, ⟨m0, by omega⟩, ?_⟩
      refine ⟨_, rfl, l, _, 0, 0, rfl, rfl, hl, rfl, ?_⟩
      exact ⟨_, rfl, k _ _ (Int.emod_nonneg _ (by omega)) (Int.emod_lt_of_pos _ m0) But.upd ⟨_, b, c, upd_same, Int.ediv_nonneg ha (by omega), ⟨hb1, hb2⟩, hc1, by omega⟩⟩
    · have at2 : atI [V.int a, V.int b, V.int c] 2 = some (.int c) := rfl
      have at1' : atI [V.int a, V.int b, V.int (c + 1)] 1 = some (.int b) := rfl
      have at2' : atI [V.int a, V.int b, V.int (c + 1)] 2 = some (.int (c + 1)) := rfl
      refine ⟨_, rfl, l, _, 2, _, rfl, rfl, SqL.of hl, at2, c, 1, rfl, rfl, _, rfl, l, _, 2, 2, rfl, rfl, hl, rfl, ?_⟩
      have hl' : L2.upd H l (.lst [V.int a, V.int b, V.int (c + 1)]) l = some (.lst [V.int a, V.int b, V.int (c + 1)]) := upd_same
      have bt : But l H (L2.upd H l (.lst [V.int a, V.int b, V.int (c + 1)])) := But.upd
      refine ⟨_, rfl, l, _, 1, _, rfl, rfl, SqL.of hl', at1', _, rfl, l, _, 2, _, rfl, rfl, SqL.of hl', at2', 7919, (c + 1), rfl, rfl, .inl ⟨by omega, by omega⟩, b, _, rfl, rfl, _, 13, rfl, rfl, _, 48271, rfl, rfl, .inl ⟨by omega, by omega⟩, .inl ⟨_, rfl, _, 2147483629, rfl, rfl, (show (0 : Int) < 2147483629 by decide), ?_⟩⟩
      generalize hz : (b + 7919 * (c + 1) + 13) * 48271 = z
      have z1 : 0 ≤ z % 2147483629 := Int.emod_nonneg _ (by decide)
      have z2 : z % 2147483629 < 2147483629 := Int.emod_lt_of_pos _ (by decide)
      obtain ⟨u, hu⟩ : ∃ u, z % 2147483629 = u := ⟨_, rfl⟩
      rw [hu] at z1 z2
      refine ⟨_, rfl, _, rfl, u, 1019, congrArg V.int hu, rfl, ⟨by decide, by decide⟩, _, 69621, rfl, rfl, u, _, congrArg V.int hu, rfl, .inl ⟨by omega, by omega⟩, .inl ⟨_, rfl, _, 2147483579, rfl, rfl, (show (0 : Int) < 2147483579 by decide), ?_⟩⟩
      generalize hy : u * (u / 1019 + 69621) = y
      have y1 : 0 ≤ y % 2147483579 := Int.emod_nonneg _ (by decide)
      have y2 : y % 2147483579 < 2147483579 := Int.emod_lt_of_pos _ (by decide)
      obtain ⟨v, hv⟩ : ∃ v, y % 2147483579 = v := ⟨_, rfl⟩
      rw [hv] at y1 y2
      refine ⟨_, rfl, _, rfl, v, 2003, congrArg V.int hv, rfl, ⟨by decide, by decide⟩, _, 40692, rfl, rfl, v, _, congrArg V.int hv, rfl, .inl ⟨by omega, by omega⟩, .inl ⟨_, rfl, _, 2147483549, rfl, rfl, (show (0 : Int) < 2147483549 by decide), ?_⟩⟩
      refine ⟨_, 3, rfl, rfl, ⟨by decide, by decide⟩, .inl ⟨_, rfl, _, rfl, _, m, rfl, rfl, m0, ?_⟩⟩
      exact k _ _ (Int.emod_nonneg _ (by omega)) (Int.emod_lt_of_pos _ m0) But.upd ⟨a, b, c + 1, upd_same, ha, ⟨hb1, hb2⟩, by omega, by omega⟩
end
end K69

set_option Elab.async false
set_option linter.all false
set_option maxRecDepth 100000
set_option maxHeartbeats 8000000
namespace K69
open PySem PySem.Spec PyProof.Rows L2 Lf
/-- what the head says, for one module -/
structure Txt (P : Program) (w : World) (K : PySem.W.Frag) (mg : Str → Option Value) (base : Heap) : Prop where
  d : He.SaysD fa fn K
  m : ex K = true
  gl : ∀ (i : Nat) (x : Str), fa[i]? = some (.glo x) → mg x = some (.ref (He.ga K x))
  fr : ∀ (i : Nat) (x : Str), fa[i]? = some (.free x) → mg x = none
  it : ∀ (i : Nat) (x : Str) (v : Int), fa[i]? = some (.int x v) → ∃ t, mg x = some (.int v t)
  st : ∀ (i : Nat) (x v : Str), fa[i]? = some (.str x v) → ∃ t, mg x = some (.str v t)
theorem pe_gstr {X : Cx} {x v : Str} {t : Tok} {pos : Pos} (hg : Gl X x) (hm : X.mg x = some (.str v t)) (hd : (x == ("__debug__" : Str)) = false := by decide +kernel) : PE X (.Name x pos) (tC (.str v)) := pe_glob hg hm ⟨t, rfl⟩ hd
/-- numbers as values -/
abbrev nv (i : Nat) : V := .int (i : Nat)
/-- the rows at r: lists -/
structure RowsL (K : PySem.W.Frag) (H : Hp) (r : Addr) (rows : List (List Nat)) : Prop where
  ex : ∃ as : List Addr, SqL K H r (as.map V.ref) ∧ as.length = rows.length ∧ ∀ (i : Nat) a row, as[i]? = some a → rows[i]? = some row → SqL K H a (row.map nv)
/-- .. tuples -/
structure RowsT (K : PySem.W.Frag) (H : Hp) (r : Addr) (rows : List (List Nat)) : Prop where
  ex : ∃ as : List Addr, SqT K H r (as.map V.ref) ∧ as.length = rows.length ∧ ∀ (i : Nat) a row, as[i]? = some a → rows[i]? = some row → SqT K H a (row.map nv)
theorem RowsL.same {K : PySem.W.Frag} {H H' : Hp} {r : Addr} {rows : List (List Nat)} (h : RowsL K H r rows) (e : Same H H') : RowsL K H' r rows := by
  obtain ⟨as, a, b, c⟩ := h.ex
  exact ⟨as, L2.Same.seq e a, b, fun i x row h1 h2 => L2.Same.seq e (c i x row h1 h2)⟩
theorem RowsT.same {K : PySem.W.Frag} {H H' : Hp} {r : Addr} {rows : List (List Nat)} (h : RowsT K H r rows) (e : Same H H') : RowsT K H' r rows := by
  obtain ⟨as, a, b, c⟩ := h.ex
  exact ⟨as, Lf.SqT.same e a, b, fun i x row h1 h2 => Lf.SqT.same e (c i x row h1 h2)⟩
theorem map_get {α β : Type} {f : α → β} {l : List α} {i : Nat} {y : β} (h : (l.map f)[i]? = some y) : ∃ a, l[i]? = some a ∧ y = f a := by
  rw [List.getElem?_map] at h
  cases e : l[i]? with
  | none => rw [e] at h; cases h
  | some a => rw [e] at h; exact ⟨a, rfl, (Option.some.inj h).symm⟩
theorem get_map {α β : Type} {f : α → β} {l : List α} {i : Nat} {a : α} (h : l[i]? = some a) : (l.map f)[i]? = some (f a) := by rw [List.getElem?_map, h]; rfl
theorem get_lt {α : Type} {l : List α} {i : Nat} {a : α} (h : l[i]? = some a) : i < l.length := (List.getElem?_eq_some_iff.mp h).1
theorem lt_get {α : Type} {l : List α} {i : Nat} (h : i < l.length) : ∃ a, l[i]? = some a := ⟨_, List.getElem?_eq_getElem h⟩
theorem seq_dec {lo hi : Int} {n : Nat} (a : lo ≤ (n : Int)) (b : (n : Int) ≤ hi) : (decide (lo ≤ (n : Int)) && decide ((n : Int) ≤ hi)) = true := by
  rw [decide_eq_true a, decide_eq_true b]
  rfl
theorem btw_nv {i n : Nat} (h : i < n) : btw 0 ((n : Int) - 1) (nv i) = true := by
  show (decide ((0 : Int) ≤ (i : Nat)) && decide (((i : Nat) : Int) ≤ (n : Int) - 1)) = true
  rw [decide_eq_true (by omega), decide_eq_true (by omega)]
  rfl
theorem all_true {n : Nat} : (List.replicate n true).all id = true := by
  rw [List.all_eq_true]
  intro x hx
  exact (List.mem_replicate.mp hx).2
/-- the form of a table -/
def Form (rows : List (List Nat)) (w : Nat) : Prop := 1 ≤ rows.length ∧ rows.length ≤ 2000 ∧ 1 ≤ w ∧ w ≤ 6 ∧ ∀ row ∈ rows, row.length = w ∧ ∀ t ∈ row, t < rows.length
def spForm (K : PySem.W.Frag) : Sp := fun vs H Q _ => ∃ r rows w, vs = [.ref r] ∧ RowsL K H r rows ∧ Form rows w ∧ ∀ H', Same H H' → Q .non H'
abbrev rLenS (K : PySem.W.Frag) : List V → Hp → VK → Prop := fun xs H Q => ∃ p ys, xs = [V.ref p] ∧ (SqL K H p ys ∨ SqT K H p ys) ∧ Q (V.int ys.length) H
abbrev teForm (K : PySem.W.Frag) : TE := fun σ H Q => (tCons (tVar 3) (tCons (tC (.int 0)) (tCons (tOp (rI0 fun i j => .int (i - j)) (tCB (rLenS K) (tCons (tVar 0) tNil)) (tC (.int 1))) tNil))) σ H fun vs H1 => spBtw vs H1 Q E0
section
variable {P : Program} {w : World} {K : PySem.W.Frag} {mg : Str → Option Value} {base : Heap}
theorem scForm : FnScope ["right", "place", "row", "entry"] ["right"] (defScope s_check_form) := ⟨rfl, rfl, rfl, by decide +kernel, rfl, by decide +kernel, by decide +kernel⟩
theorem ok_form {f : Addr} {fd : FuncData} {q : Str} (F : FunD K "_check_form" q (defArgs s_check_form) (defBody s_check_form) (defScope s_check_form) [] [] f fd) (T : Txt P w K mg base)
    (DS : Def P w K mg base CX0 1 "is_sequence" ["thing", "least", "most"] (spSeq K)) (DB : Def P w K mg base CX0 2 "is_between" ["thing", "least", "most"] spBtw) :
    FnOk P w K mg base CX0 3 f fd ["right"] (spForm K) := by
  obtain ⟨tM, gM⟩ := T.it 46 "MOST_SIZE" 2000 rfl
  obtain ⟨tL, gL⟩ := T.st 50 "LETTERS" "abcdef" rfl
  have zE : mg "enumerate" = none := T.fr 56 "enumerate" rfl
  have zn : mg "len" = none := T.fr 59 "len" rfl
  have za : mg "all" = none := T.fr 54 "all" rfl
  refine F.ok scForm (fun vs H Q E h => ?_) (fun cdv A outer s H vs Q E hr h => ?_)
  · obtain ⟨r, rows, wd, rfl, _⟩ := h
    rfl
  · obtain ⟨r, rows, wd, rfl, R, ⟨n1, n2, w1, w6, row⟩, k⟩ := h
    have r1 : Room 1 _ := hr.mono (by decide)
    refine ⟨_, PSs.nox (pss_cons (ps_if (pt_not (pt_val (pe_def DS r1 pass0 rfl (pa_cons (pv 0) (pa_cons pe_int (pa_cons (pe_gint rfl gM) pa_nil)))))) (pss_one ps_never) pss_nil)
      (pss_one (ps_for PassesOwn.never rfl (pi_enumA rfl zE (pv 0)) (pg_tup rfl (pgs_cons (pg_name (i := 1) scForm.nd rfl (.inl rfl)) (pgs_cons (pg_name (i := 2) scForm.nd rfl (.inl rfl)) pgs_nil)))
        (pss_cons (ps_if (PW.pt (pw_or (pt_not (pt_val (pe_def DS r1 pass0 rfl (pa_cons (pv 2) (pa_cons pe_int (pa_cons (pe_callB call_len_str rfl zn boot_len (pa_cons (pe_gstr rfl gL) pa_nil)) pa_nil))))))
            (pw_or1 (pt_cmpR op_ne (pe_callB call_len_seq rfl zn boot_len (pa_cons (pv 2) pa_nil)) (pe_callB call_len_seq rfl zn boot_len (pa_cons (pe_ix ix_list (pv 0) pe_int (fun _ _ => rfl)) pa_nil)) (nomark _))))) (pss_one ps_never) pss_nil)
        (pss_one (ps_if (pt_not (pt_val (pe_callB (cr_all rfl) rfl za (by decide +kernel) (pa_cons (pe_lc (own := [("entry", 3)]) (g := gName 3) (te := teForm K) (by rfl) scForm.nd (pi_list (pv 2)) (blkOk_by (own := [("entry", 3)]) (N := ["right", "place", "row", "entry"]) (sc := defScope s_check_form) (by decide +kernel)) (fun _ _ _ _ _ => pg_name (i := 3) scForm.nd rfl (Or.inl rfl)) (fun _ _ _ _ _ => pts_nil)
            (fun _ _ _ _ _ => by exact pe_def DB hr pass0 rfl (pa_cons (pv 3) (pa_cons pe_int (pa_cons (pe_op op_sub (pe_callB call_len_seq rfl zn boot_len (pa_cons (pv 0) pa_nil)) pe_int) pa_nil))))) pa_nil)))) (pss_one ps_never) pss_nil)))))), ?_⟩
    obtain ⟨as, sr, la, srow⟩ := R.ex
    have ln : (as.map V.ref).length = rows.length := by rw [List.length_map, la]
    refine ⟨_, rfl, r, as.map V.ref, 1, 2000, rfl, .inl sr, fun H1 s1 => ⟨_, rfl, ?_⟩⟩
    rw [seq_dec (by omega) (by omega)]
    refine ifF rfl ?_
    refine ⟨_, rfl, r, as.map V.ref, rfl, .inl ⟨L2.Same.seq s1 sr, ?_⟩⟩
    have wk : Walk (Ite K r) (as.map V.ref).length (fun H2 => Same H H2) (fun i H v H' => ∃ T x, v = .ref T ∧ H T = none ∧ H' = L2.upd H T (.tup [.int (i : Nat), x]) ∧ (as.map V.ref)[i]? = some x) := (walk_enumL (xs := as.map V.ref)).mono (fun H s => L2.Same.seq s sr) (fun i H x H' _ _ y => y)
    refine for_it wk (fun i σ H2 => ∃ v1 v2 : Option V, σ = [some (.ref r), v1, v2, none] ∧ Same H H2) ⟨none, none, rfl, s1⟩ (fun i σ H2 _ ⟨_, _, _, s⟩ => s) ?_ ?_
    · rintro i x σ H2 H3 hi ⟨v1, v2, rfl, s2⟩ ⟨T', y, rfl, nT, rfl, hy⟩
      obtain ⟨a, ha, rfl⟩ := map_get hy
      have hi2 : i < rows.length := by rw [← ln]; exact hi
      obtain ⟨rw_, hrw⟩ := lt_get hi2
      have sa := srow i a rw_ ha hrw
      obtain ⟨lw, ent⟩ := row rw_ (List.mem_of_getElem? hrw)
      refine ⟨T', _, rfl, SqT.of upd_same, rfl, _, _, rfl, _, _, rfl, rfl, ?_⟩
      have s3 := s2.trans (same_upd (o := .tup [.int (i : Nat), .ref a]) nT)
      generalize L2.upd H2 T' (.tup [.int (i : Nat), .ref a]) = H3 at s3 ⊢
      refine ⟨_, rfl, _, rfl, (by decide +kernel), a, rw_.map nv, 1, 6, rfl, .inl (L2.Same.seq s3 sa), fun H4 s4 => ⟨_, rfl, ?_⟩⟩
      rw [List.length_map, seq_dec (by omega) (by omega)]
      refine ifF rfl ?_
      have s5 := s3.trans s4
      obtain ⟨a0, h0⟩ := lt_get (show 0 < as.length by omega)
      obtain ⟨rw0, hrw0⟩ := lt_get (show 0 < rows.length by omega)
      have lw0 := (row rw0 (List.mem_of_getElem? hrw0)).1
      refine ⟨_, rfl, a, rw_.map nv, rfl, .inl (L2.Same.seq s5 sa), _, rfl, r, as.map V.ref, 0, .ref a0, rfl, rfl, L2.Same.seq s5 sr, ?_, a0, rw0.map nv, rfl, .inl (L2.Same.seq s5 (srow 0 a0 rw0 h0 hrw0)), rfl, _, rfl, ?_⟩
      · exact atI_nat (j := 0) (get_map h0)
      refine ifF (by simp [lw, lw0]) ?_
      refine ⟨_, rfl, a, rfl, ⟨_, L2.Same.seq s5 sa⟩, fun D nD => ?_⟩
      refine lc_list (K := K) (a := a) (xs := rw_.map nv) (fun j Hc => But D H4 Hc ∧ Hc D = some (.lst (List.replicate j (V.bl true)))) ⟨But.upd, upd_same⟩ (fun j Hc _ ⟨bc, _⟩ => L2.Same.seq (Same.but (L2.Same.refl _) nD bc) (L2.Same.seq s5 sa)) (fun j z Hc hz ⟨bc, hD⟩ => ?_) (fun Hc ⟨bc, hD⟩ => ?_)
      · obtain ⟨t, ht, rfl⟩ := map_get hz
        refine ⟨rfl, yesT ?_⟩
        have sc := s5.trans (Same.but (L2.Same.refl _) nD bc)
        refine ⟨_, rfl, _, rfl, r, as.map V.ref, rfl, .inl (L2.Same.seq sc sr), _, 1, rfl, rfl, nv t, 0, _, rfl, True.intro, ?_⟩
        rw [ln, btw_nv (ent t (List.mem_of_getElem? ht))]
        refine ⟨_, hD, ?_, But.trans bc But.upd, ?_⟩
        · rw [List.length_replicate]
          have := get_lt ht
          show j < 16777216
          omega
        · rw [upd_same, List.replicate_succ']
      · rw [List.length_map] at hD
        have sc := s5.trans (Same.but (L2.Same.refl _) nD bc)
        refine ⟨D, List.replicate rw_.length true, rfl, SqL.of (by rw [List.map_replicate]; exact hD), ?_⟩
        rw [all_true]
        refine ⟨_, rfl, ?_⟩
        exact ifF rfl ⟨_, _, rfl, sc⟩
    · rintro σ H2 ⟨v1, v2, rfl, s2⟩
      exact k _ s2
end
end K69

set_option Elab.async false
set_option linter.all false
set_option maxRecDepth 100000
set_option maxHeartbeats 8000000
namespace K69
open PySem PySem.Spec PyProof.Rows L2 Lf
/-- how the elements are made: a tuple of None and pairs -/
structure MadeT (K : PySem.W.Frag) (H : Hp) (t : Addr) (m : List (Nat × Nat)) : Prop where
  ex : ∃ ps : List Addr, SqT K H t (.non :: ps.map V.ref) ∧ ps.length = m.length ∧ ∀ (k : Nat) a p, ps[k]? = some a → m[k]? = some p → SqT K H a [nv p.1, nv p.2]
theorem MadeT.same {K : PySem.W.Frag} {H H' : Hp} {t : Addr} {m : List (Nat × Nat)} (h : MadeT K H t m) (e : Same H H') : MadeT K H' t m := by
  obtain ⟨ps, a, b, c⟩ := h.ex
  exact ⟨ps, Lf.SqT.same e a, b, fun k x p h1 h2 => Lf.SqT.same e (c k x p h1 h2)⟩
/-- .. the list that grows -/
def MadeL (H : Hp) (M : Addr) (m : List (Nat × Nat)) : Prop := ∃ ps : List Addr, H M = some (.lst (.non :: ps.map V.ref)) ∧ ps.length = m.length ∧ ∀ (k : Nat) a p, ps[k]? = some a → m[k]? = some p → H a = some (.tup [nv p.1, nv p.2])
theorem MadeL.same {H H' : Hp} {M : Addr} {m : List (Nat × Nat)} (h : MadeL H M m) (e : Same H H') : MadeL H' M m := by
  obtain ⟨ps, a, b, c⟩ := h
  exact ⟨ps, e _ _ a, b, fun k x p h1 h2 => e _ _ (c k x p h1 h2)⟩
def spMade (K : PySem.W.Frag) : Sp := fun vs H Q _ => ∃ r rows m, vs = [.ref r] ∧ RowsT K H r rows ∧ Mon.madeTab 0 rows [] = some m ∧ m.length ≤ 2000 ∧ ∀ t H', Same H H' → MadeT K H' t m → Q (.ref t) H'
theorem len_grow {rows : List (List Nat)} {m m' : List (Nat × Nat)} {i : Nat} (h : Mon.madeTab 0 rows [] = some m) (h' : Mon.madeTab 0 (rows.take i) [] = some m') : m'.length ≤ m.length := by
  have e := List.take_append_drop i rows
  rw [← e, Mon.madeTab_app, h', Option.bind_some] at h
  obtain ⟨x, hx, _⟩ := Mon.madeTab_ok h
  rw [hx, List.length_append]
  omega
theorem len_growR {row : List Nat} {m m2 m' : List (Nat × Nat)} {i c : Nat} (h : Mon.madeRow i 0 row m = some m2) (h' : Mon.madeRow i 0 (row.take c) m = some m') : m'.length ≤ m2.length := by
  have e := List.take_append_drop c row
  rw [← e, Mon.madeRow_app, h', Option.bind_some] at h
  obtain ⟨x, hx, _⟩ := Mon.madeRow_ok h
  rw [hx, List.length_append]
  omega
section
variable {P : Program} {w : World} {K : PySem.W.Frag} {mg : Str → Option Value} {base : Heap}
theorem scMade : FnScope ["right", "made", "number", "row", "letter", "reached"] ["right"] (defScope s_made_by) := ⟨rfl, rfl, rfl, by decide +kernel, rfl, by decide +kernel, by decide +kernel⟩
theorem ok_made {f : Addr} {fd : FuncData} {q : Str} (F : FunD K "_made_by" q (defArgs s_made_by) (defBody s_made_by) (defScope s_made_by) [] [] f fd) (T : Txt P w K mg base) :
    FnOk P w K mg base CX0 1 f fd ["right"] (spMade K) := by
  have zE : mg "enumerate" = none := T.fr 56 "enumerate" rfl
  have zn : mg "len" = none := T.fr 59 "len" rfl
  have zt : mg "tuple" = none := T.fr 66 "tuple" rfl
  refine F.ok scMade (fun vs H Q E h => ?_) (fun cdv A outer s H vs Q E hr h => ?_)
  · obtain ⟨r, rows, m, rfl, _⟩ := h
    rfl
  · obtain ⟨r, rows, m, rfl, R, hm, lm, k⟩ := h
    refine ⟨_, PSs.nox (pss_cons (ps_set (i := 1) scMade.nd rfl (.inl rfl) (pe_lst (pa_cons pe_non pa_nil)))
      (pss_cons (ps_for PassesOwn.never rfl (pi_enumA rfl zE (pv 0)) (pg_tup rfl (pgs_cons (pg_name (i := 2) scMade.nd rfl (.inl rfl)) (pgs_cons (pg_name (i := 3) scMade.nd rfl (.inl rfl)) pgs_nil)))
        (pss_cons (ps_if (pt_cmpR op_ge (pv 2) (pe_callB call_len_seq rfl zn boot_len (pa_cons (pv 1) pa_nil)) (nomark _)) (pss_one ps_never) pss_nil)
        (pss_one (ps_for PassesOwn.never rfl (pi_enumA rfl zE (pv 3)) (pg_tup rfl (pgs_cons (pg_name (i := 4) scMade.nd rfl (.inl rfl)) (pgs_cons (pg_name (i := 5) scMade.nd rfl (.inl rfl)) pgs_nil)))
          (pss_cons (ps_if (pt_cmpR op_gt (pv 5) (pe_callB call_len_seq rfl zn boot_len (pa_cons (pv 1) pa_nil)) (nomark _)) (pss_one ps_never) pss_nil)
          (pss_one (ps_if (pt_cmpR op_eq (pv 5) (pe_callB call_len_seq rfl zn boot_len (pa_cons (pv 1) pa_nil)) (nomark _))
            (pss_one (ps_expr (pe_bm PySem.F.plainAttrs_list PySem.F.slot_list_append PySem.F.type_list_append mt_append (pv 1) (pa_cons (pe_tup (pa_cons (pv 2) (pa_cons (pv 4) pa_nil))) pa_nil)))) pss_nil)))))))
      (pss_one (ps_ret (pe_callTy call_tuple_of rfl zt PyProof.Rows.boot_tuple (pa_cons (pv 1) pa_nil)))))), ?_⟩
    obtain ⟨as, sr, la, srow⟩ := R.ex
    have ln : (as.map V.ref).length = rows.length := by rw [List.length_map, la]
    refine ⟨(by show 1 ≤ sizeLine; decide), fun M nM => ?_⟩
    have s1 := same_upd (o := .lst [V.non]) nM
    have m1 : MadeL (L2.upd H M (.lst [V.non])) M [] := ⟨[], upd_same, rfl, fun k a p h => by simp at h⟩
    generalize L2.upd H M (.lst [V.non]) = H1 at s1 m1 ⊢
    refine ⟨_, rfl, r, as.map V.ref, rfl, .inr ⟨Lf.SqT.same s1 sr, ?_⟩⟩
    have wk : Walk (Itet K r) (as.map V.ref).length (fun H2 => Same H H2) (fun i H v H' => ∃ T x, v = .ref T ∧ H T = none ∧ H' = L2.upd H T (.tup [.int (i : Nat), x]) ∧ (as.map V.ref)[i]? = some x) := (walk_enumT (xs := as.map V.ref)).mono (fun H s => Lf.SqT.same s sr) (fun i H x H' _ _ y => y)
    refine for_it wk (fun i σ H2 => ∃ v2 v3 v4 v5 : Option V, σ = [some (.ref r), some (.ref M), v2, v3, v4, v5] ∧ Same H H2 ∧ ∃ m', Mon.madeTab 0 (rows.take i) [] = some m' ∧ MadeL H2 M m') ⟨none, none, none, none, rfl, s1, [], by simp [Mon.madeTab], m1⟩ (fun i σ H2 _ ⟨_, _, _, _, _, s, _⟩ => s) ?_ ?_
    · rintro i x σ H2 H3 hi ⟨v2, v3, v4, v5, rfl, s2, m', hm', ml⟩ ⟨T', y, rfl, nT, rfl, hy⟩
      obtain ⟨a, ha, rfl⟩ := map_get hy
      have hi2 : i < rows.length := by rw [← ln]; exact hi
      obtain ⟨row, hrow⟩ := lt_get hi2
      have sa := srow i a row ha hrow
      obtain ⟨m0, e0, i0, m2, e2, e3⟩ := Mon.madeTab_at hm hrow
      rw [hm'] at e0
      cases e0
      have l2 := len_grow hm e3
      refine ⟨T', _, rfl, SqT.of upd_same, rfl, _, _, rfl, _, _, rfl, rfl, ?_⟩
      have u3 := same_upd (o := .tup [.int (i : Nat), .ref a]) nT
      have s3 := s2.trans u3
      have ml3 := ml.same u3
      generalize L2.upd H2 T' (.tup [.int (i : Nat), .ref a]) = H3 at s3 ml3 ⊢
      clear u3 ml
      obtain ⟨ps, hM, lp, _⟩ := id ml3
      refine ⟨_, rfl, _, rfl, M, _, rfl, .inl (SqL.of hM), _, _, rfl, rfl, _, rfl, ?_⟩
      refine ifF (by rw [decide_eq_false]; simp; omega) ?_
      clear hM lp
      have sa3 := Lf.SqT.same s3 sa
      refine ⟨_, rfl, a, row.map nv, rfl, .inr ⟨sa3, ?_⟩⟩
      have wk2 : Walk (Itet K a) (row.map nv).length (fun H2 => Same H H2) (fun i H v H' => ∃ T x, v = .ref T ∧ H T = none ∧ H' = L2.upd H T (.tup [.int (i : Nat), x]) ∧ (row.map nv)[i]? = some x) := (walk_enumT (xs := row.map nv)).mono (fun H s => Lf.SqT.same s sa) (fun i H x H' _ _ y => y)
      refine for_it wk2 (fun j σ H4 => ∃ v4 v5 : Option V, σ = [some (.ref r), some (.ref M), some (nv i), some (.ref a), v4, v5] ∧ Same H H4 ∧ ∃ m'', Mon.madeRow i 0 (row.take j) m' = some m'' ∧ MadeL H4 M m'') ⟨_, _, rfl, s3, m', by simp [Mon.madeRow], ml3⟩ (fun j σ H4 _ ⟨_, _, _, s, _⟩ => s) ?_ ?_
      · rintro j x σ H4 H5 hj ⟨v4, v5, rfl, s4, m4, hm4, ml4⟩ ⟨T2, y, rfl, nT2, rfl, hy2⟩
        obtain ⟨t, ht, rfl⟩ := map_get hy2
        obtain ⟨m5, e5, t5, e6⟩ := Mon.madeRow_at e2 ht
        rw [hm4] at e5
        cases e5
        have l4 := len_growR e2 hm4
        refine ⟨T2, _, rfl, SqT.of upd_same, rfl, _, _, rfl, _, _, rfl, rfl, ?_⟩
        have u5 := same_upd (o := .tup [.int (j : Nat), nv t]) nT2
        have s5 := s4.trans u5
        have ml5 := ml4.same u5
        generalize L2.upd H4 T2 (.tup [.int (j : Nat), nv t]) = H5 at s5 ml5 ⊢
        clear u5 ml4
        obtain ⟨ps, hM, lp, pp⟩ := id ml5
        have len : (V.non :: ps.map V.ref).length = m4.length + 1 := by rw [List.length_cons, List.length_map, lp]
        refine ⟨_, rfl, _, rfl, M, _, rfl, .inl (SqL.of hM), _, _, rfl, rfl, _, rfl, ?_⟩
        refine ifF (by rw [decide_eq_false]; rw [len]; omega) ?_
        refine ⟨_, rfl, _, rfl, M, _, rfl, .inl (SqL.of hM), rfl, _, rfl, ?_⟩
        refine ite2 (fun c => ?_) (fun c => ?_)
        · have ct : t = m4.length + 1 := by
            have := of_decide_eq_true c
            rw [len] at this
            injection this with this
            omega
          rw [if_pos ct] at e6
          refine ⟨_, rfl, .inl ⟨rfl, _, SqL.of hM⟩, _, rfl, _, rfl, (by show 2 ≤ sizeLine; decide), fun N nN => ?_⟩
          have u6 := same_upd (o := .tup [nv i, nv j]) nN
          have hN : L2.upd H5 N (.tup [nv i, nv j]) N = some (.tup [nv i, nv j]) := upd_same
          have s6 := s5.trans u6
          have hM6 := u6 _ _ hM
          have pp6 : ∀ (k : Nat) a p, ps[k]? = some a → m4[k]? = some p → L2.upd H5 N (.tup [nv i, nv j]) a = some (.tup [nv p.1, nv p.2]) := fun k a p h1 h2 => u6 _ _ (pp k a p h1 h2)
          have nMN : N ≠ M := fun z => by rw [z, hM] at nN; cases nN
          generalize L2.upd H5 N (.tup [nv i, nv j]) = H6 at s6 hM6 pp6 hN ⊢
          refine ⟨M, _, _, rfl, rfl, hM6, by rw [len]; show m4.length + 1 < 16777216; omega, _, _, rfl, fun b o e => ?_, _, e6, ps ++ [N], ?_, by simp [lp], fun k a p h1 h2 => ?_⟩
          · rw [upd_ne (ne_of_none e nM)]
            exact s6 _ _ e
          · rw [upd_same]
            simp
          · by_cases hk : k < ps.length
            · rw [List.getElem?_append_left hk] at h1
              rw [List.getElem?_append_left (by omega)] at h2
              have := pp6 k a p h1 h2
              rw [upd_ne (fun z => by rw [z, hM6] at this; cases this)]
              exact this
            · have hk2 : k = ps.length := by
                have := get_lt h1
                rw [List.length_append, List.length_singleton] at this
                omega
              rw [hk2, List.getElem?_append_right (Nat.le_refl _), Nat.sub_self] at h1
              rw [hk2, lp, List.getElem?_append_right (Nat.le_refl _), Nat.sub_self] at h2
              cases h1
              cases h2
              rw [upd_ne nMN]
              exact hN
        · have ct : t ≠ m4.length + 1 := fun z => c (by
            rw [len, z]
            exact decide_eq_true rfl)
          rw [if_neg ct] at e6
          exact ⟨_, _, rfl, s5, _, e6, ml5⟩
      · rintro σ H4 ⟨v4, v5, rfl, s4, m4, hm4, ml4⟩
        rw [List.length_map, List.take_length, e2] at hm4
        cases hm4
        exact ⟨_, _, _, _, rfl, s4, _, e3, ml4⟩
    · rintro σ H2 ⟨v2, v3, v4, v5, rfl, s2, m', hm', ps, hM, lp, pp⟩
      rw [ln, List.take_length, hm] at hm'
      cases hm'
      refine ⟨_, rfl, M, _, rfl, .inl ⟨SqL.of hM, fun t nt => ?_⟩⟩
      have u3 := same_upd (o := .tup (V.non :: ps.map V.ref)) nt
      exact k t _ (s2.trans u3) ⟨ps, SqT.of upd_same, lp, fun k a p h1 h2 => SqT.of (u3 _ _ (pp k a p h1 h2))⟩
end
end K69

set_option Elab.async false
set_option linter.all false
set_option maxRecDepth 100000
set_option maxHeartbeats 8000000
namespace K69
open PySem PySem.Spec PyProof.Rows L2 Lf
theorem sIx1 {n : Nat} : HT.sIx (n + 1) 0 (some 1) = 1 := by
  unfold HT.sIx
  simp
theorem cut1 {x : V} {r : List V} : cutV (x :: r) (some 1) none = r := by
  unfold cutV
  rw [List.length_cons, sIx1]
  simp [HT.sIx]
def spLeft (K : PySem.W.Frag) : Sp := fun vs H Q _ => ∃ r t rows m, vs = [.ref r, .ref t] ∧ RowsT K H r rows ∧ MadeT K H t m ∧ rows ≠ [] ∧ m.length ≤ 2000 ∧ (∀ (k : Nat) p, m[k]? = some p → p.1 < k + 1 ∧ ∀ row ∈ rows, p.2 < row.length) ∧
  (∀ (i k : Nat) l, (Mon.leftTab rows (m.take i))[k]? = some l → l.length ≤ 2000 ∧ ∀ x ∈ l, x < rows.length) ∧ ∀ q H', Same H H' → RowsT K H' q (Mon.leftTab rows m) → Q (.ref q) H'
abbrev teLeft (K : PySem.W.Frag) : TE := tOp (rIxT K) (tOp (rIxT K) (tVar 0) (tVar 5)) (tVar 4)
/-- rows[x][c] -/
theorem ix2 {K : PySem.W.Frag} {H : Hp} {r : Addr} {as : List Addr} {rows : List (List Nat)} (sr : SqT K H r (as.map V.ref)) (la : as.length = rows.length) (srow : ∀ (i : Nat) a row, as[i]? = some a → rows[i]? = some row → SqT K H a (row.map nv)) {x c : Nat} (hx : x < rows.length) (hc : ∀ row ∈ rows, c < row.length) {Q : VK}
    (k : Q (nv ((rows.getD x []).getD c 0)) H) : rIxT K (.ref r) (nv x) H fun y H' => rIxT K y (nv c) H' Q := by
  obtain ⟨a, ha⟩ := lt_get (show x < as.length by omega)
  obtain ⟨row, hrow⟩ := lt_get hx
  obtain ⟨t, ht⟩ := lt_get (hc row (List.mem_of_getElem? hrow))
  rw [Mon.getD_of hrow, Mon.getD_of ht] at k
  exact ⟨r, as.map V.ref, _, .ref a, rfl, rfl, sr, atI_nat (get_map ha), a, row.map nv, _, nv t, rfl, rfl, srow x a row ha hrow, atI_nat (get_map ht), k⟩
section
variable {P : Program} {w : World} {K : PySem.W.Frag} {mg : Str → Option Value} {base : Heap}
theorem scLeft : FnScope ["right", "made", "table", "before", "letter", "number"] ["right", "made"] (defScope s_left_table) := ⟨rfl, rfl, rfl, by decide +kernel, rfl, by decide +kernel, by decide +kernel⟩
theorem ok_left {f : Addr} {fd : FuncData} {q : Str} (F : FunD K "_left_table" q (defArgs s_left_table) (defBody s_left_table) (defScope s_left_table) [] [] f fd) (T : Txt P w K mg base) :
    FnOk P w K mg base CX0 1 f fd ["right", "made"] (spLeft K) := by
  have zt : mg "tuple" = none := T.fr 66 "tuple" rfl
  refine F.ok scLeft (fun vs H Q E h => ?_) (fun cdv A outer s H vs Q E hr h => ?_)
  · obtain ⟨r, t, rows, m, rfl, _⟩ := h
    rfl
  · obtain ⟨r, t, rows, m, rfl, R, M, ne, lm, hm, hL, k⟩ := h
    refine ⟨_, PSs.nox (pss_cons (ps_set (i := 2) scLeft.nd rfl (.inl rfl) (pe_lst (pa_cons (pe_ix ix_tup (pv 0) pe_int (fun _ _ => rfl)) pa_nil)))
      (pss_cons (ps_for PassesOwn.never rfl (pi_tup (pe_slice sl_tup (pv 1) (po_some pe_int) po_none)) (pg_tup rfl (pgs_cons (pg_name (i := 3) scLeft.nd rfl (.inl rfl)) (pgs_cons (pg_name (i := 4) scLeft.nd rfl (.inr rfl)) pgs_nil)))
        (pss_one (ps_expr (pe_bm PySem.F.plainAttrs_list PySem.F.slot_list_append PySem.F.type_list_append mt_append (pv 2) (pa_cons (pe_callTy call_tuple_of rfl zt PyProof.Rows.boot_tuple
          (pa_cons (pe_lc (own := [("number", 5)]) (g := gName 5) (te := teLeft K) (by rfl) scLeft.nd (pi_tup (pe_ix ix_list (pv 2) (pv 3) (fun _ _ => rfl))) (blkOk_by (own := [("number", 5)]) (N := ["right", "made", "table", "before", "letter", "number"]) (sc := defScope s_left_table) (by decide +kernel)) (fun _ _ _ _ _ => pg_name (i := 5) scLeft.nd rfl (Or.inl rfl)) (fun _ _ _ _ _ => pts_nil)
            (fun _ _ _ _ _ => by exact pe_ix ix_tup (pe_ix ix_tup (pv 0) (pv 5) (fun _ _ => rfl)) (pv 4) (fun _ _ => rfl))) pa_nil)) pa_nil)))))
      (pss_one (ps_ret (pe_callTy call_tuple_of rfl zt PyProof.Rows.boot_tuple (pa_cons (pv 2) pa_nil)))))), ?_⟩
    obtain ⟨as, sr, la, srow⟩ := R.ex
    obtain ⟨ps, sm, lp, sp⟩ := M.ex
    have n0 : 0 < rows.length := List.length_pos_iff.mpr ne
    obtain ⟨a0, ha0⟩ := lt_get (show 0 < as.length by omega)
    obtain ⟨row0, hrow0⟩ := lt_get n0
    refine ⟨_, rfl, r, as.map V.ref, 0, .ref a0, rfl, rfl, sr, atI_nat (j := 0) (get_map ha0), (by show 1 ≤ sizeLine; decide), fun B nB => ?_⟩
    have s1 := same_upd (o := .lst [V.ref a0]) nB
    have hB1 : L2.upd H B (.lst [V.ref a0]) B = some (.lst ([a0].map V.ref)) := upd_same
    generalize L2.upd H B (.lst [V.ref a0]) = H1 at s1 hB1 ⊢
    refine ⟨_, rfl, 1, rfl, t, _, rfl, Lf.SqT.same s1 sm, ?_, fun S nS => ⟨S, rfl, ⟨_, SqT.of upd_same⟩, ?_⟩⟩
    · rw [List.length_cons, sIx1]
      rintro ⟨z, _⟩
      exact absurd z (by decide)
    rw [cut1]
    have u2 := same_upd (o := .tup (ps.map V.ref)) nS
    have hS : L2.upd H1 S (.tup (ps.map V.ref)) S = some (.tup (ps.map V.ref)) := upd_same
    have s2 := s1.trans u2
    have hB2 := u2 _ _ hB1
    have nSB : S ≠ B := fun z => by rw [z, hB1] at nS; cases nS
    generalize L2.upd H1 S (.tup (ps.map V.ref)) = H2 at s2 hS hB2 ⊢
    clear u2 s1 hB1 nS
    have lps : (ps.map V.ref).length = m.length := by rw [List.length_map, lp]
    refine for_tup (K := K) (a := S) (xs := ps.map V.ref) (fun i σ Hn => ∃ v3 v4 : Option V, σ = [some (.ref r), some (.ref t), some (.ref B), v3, v4, none] ∧ Same H Hn ∧ Hn S = some (.tup (ps.map V.ref)) ∧ ∃ bs : List Addr, Hn B = some (.lst (bs.map V.ref)) ∧ bs.length = (Mon.leftTab rows (m.take i)).length ∧
        ∀ (j : Nat) b l, bs[j]? = some b → (Mon.leftTab rows (m.take i))[j]? = some l → SqT K H b (l.map nv) ∨ Hn b = some (.tup (l.map nv)))
      ⟨none, none, rfl, s2, hS, [a0], hB2, rfl, fun j b l h1 h2 => ?_⟩ (fun i σ Hn _ ⟨_, _, _, _, h, _⟩ => SqT.of h) (fun i x σ Hn hx ⟨v3, v4, eσ, sn, hSn, bs, hBn, lb, pb⟩ => ?_) (fun σ Hn ⟨v3, v4, eσ, sn, hSn, bs, hBn, lb, pb⟩ => ?_)
    · cases j with
      | zero =>
        cases h1
        have e : row0 = l := by
          have : Mon.leftTab rows (m.take 0) = [rows.getD 0 []] := rfl
          rw [this, Mon.getD_of hrow0] at h2
          exact Option.some.inj h2
        rw [← e]
        exact .inl (srow 0 a0 row0 ha0 hrow0)
      | succ j => simp at h1
    · subst eσ
      obtain ⟨pa, hpa, rfl⟩ := map_get hx
      obtain ⟨p, hp⟩ := lt_get (show i < m.length by have := get_lt hpa; omega)
      obtain ⟨b1, c1⟩ := hm i p hp
      have eL : Mon.leftTab rows (m.take (i + 1)) = Mon.leftStep rows (Mon.leftTab rows (m.take i)) p := by rw [(Mon.take_cons hp).2.1, Mon.left_snoc]
      have lL : (Mon.leftTab rows (m.take i)).length = i + 1 := by rw [Mon.left_len, (Mon.take_cons hp).2.2]
      obtain ⟨b, hb⟩ := lt_get (show p.1 < bs.length by omega)
      obtain ⟨l, hl⟩ := lt_get (show p.1 < (Mon.leftTab rows (m.take i)).length by omega)
      obtain ⟨ll, lx⟩ := hL i p.1 l hl
      have sb : SqT K Hn b (l.map nv) := by
        rcases pb _ b l hb hl with z | z
        · exact Lf.SqT.same sn z
        · exact SqT.of z
      refine ⟨pa, _, rfl, Lf.SqT.same sn (sp i pa p hpa hp), rfl, _, _, rfl, _, _, rfl, rfl, ?_⟩
      refine ⟨_, rfl, .inl ⟨rfl, _, SqL.of hBn⟩, _, rfl, _, rfl, B, bs.map V.ref, _, .ref b, rfl, rfl, SqL.of hBn, atI_nat (get_map hb), b, rfl, ⟨_, sb⟩, fun D nD => ?_⟩
      refine lc_tup (K := K) (a := b) (xs := l.map nv) (fun j Hc => But D Hn Hc ∧ Hc D = some (.lst ((l.take j).map fun x => nv ((rows.getD x []).getD p.2 0)))) ⟨But.upd, upd_same⟩ (fun j Hc _ ⟨bc, _⟩ => Lf.SqT.same (Same.but (L2.Same.refl _) nD bc) sb) (fun j z Hc hz ⟨bc, hD⟩ => ?_) (fun Hc ⟨bc, hD⟩ => ?_)
      · obtain ⟨x, hxx, rfl⟩ := map_get hz
        refine ⟨rfl, yesT ?_⟩
        have sc := sn.trans (Same.but (L2.Same.refl _) nD bc)
        have xl := lx x (List.mem_of_getElem? hxx)
        obtain ⟨a, ha⟩ := lt_get (show x < as.length by omega)
        obtain ⟨row, hrow⟩ := lt_get xl
        obtain ⟨e, he⟩ := lt_get (c1 row (List.mem_of_getElem? hrow))
        refine ⟨_, rfl, _, rfl, r, as.map V.ref, _, .ref a, rfl, rfl, Lf.SqT.same sc sr, atI_nat (get_map ha), _, rfl, a, row.map nv, _, nv e, rfl, rfl, Lf.SqT.same sc (srow x a row ha hrow), atI_nat (get_map he), ?_⟩
        refine ⟨_, hD, ?_, But.trans bc But.upd, ?_⟩
        · rw [List.length_map, List.length_take]
          have := get_lt hxx
          show min j l.length < 16777216
          omega
        · rw [upd_same, take_snoc hxx, List.map_append, List.map_cons, List.map_nil, Mon.getD_of hrow, Mon.getD_of he]
      · rw [List.length_map, List.take_length] at hD
        have sc := Same.but (L2.Same.refl _) nD bc
        refine ⟨D, _, rfl, .inl ⟨SqL.of hD, fun N nN => ?_⟩⟩
        have u3 := sc.trans (same_upd (o := .tup (l.map fun x => nv ((rows.getD x []).getD p.2 0))) nN)
        have hN : L2.upd Hc N (.tup (l.map fun x => nv ((rows.getD x []).getD p.2 0))) N = some (.tup (l.map fun x => nv ((rows.getD x []).getD p.2 0))) := upd_same
        generalize L2.upd Hc N (.tup (l.map fun x => nv ((rows.getD x []).getD p.2 0))) = H3 at u3 hN ⊢
        have hB3 := u3 _ _ hBn
        have nNB : N ≠ B := fun z => by rw [z, hB3] at hN; cases hN
        refine ⟨B, _, _, rfl, rfl, hB3, by rw [List.length_map, lb, lL]; have := get_lt hp; show i + 1 < 16777216; omega, _, _, rfl, fun c o e => ?_, by rw [upd_ne nSB]; exact u3 _ _ hSn, bs ++ [N], by rw [upd_same]; simp, by rw [eL, Mon.leftStep, List.length_append, List.length_append, lb]; rfl, fun j c l2 h1 h2 => ?_⟩
        · rw [upd_ne (ne_of_none e nB)]
          exact (sn.trans u3) _ _ e
        · rw [eL, Mon.leftStep] at h2
          by_cases hj : j < bs.length
          · rw [List.getElem?_append_left hj] at h1
            rw [List.getElem?_append_left (by omega)] at h2
            rcases pb j c l2 h1 h2 with z | z
            · exact .inl z
            · have z3 := u3 _ _ z
              exact .inr (by rw [upd_ne (fun y => by rw [y, hB3] at z3; cases z3)]; exact z3)
          · have hj2 : j = bs.length := by
              have := get_lt h1
              rw [List.length_append, List.length_singleton] at this
              omega
            rw [hj2, List.getElem?_append_right (Nat.le_refl _), Nat.sub_self] at h1
            rw [hj2, lb, List.getElem?_append_right (Nat.le_refl _), Nat.sub_self] at h2
            cases h1
            cases h2
            refine .inr ?_
            rw [upd_ne nNB, hN, Mon.getD_of hl, List.map_map]
            rfl
    · subst eσ
      rw [lps, List.take_length] at lb pb
      refine ⟨_, rfl, B, _, rfl, .inl ⟨SqL.of hBn, fun N nN => ?_⟩⟩
      have u3 := same_upd (o := .tup (bs.map V.ref)) nN
      exact k N _ (sn.trans u3) ⟨bs, SqT.of upd_same, lb, fun j b l h1 h2 => (pb j b l h1 h2).elim (fun z => Lf.SqT.same (sn.trans u3) z) fun z => SqT.of (u3 _ _ z)⟩
end
end K69

set_option Elab.async false
set_option linter.all false
set_option maxRecDepth 100000
set_option maxHeartbeats 8000000
namespace K69
open PySem PySem.Spec PyProof.Rows L2 Lf
/-- a tuple of numbers as data -/
abbrev nd (l : List Nat) : PyData := .tuple (l.map fun i => .int (i : Nat))
theorem nd_all {K : PySem.W.Frag} {H : Hp} : ∀ {l : List Nat}, DpAll K H (l.map nv) (l.map fun i => PyData.int (i : Nat))
  | [] => .nil
  | i :: r => .cons (.int _) (nd_all (l := r))
theorem nd_shape (l : List Nat) : SeqAt.shaped (nd l) = true := by
  have all : ∀ l : List Nat, PyData.canLayAll0 (l.map fun i => PyData.int (i : Nat)) = true ∧ PyData.depthAll (l.map fun i => PyData.int (i : Nat)) = 0 := by
    intro l
    induction l with
    | nil => simp [PyData.canLayAll0, PyData.depthAll]
    | cons i r ih => simp [PyData.canLayAll0, PyData.depthAll, PyData.canLay0, PyData.depth, ih.1, ih.2]
  unfold SeqAt.shaped
  simp [PyData.canLay0, PyData.depth, (all l).1, (all l).2]
/-- tuples of the same numbers are not unlike -/
theorem nd_ne {K : PySem.W.Frag} {H : Hp} {a b : Addr} {l : List Nat} {Q : VK} (qa : SqT K H a (l.map nv)) (qb : SqT K H b (l.map nv)) (k : Q (.bl false) H) : rNeD K (.ref a) (.ref b) H Q := by
  refine ⟨_, _, .tup qa nd_all, .tup qb nd_all, nd_shape l, nd_shape l, ?_⟩
  rw [eqv_same (nd_shape l)]
  exact k
def spProds (K : PySem.W.Frag) : Sp := fun vs H Q _ => ∃ r q rows L, vs = [.ref r, .ref q] ∧ RowsT K H r rows ∧ RowsT K H q L ∧ L.length = rows.length ∧
  (∀ (i : Nat) row (c t : Nat) li, rows[i]? = some row → row[c]? = some t → L[i]? = some li → (∀ row' ∈ rows, c < row'.length) ∧ li.length ≤ 2000 ∧ (∀ x ∈ li, x < rows.length) ∧ t < rows.length ∧ L[t]? = some (li.map fun x => (rows.getD x []).getD c 0)) ∧ ∀ H', Same H H' → Q .non H'
abbrev teProd (K : PySem.W.Frag) : TE := tOp (rIxT K) (tOp (rIxT K) (tVar 0) (tVar 6)) (tVar 4)
section
variable {P : Program} {w : World} {K : PySem.W.Frag} {mg : Str → Option Value} {base : Heap}
theorem scProds : FnScope ["right", "left", "number", "row", "letter", "reached", "begun"] ["right", "left"] (defScope s_check_products) := ⟨rfl, rfl, rfl, by decide +kernel, rfl, by decide +kernel, by decide +kernel⟩
theorem ok_prods {f : Addr} {fd : FuncData} {q : Str} (F : FunD K "_check_products" q (defArgs s_check_products) (defBody s_check_products) (defScope s_check_products) [] [] f fd) (T : Txt P w K mg base) :
    FnOk P w K mg base CX0 1 f fd ["right", "left"] (spProds K) := by
  have zE : mg "enumerate" = none := T.fr 56 "enumerate" rfl
  have zt : mg "tuple" = none := T.fr 66 "tuple" rfl
  refine F.ok scProds (fun vs H Q E h => ?_) (fun cdv A outer s H vs Q E hr h => ?_)
  · obtain ⟨r, q, rows, L, rfl, _⟩ := h
    rfl
  · obtain ⟨r, q, rows, L, rfl, R, RL, eL, ok, k⟩ := h
    refine ⟨_, PSs.nox (pss_one (ps_for PassesOwn.never rfl (pi_enumA rfl zE (pv 0)) (pg_tup rfl (pgs_cons (pg_name (i := 2) scProds.nd rfl (.inl rfl)) (pgs_cons (pg_name (i := 3) scProds.nd rfl (.inl rfl)) pgs_nil)))
      (pss_one (ps_for PassesOwn.never rfl (pi_enumA rfl zE (pv 3)) (pg_tup rfl (pgs_cons (pg_name (i := 4) scProds.nd rfl (.inr rfl)) (pgs_cons (pg_name (i := 5) scProds.nd rfl (.inl rfl)) pgs_nil)))
        (pss_one (ps_if (pt_cmpR (op_neD hr.units) (pe_ix ix_tup (pv 1) (pv 5) (fun _ _ => rfl)) (pe_callTy call_tuple_of rfl zt PyProof.Rows.boot_tuple
          (pa_cons (pe_lc (own := [("begun", 6)]) (g := gName 6) (te := teProd K) (by rfl) scProds.nd (pi_tup (pe_ix ix_tup (pv 1) (pv 2) (fun _ _ => rfl))) (blkOk_by (own := [("begun", 6)]) (N := ["right", "left", "number", "row", "letter", "reached", "begun"]) (sc := defScope s_check_products) (by decide +kernel)) (fun _ _ _ _ _ => pg_name (i := 6) scProds.nd rfl (Or.inl rfl)) (fun _ _ _ _ _ => pts_nil)
            (fun _ _ _ _ _ => by exact pe_ix ix_tup (pe_ix ix_tup (pv 0) (pv 6) (fun _ _ => rfl)) (pv 4) (fun _ _ => rfl))) pa_nil)) (nomark _)) (pss_one ps_never) pss_nil)))))), ?_⟩
    obtain ⟨as, sr, la, srow⟩ := R.ex
    obtain ⟨bs, sq, lb, sl⟩ := RL.ex
    have ln : (as.map V.ref).length = rows.length := by rw [List.length_map, la]
    refine ⟨_, rfl, r, as.map V.ref, rfl, .inr ⟨sr, ?_⟩⟩
    have wk : Walk (Itet K r) (as.map V.ref).length (fun H2 => Same H H2) (fun i H v H' => ∃ T x, v = .ref T ∧ H T = none ∧ H' = L2.upd H T (.tup [.int (i : Nat), x]) ∧ (as.map V.ref)[i]? = some x) := (walk_enumT (xs := as.map V.ref)).mono (fun H s => Lf.SqT.same s sr) (fun i H x H' _ _ y => y)
    refine for_it wk (fun i σ H2 => ∃ v2 v3 v4 v5 : Option V, σ = [some (.ref r), some (.ref q), v2, v3, v4, v5, none] ∧ Same H H2) ⟨none, none, none, none, rfl, L2.Same.refl _⟩ (fun i σ H2 _ ⟨_, _, _, _, _, s⟩ => s) ?_ ?_
    · rintro i x σ H2 H3 hi ⟨v2, v3, v4, v5, rfl, s2⟩ ⟨T', y, rfl, nT, rfl, hy⟩
      obtain ⟨a, ha, rfl⟩ := map_get hy
      have hi2 : i < rows.length := by rw [← ln]; exact hi
      obtain ⟨row, hrow⟩ := lt_get hi2
      have sa := srow i a row ha hrow
      refine ⟨T', _, rfl, SqT.of upd_same, rfl, _, _, rfl, _, _, rfl, rfl, ?_⟩
      have s3 := s2.trans (same_upd (o := .tup [.int (i : Nat), .ref a]) nT)
      generalize L2.upd H2 T' (.tup [.int (i : Nat), .ref a]) = H3 at s3 ⊢
      refine ⟨_, rfl, a, row.map nv, rfl, .inr ⟨Lf.SqT.same s3 sa, ?_⟩⟩
      have wk2 : Walk (Itet K a) (row.map nv).length (fun H2 => Same H H2) (fun i H v H' => ∃ T x, v = .ref T ∧ H T = none ∧ H' = L2.upd H T (.tup [.int (i : Nat), x]) ∧ (row.map nv)[i]? = some x) := (walk_enumT (xs := row.map nv)).mono (fun H s => Lf.SqT.same s sa) (fun i H x H' _ _ y => y)
      refine for_it wk2 (fun j σ H4 => ∃ v4 v5 : Option V, σ = [some (.ref r), some (.ref q), some (nv i), some (.ref a), v4, v5, none] ∧ Same H H4) ⟨_, _, rfl, s3⟩ (fun j σ H4 _ ⟨_, _, _, s⟩ => s) ?_ ?_
      · rintro c x σ H4 H5 hj ⟨v4, v5, rfl, s4⟩ ⟨T2, y, rfl, nT2, rfl, hy2⟩
        obtain ⟨t, ht, rfl⟩ := map_get hy2
        obtain ⟨li, hli⟩ := lt_get (show i < L.length by omega)
        obtain ⟨cw, l2, lx, tl, hlt⟩ := ok i row c t li hrow ht hli
        obtain ⟨bt, hbt⟩ := lt_get (show t < bs.length by omega)
        obtain ⟨bi, hbi⟩ := lt_get (show i < bs.length by omega)
        refine ⟨T2, _, rfl, SqT.of upd_same, rfl, _, _, rfl, _, _, rfl, rfl, ?_⟩
        have s5 := s4.trans (same_upd (o := .tup [.int (c : Nat), nv t]) nT2)
        generalize L2.upd H4 T2 (.tup [.int (c : Nat), nv t]) = H5 at s5 ⊢
        have sb := Lf.SqT.same s5 (sl i bi li hbi hli)
        refine ⟨_, rfl, _, rfl, q, bs.map V.ref, _, .ref bt, rfl, rfl, Lf.SqT.same s5 sq, atI_nat (get_map hbt), ?_⟩
        refine ⟨_, rfl, _, rfl, q, bs.map V.ref, _, .ref bi, rfl, rfl, Lf.SqT.same s5 sq, atI_nat (get_map hbi), bi, rfl, ⟨_, sb⟩, fun D nD => ?_⟩
        refine lc_tup (K := K) (a := bi) (xs := li.map nv) (fun j Hc => But D H5 Hc ∧ Hc D = some (.lst ((li.take j).map fun x => nv ((rows.getD x []).getD c 0)))) ⟨But.upd, upd_same⟩ (fun j Hc _ ⟨bc, _⟩ => Lf.SqT.same (Same.but (L2.Same.refl _) nD bc) sb) (fun j z Hc hz ⟨bc, hD⟩ => ?_) (fun Hc ⟨bc, hD⟩ => ?_)
        · obtain ⟨x, hxx, rfl⟩ := map_get hz
          refine ⟨rfl, yesT ?_⟩
          have sc := s5.trans (Same.but (L2.Same.refl _) nD bc)
          have xl := lx x (List.mem_of_getElem? hxx)
          obtain ⟨a', ha'⟩ := lt_get (show x < as.length by omega)
          obtain ⟨row', hrow'⟩ := lt_get xl
          obtain ⟨e, he⟩ := lt_get (cw row' (List.mem_of_getElem? hrow'))
          refine ⟨_, rfl, _, rfl, r, as.map V.ref, _, .ref a', rfl, rfl, Lf.SqT.same sc sr, atI_nat (get_map ha'), _, rfl, a', row'.map nv, _, nv e, rfl, rfl, Lf.SqT.same sc (srow x a' row' ha' hrow'), atI_nat (get_map he), ?_⟩
          refine ⟨_, hD, ?_, But.trans bc But.upd, ?_⟩
          · rw [List.length_map, List.length_take]
            have := get_lt hxx
            show min j li.length < 16777216
            omega
          · rw [upd_same, take_snoc hxx, List.map_append, List.map_cons, List.map_nil, Mon.getD_of hrow', Mon.getD_of he]
        · rw [List.length_map, List.take_length] at hD
          have sc := Same.but (L2.Same.refl _) nD bc
          refine ⟨D, _, rfl, .inl ⟨SqL.of hD, fun N nN => ?_⟩⟩
          have u6 := sc.trans (same_upd (o := .tup (li.map fun x => nv ((rows.getD x []).getD c 0))) nN)
          have s6 := s5.trans u6
          have e6 : (li.map fun x => nv ((rows.getD x []).getD c 0)) = (li.map fun x => (rows.getD x []).getD c 0).map nv := by rw [List.map_map]; rfl
          refine nd_ne (l := li.map fun x => (rows.getD x []).getD c 0) (Lf.SqT.same s6 (sl t bt _ hbt hlt)) (SqT.of (by rw [upd_same, e6])) ⟨_, rfl, ?_⟩
          exact ifF rfl ⟨_, _, rfl, s6⟩
      · rintro σ H4 ⟨v4, v5, rfl, s4⟩
        exact ⟨_, _, _, _, rfl, s4⟩
    · rintro σ H2 ⟨v2, v3, v4, v5, rfl, s2⟩
      exact k _ s2
end
end K69

set_option Elab.async false
set_option linter.all false
set_option maxRecDepth 100000
set_option maxHeartbeats 8000000
namespace K69
open PySem PySem.Spec PyProof.Rows L2 Lf
theorem SqT.but {K : PySem.W.Frag} {H H' : Hp} {p a C dx : Addr} {fs : List (Str × V)} {xs : List V} (hp : H p = some (.ins C dx fs)) (b : But p H H') (h : SqT K H a xs) : SqT K H' a xs := by
  rcases h with (h | ⟨o, h⟩) | h
  · exact .inl (.inl (b _ _ (fun z => by rw [z, hp] at h; cases h) h))
  · exact .inl (.inr ⟨o, b _ _ (fun z => by rw [z, hp] at h; cases h) h⟩)
  · exact .inr h
theorem RowsT.but {K : PySem.W.Frag} {H H' : Hp} {p r C dx : Addr} {fs : List (Str × V)} {rows : List (List Nat)} (hp : H p = some (.ins C dx fs)) (b : But p H H') (h : RowsT K H r rows) : RowsT K H' r rows := by
  obtain ⟨as, h1, h2, h3⟩ := h.ex
  exact ⟨as, SqT.but hp b h1, h2, fun i x row g1 g2 => SqT.but hp b (h3 i x row g1 g2)⟩
theorem MadeT.but {K : PySem.W.Frag} {H H' : Hp} {p r C dx : Addr} {fs : List (Str × V)} {m : List (Nat × Nat)} (hp : H p = some (.ins C dx fs)) (b : But p H H') (h : MadeT K H r m) : MadeT K H' r m := by
  obtain ⟨as, h1, h2, h3⟩ := h.ex
  exact ⟨as, SqT.but hp b h1, h2, fun i x row g1 g2 => SqT.but hp b (h3 i x row g1 g2)⟩
/-- a table that the constructor takes -/
structure Accept (rows : List (List Nat)) (wd : Nat) (m : List (Nat × Nat)) : Prop where
  form : Form rows wd
  made : Mon.madeTab 0 rows [] = some m
  len : m.length + 1 = rows.length
  left : ∀ (i k : Nat) l, (Mon.leftTab rows (m.take i))[k]? = some l → l.length = wd ∧ ∀ x ∈ l, x < rows.length
  prod : ∀ (i : Nat) row (c t : Nat) li lt, rows[i]? = some row → row[c]? = some t → (Mon.leftTab rows m)[i]? = some li → (Mon.leftTab rows m)[t]? = some lt → lt = li.map fun x => (rows.getD x []).getD c 0
theorem accept_of {n : Nat} {gens found rows : List (List Nat)} {m : List (Nat × Nat)} (T : Mon.Tab n gens found rows) (g1 : gens ≠ []) (g6 : gens.length ≤ 6) (f2 : found.length ≤ 2000) (hm : Mon.madeTab 0 rows [] = some m) (lm : m.length + 1 = rows.length) : Accept rows gens.length m := by
  have mk : ∀ (i k : Nat) p, (m.take i)[k]? = some p → p.1 < k + 1 ∧ ∃ row, rows[p.1]? = some row ∧ row[p.2]? = some (k + 1) := fun i k p h => by
    rw [List.getElem?_take] at h
    split at h
    · exact Mon.madeTab_lt hm h
    · cases h
  have lo : ∀ (i k : Nat) l, (Mon.leftTab rows (m.take i))[k]? = some l → Mon.LeftOk gens found k l := fun i => Mon.left_ok T g1 (m.take i) (mk i)
  have lm' : ∀ (k : Nat) l, (Mon.leftTab rows m)[k]? = some l → Mon.LeftOk gens found k l := fun k l h => lo m.length k l (by rw [List.take_length]; exact h)
  refine ⟨⟨?_, ?_, List.length_pos_iff.mpr g1, g6, fun row hr => ?_⟩, hm, lm, fun i k l h => ?_, fun i row c t li lt h1 h2 h3 h4 => Mon.prod_ok T g1 lm' h1 h2 h3 h4⟩
  · omega
  · rw [T.len]; exact f2
  · obtain ⟨i, hi⟩ := List.getElem?_of_mem hr
    refine ⟨T.wid i row hi, fun t ht => ?_⟩
    obtain ⟨c, hc⟩ := List.getElem?_of_mem ht
    obtain ⟨x, g, _, _, h3⟩ := T.ent i row hi c t hc
    rw [T.len]
    exact (List.getElem?_eq_some_iff.mp h3).1
  · obtain ⟨a, b⟩ := lo i k l h
    refine ⟨a, fun x hx => ?_⟩
    obtain ⟨c, hc⟩ := List.getElem?_of_mem hx
    obtain ⟨_, _, _, _, h3⟩ := b c x hc
    rw [T.len]
    exact (List.getElem?_eq_some_iff.mp h3).1
/-- a Monoid -/
structure Mo (K : PySem.W.Frag) (H : Hp) (x : Addr) (rows : List (List Nat)) (m : List (Nat × Nat)) : Prop where
  ex : ∃ dx t u v, H x = some (.ins (He.ga K "Monoid") dx [("right", .ref t), ("_made", .ref u), ("_left", .ref v)]) ∧ RowsT K H t rows ∧ MadeT K H u m ∧ RowsT K H v (Mon.leftTab rows m)
theorem Mo.same {K : PySem.W.Frag} {H H' : Hp} {x : Addr} {rows : List (List Nat)} {m : List (Nat × Nat)} (h : Mo K H x rows m) (e : Same H H') : Mo K H' x rows m := by
  obtain ⟨dx, t, u, v, a, b, c, d⟩ := h.ex
  exact ⟨dx, t, u, v, e _ _ a, b.same e, c.same e, d.same e⟩
def spMon (K : PySem.W.Frag) : Sp := fun vs H Q _ => ∃ p r dx rows wd m, vs = [.ref p, .ref r] ∧ H p = some (.ins (He.ga K "Monoid") dx []) ∧ RowsL K H r rows ∧ Accept rows wd m ∧ ∀ H', But p H H' → Mo K H' p rows m → Q .non H'
abbrev rTup (K : PySem.W.Frag) : List V → Hp → VK → Prop := fun xs H Q => ∃ p ys, xs = [V.ref p] ∧ ((SqL K H p ys ∧ ∀ (l : Addr), H l = none → Q (V.ref l) (L2.upd H l (HO.tup ys))) ∨ SqT K H p ys ∧ Q (V.ref p) H)
section
variable {P : Program} {w : World} {K : PySem.W.Frag} {mg : Str → Option Value} {base : Heap}
theorem scMon : FnScope ["self", "right", "row"] ["self", "right"] (defScope s_Monoid_init) := ⟨rfl, rfl, rfl, by decide +kernel, rfl, by decide +kernel, by decide +kernel⟩
theorem ok_mon {f : Addr} {fd : FuncData} {q : Str} (F : FunD K "__init__" q (defArgs s_Monoid_init) (defBody s_Monoid_init) (defScope s_Monoid_init) [] [] f fd) (T : Txt P w K mg base)
    (DF : Def P w K mg base CX0 3 "_check_form" ["right"] (spForm K)) (DM : Def P w K mg base CX0 1 "_made_by" ["right"] (spMade K)) (DL : Def P w K mg base CX0 1 "_left_table" ["right", "made"] (spLeft K)) (DP : Def P w K mg base CX0 1 "_check_products" ["right", "left"] (spProds K)) :
    FnOk P w K mg base CX0 4 f fd ["self", "right"] (spMon K) := by
  have zt : mg "tuple" = none := T.fr 66 "tuple" rfl
  have cl : L2.Cls K (He.ga K "Monoid") := He.cls_ok (T.d.fact 67 (f := .cls "Monoid") rfl)
  have n1 : NoAttr K (He.ga K "Monoid") "right" := He.noat_ok (T.d.fact 75 (f := .noat "Monoid" "right") rfl)
  have n2 : NoAttr K (He.ga K "Monoid") "_made" := He.noat_ok (T.d.fact 76 (f := .noat "Monoid" "_made") rfl)
  have n3 : NoAttr K (He.ga K "Monoid") "_left" := He.noat_ok (T.d.fact 77 (f := .noat "Monoid" "_left") rfl)
  refine F.ok scMon (fun vs H Q E h => ?_) (fun cdv A outer s H vs Q E hr h => ?_)
  · obtain ⟨p, r, dx, rows, wd, m, rfl, _⟩ := h
    rfl
  · obtain ⟨p, r, dx, rows, wd, m, rfl, hp, R, AC, k⟩ := h
    have r1 : Room 1 _ := hr.mono (by decide)
    refine ⟨_, PSs.nox (pss_cons (ps_expr (pe_def DF hr pass0 rfl (pa_cons (pv 1) pa_nil)))
      (pss_cons (ps_fld (pv 0) (pe_callTy call_tuple_of rfl zt PyProof.Rows.boot_tuple (pa_cons (pe_lc (own := [("row", 2)]) (g := gName 2) (te := tCB (rTup K) (tCons (tVar 2) tNil)) (by rfl) scMon.nd (pi_list (pv 1)) (blkOk_by (own := [("row", 2)]) (N := ["self", "right", "row"]) (sc := defScope s_Monoid_init) (by decide +kernel)) (fun _ _ _ _ _ => pg_name (i := 2) scMon.nd rfl (Or.inl rfl)) (fun _ _ _ _ _ => pts_nil)
        (fun _ _ _ _ _ => by exact pe_callTy call_tuple_of rfl zt PyProof.Rows.boot_tuple (pa_cons (pv 2) pa_nil))) pa_nil)) rfl)
      (pss_cons (ps_fld (pv 0) (pe_def DM r1 pass0 rfl (pa_cons (pe_fld (pv 0) rfl) pa_nil)) rfl)
      (pss_cons (ps_fld (pv 0) (pe_def DL r1 pass0 rfl (pa_cons (pe_fld (pv 0) rfl) (pa_cons (pe_fld (pv 0) rfl) pa_nil))) rfl)
      (pss_one (ps_expr (pe_def DP r1 pass0 rfl (pa_cons (pe_fld (pv 0) rfl) (pa_cons (pe_fld (pv 0) rfl) pa_nil))))))))), ?_⟩
    obtain ⟨f1, f2, w1, w6, frow⟩ := AC.form
    refine ⟨_, rfl, r, rows, wd, rfl, R, AC.form, fun H1 s1 => ?_⟩
    obtain ⟨as, sr, la, srow⟩ := (R.same s1).ex
    have hp1 := s1 _ _ hp
    have ln : (as.map V.ref).length = rows.length := by rw [List.length_map, la]
    refine ⟨_, rfl, r, rfl, ⟨_, sr⟩, fun D nD => ?_⟩
    refine lc_list (K := K) (a := r) (xs := as.map V.ref) (fun i Hc => But D H1 Hc ∧ ∃ us : List Addr, us.length = i ∧ Hc D = some (.lst (us.map V.ref)) ∧ ∀ (j : Nat) u row, us[j]? = some u → rows[j]? = some row → Hc u = some (.tup (row.map nv))) ⟨But.upd, [], rfl, upd_same, fun j u row h => by simp at h⟩ (fun i Hc _ ⟨bc, _⟩ => L2.Same.seq (Same.but (L2.Same.refl _) nD bc) sr) (fun i z Hc hz ⟨bc, us, lu, hD, pu⟩ => ?_) (fun Hc ⟨bc, us, lu, hD, pu⟩ => ?_)
    · obtain ⟨a, ha, rfl⟩ := map_get hz
      obtain ⟨row, hrow⟩ := lt_get (show i < rows.length by have := get_lt ha; omega)
      have sc := Same.but (L2.Same.refl _) nD bc
      refine ⟨rfl, yesT ?_⟩
      refine ⟨_, rfl, a, row.map nv, rfl, .inl ⟨L2.Same.seq sc (srow i a row ha hrow), fun u nu => ?_⟩⟩
      have u2 := same_upd (o := .tup (row.map nv)) nu
      have hu : L2.upd Hc u (.tup (row.map nv)) u = some (.tup (row.map nv)) := upd_same
      generalize L2.upd Hc u (.tup (row.map nv)) = H2 at u2 hu ⊢
      have hD2 := u2 _ _ hD
      have nuD : u ≠ D := fun z => by rw [z, hD2] at hu; cases hu
      refine ⟨_, hD2, by rw [List.length_map, lu]; have := get_lt hrow; show i < 16777216; omega, But.trans (bc.trans (But.of u2)) But.upd, us ++ [u], by simp [lu], by rw [upd_same]; simp, fun j v rw' h1 h2 => ?_⟩
      by_cases hj : j < us.length
      · rw [List.getElem?_append_left hj] at h1
        have z := u2 _ _ (pu j v rw' h1 h2)
        rw [upd_ne (fun y => by rw [y, hD2] at z; cases z)]
        exact z
      · have hj2 : j = us.length := by
          have := get_lt h1
          rw [List.length_append, List.length_singleton] at this
          omega
        rw [hj2, List.getElem?_append_right (Nat.le_refl _), Nat.sub_self] at h1
        cases h1
        rw [hj2, lu, hrow] at h2
        cases h2
        rw [upd_ne nuD]
        exact hu
    · have sc := Same.but (L2.Same.refl _) nD bc
      refine ⟨D, _, rfl, .inl ⟨SqL.of hD, fun t nt => ?_⟩⟩
      have u2 := same_upd (o := .tup (us.map V.ref)) nt
      have s2 := sc.trans u2
      have Rt : RowsT K (L2.upd Hc t (.tup (us.map V.ref))) t rows := ⟨us, SqT.of upd_same, by rw [lu, ln], fun j u row h1 h2 => SqT.of (u2 _ _ (pu j u row h1 h2))⟩
      generalize L2.upd Hc t (.tup (us.map V.ref)) = H2 at s2 Rt ⊢
      have hp2 := s2 _ _ hp1
      have b0 : But p H H2 := But.of (s1.trans s2)
      clear u2 pu hD bc sc
      refine ⟨_, rfl, p, _, dx, [], rfl, hp2, cl, n1, (by show 0 < 1000; decide), ?_⟩
      have Rt3 : RowsT K (L2.upd H2 p (.ins (He.ga K "Monoid") dx [("right", V.ref t)])) t rows := RowsT.but hp2 But.upd Rt
      have b3 : But p H (L2.upd H2 p (.ins (He.ga K "Monoid") dx [("right", V.ref t)])) := b0.trans But.upd
      have hp3 : L2.upd H2 p (.ins (He.ga K "Monoid") dx [("right", V.ref t)]) p = some (.ins (He.ga K "Monoid") dx [("right", V.ref t)]) := upd_same
      show tSeq _ _ _ _ (L2.upd H2 p (.ins (He.ga K "Monoid") dx [("right", V.ref t)]))
      generalize L2.upd H2 p (.ins (He.ga K "Monoid") dx [("right", V.ref t)]) = H3 at Rt3 b3 hp3 ⊢
      clear Rt b0 hp2 s2 nt hp1 sr srow s1 R
      refine ⟨_, rfl, p, _, dx, _, _, rfl, hp3, cl, n1, rfl, t, rows, m, rfl, Rt3, AC.made, by have := AC.len; omega, fun u H4 s4 Mu => ?_⟩
      have hp4 := s4 _ _ hp3
      refine ⟨_, rfl, p, _, dx, _, rfl, hp4, cl, n2, (by show 1 < 1000; decide), ?_⟩
      have b4 : But p H (L2.upd H4 p (.ins (He.ga K "Monoid") dx [("right", V.ref t), ("_made", V.ref u)])) := (b3.trans (But.of s4)).trans But.upd
      have Rt5 : RowsT K (L2.upd H4 p (.ins (He.ga K "Monoid") dx [("right", V.ref t), ("_made", V.ref u)])) t rows := RowsT.but hp4 But.upd (Rt3.same s4)
      have Mu5 : MadeT K (L2.upd H4 p (.ins (He.ga K "Monoid") dx [("right", V.ref t), ("_made", V.ref u)])) u m := MadeT.but hp4 But.upd Mu
      have hp5 : L2.upd H4 p (.ins (He.ga K "Monoid") dx [("right", V.ref t), ("_made", V.ref u)]) p = some (.ins (He.ga K "Monoid") dx [("right", V.ref t), ("_made", V.ref u)]) := upd_same
      show tSeq _ _ _ _ (L2.upd H4 p (.ins (He.ga K "Monoid") dx [("right", V.ref t), ("_made", V.ref u)]))
      generalize L2.upd H4 p (.ins (He.ga K "Monoid") dx [("right", V.ref t), ("_made", V.ref u)]) = H5 at Rt5 Mu5 b4 hp5 ⊢
      clear Rt3 Mu s4 hp4 b3 hp3
      refine ⟨_, rfl, p, _, dx, _, _, rfl, hp5, cl, n1, rfl, _, rfl, p, _, dx, _, _, rfl, hp5, cl, n2, rfl, t, u, rows, m, rfl, Rt5, Mu5, List.ne_nil_of_length_pos (by omega), by have := AC.len; omega, fun k p hp => ?_, fun i k l h => ?_, fun v H6 s6 Lv => ?_⟩
      · obtain ⟨a, row, b, c⟩ := Mon.madeTab_lt AC.made hp
        refine ⟨a, fun row' h => ?_⟩
        have := get_lt c
        rw [(frow row (List.mem_of_getElem? b)).1] at this
        rw [(frow row' h).1]
        exact this
      · obtain ⟨a, b⟩ := AC.left i k l h
        exact ⟨by omega, b⟩
      have hp6 := s6 _ _ hp5
      refine ⟨_, rfl, p, _, dx, _, rfl, hp6, cl, n3, (by show 2 < 1000; decide), ?_⟩
      have b6 : But p H (L2.upd H6 p (.ins (He.ga K "Monoid") dx [("right", V.ref t), ("_made", V.ref u), ("_left", V.ref v)])) := (b4.trans (But.of s6)).trans But.upd
      have Rt7 : RowsT K (L2.upd H6 p (.ins (He.ga K "Monoid") dx [("right", V.ref t), ("_made", V.ref u), ("_left", V.ref v)])) t rows := RowsT.but hp6 But.upd (Rt5.same s6)
      have Mu7 : MadeT K (L2.upd H6 p (.ins (He.ga K "Monoid") dx [("right", V.ref t), ("_made", V.ref u), ("_left", V.ref v)])) u m := MadeT.but hp6 But.upd (Mu5.same s6)
      have Lv7 : RowsT K (L2.upd H6 p (.ins (He.ga K "Monoid") dx [("right", V.ref t), ("_made", V.ref u), ("_left", V.ref v)])) v (Mon.leftTab rows m) := RowsT.but hp6 But.upd Lv
      have hp7 : L2.upd H6 p (.ins (He.ga K "Monoid") dx [("right", V.ref t), ("_made", V.ref u), ("_left", V.ref v)]) p = some (.ins (He.ga K "Monoid") dx [("right", V.ref t), ("_made", V.ref u), ("_left", V.ref v)]) := upd_same
      show Ends.nx _ _ (L2.upd H6 p (.ins (He.ga K "Monoid") dx [("right", V.ref t), ("_made", V.ref u), ("_left", V.ref v)]))
      generalize L2.upd H6 p (.ins (He.ga K "Monoid") dx [("right", V.ref t), ("_made", V.ref u), ("_left", V.ref v)]) = H7 at Rt7 Mu7 Lv7 b6 hp7 ⊢
      have lL : (Mon.leftTab rows m).length = rows.length := by rw [Mon.left_len, AC.len]
      have left' : ∀ (k : Nat) l, (Mon.leftTab rows m)[k]? = some l → l.length = wd ∧ ∀ x ∈ l, x < rows.length := fun k l h => AC.left m.length k l (by rw [List.take_length]; exact h)
      refine ⟨_, rfl, p, _, dx, _, _, rfl, hp7, cl, n1, rfl, _, rfl, p, _, dx, _, _, rfl, hp7, cl, n3, rfl, t, v, rows, Mon.leftTab rows m, rfl, Rt7, Lv7, lL, fun i row c x li h1 h2 h3 => ?_, fun H8 s8 => ?_⟩
      · obtain ⟨fr, fx⟩ := frow row (List.mem_of_getElem? h1)
        obtain ⟨la', lb'⟩ := left' i li h3
        have hx := fx x (List.mem_of_getElem? h2)
        obtain ⟨lt, hlt⟩ := lt_get (show x < (Mon.leftTab rows m).length by omega)
        refine ⟨fun row' h => ?_, by omega, lb', hx, ?_⟩
        · have := get_lt h2
          rw [(frow row' h).1]
          omega
        · rw [hlt, AC.prod i row c x li lt h1 h2 h3 hlt]
      · exact k H8 (b6.trans (But.of s8)) ⟨dx, t, u, v, s8 _ _ hp7, Rt7.same s8, Mu7.same s8, Lv7.same s8⟩
end
end K69

set_option Elab.async false
set_option linter.all false
set_option maxRecDepth 100000
set_option maxHeartbeats 8000000
namespace K69
open PySem PySem.Spec PyProof.Rows L2 Lf
/-- a list of maps, as tuples -/
structure Maps (H : Hp) (p : Addr) (gens : List (List Nat)) : Prop where
  ex : ∃ as : List Addr, H p = some (.lst (as.map V.ref)) ∧ as.length = gens.length ∧ ∀ (i : Nat) a row, as[i]? = some a → gens[i]? = some row → H a = some (.tup (row.map nv))
theorem Maps.same {H H' : Hp} {p : Addr} {gens : List (List Nat)} (h : Maps H p gens) (e : Same H H') : Maps H' p gens := by
  obtain ⟨as, a, b, c⟩ := h.ex
  exact ⟨as, e _ _ a, b, fun i x row h1 h2 => e _ _ (c i x row h1 h2)⟩
theorem Maps.but {H H' : Hp} {l p : Addr} {a b c : Int} {gens : List (List Nat)} (hl : H l = some (.lst [.int a, .int b, .int c])) (h : Maps H p gens) (e : But l H H') : Maps H' p gens := by
  obtain ⟨as, h1, h2, h3⟩ := h.ex
  refine ⟨as, e _ _ (fun z => ?_) h1, h2, fun i x row g1 g2 => e _ _ (fun z => ?_) (h3 i x row g1 g2)⟩
  · rw [z, hl] at h1
    cases as with
    | nil => simp at h1
    | cons u r => simp at h1
  · have := h3 i x row g1 g2
    rw [z, hl] at this
    simp at this
theorem Src.un {H : Hp} {l : Addr} {n : Nat} (h : Src H l n) : ∃ a b c : Int, H l = some (.lst [.int a, .int b, .int c]) := by
  obtain ⟨a, b, c, e, _⟩ := h
  exact ⟨a, b, c, e⟩
theorem Src.ne {H : Hp} {l x : Addr} {n : Nat} (h : Src H l n) (nx : H x = none) : x ≠ l := fun z => by
  obtain ⟨a, b, c, e⟩ := h.un
  rw [← z, nx] at e
  cases e
theorem Src.upd {H : Hp} {l x : Addr} {n : Nat} {o : HO} (h : Src H l n) (nx : x ≠ l) : Src (L2.upd H x o) l n := by
  obtain ⟨a, b, c, e, r⟩ := h
  exact ⟨a, b, c, by rw [upd_ne nx.symm]; exact e, r⟩
end K69

set_option Elab.async false
set_option linter.all false
set_option maxRecDepth 100000
set_option maxHeartbeats 4000000
/-! Products of maps, found one by one: pure. -/
namespace Lf
open PySem PySem.Spec PyProof.Rows L2
/-- numbers as the key of a dict -/
def kt (x : List Nat) : List Key := x.map fun i => (Sum.inl ((i : Nat) : Int) : Key)
theorem kt_map {x : List Nat} : (kt x).map kV = x.map fun i => V.int (i : Nat) := by
  unfold kt
  rw [List.map_map]
  rfl
theorem kt_inj : ∀ {x y : List Nat}, kt x = kt y → x = y
  | [], [], _ => rfl
  | [], _ :: _, h => by simp [kt] at h
  | _ :: _, [], h => by simp [kt] at h
  | a :: r, b :: s, h => by
    unfold kt at h
    rw [List.map_cons, List.map_cons] at h
    injection h with h1 h2
    have e : ((a : Int)) = (b : Int) := Sum.inl.inj h1
    rw [show a = b by omega, kt_inj (x := r) (y := s) h2]
/-- a dict of numbers by their place -/
def dtabF : Nat → List (List Nat) → List (List Key × V)
  | _, [] => []
  | k, x :: r => (kt x, .int (k : Nat)) :: dtabF (k + 1) r
abbrev dtab (f : List (List Nat)) : List (List Key × V) := dtabF 0 f
theorem dtabF_len : ∀ {f : List (List Nat)} {k : Nat}, (dtabF k f).length = f.length
  | [], _ => rfl
  | x :: r, k => by rw [dtabF, List.length_cons, dtabF_len, List.length_cons]
theorem dtabF_snoc {x : List Nat} : ∀ {f : List (List Nat)} {k : Nat}, dtabF k (f ++ [x]) = dtabF k f ++ [(kt x, .int (k + f.length : Nat))]
  | [], k => rfl
  | y :: r, k => by
    rw [List.cons_append, dtabF, dtabF, dtabF_snoc, List.cons_append, List.length_cons, show k + 1 + r.length = k + (r.length + 1) by omega]
theorem dtabF_none {x : List Nat} : ∀ {f : List (List Nat)} {k : Nat}, x ∉ f → valV (dtabF k f) (kt x) = none
  | [], _, _ => rfl
  | y :: r, k, h => by
    have hy : ¬ kt y = kt x := fun z => h (by rw [kt_inj z]; exact List.mem_cons_self)
    rw [dtabF, valV_neg (p := (kt y, V.int (k : Nat))) hy]
    exact dtabF_none fun z => h (List.mem_cons_of_mem _ z)
theorem dtabF_some {x : List Nat} : ∀ {f : List (List Nat)} {k i : Nat}, f.Nodup → f[i]? = some x → valV (dtabF k f) (kt x) = some (.int (k + i : Nat))
  | [], _, _, _, h => by simp at h
  | y :: r, k, 0, _, h => by
    cases h
    rw [dtabF, valV_pos (p := (kt x, V.int (k : Nat))) rfl]
    rfl
  | y :: r, k, i + 1, nd, h => by
    have hm : r[i]? = some x := h
    obtain ⟨h1, h2⟩ := List.nodup_cons.mp nd
    have hy : ¬ kt y = kt x := fun z => h1 (by rw [kt_inj z]; exact List.mem_of_getElem? hm)
    rw [dtabF, valV_neg (p := (kt y, V.int (k : Nat))) hy, dtabF_some h2 hm, show k + 1 + i = k + (i + 1) by omega]
theorem dtab_put {x : List Nat} {f : List (List Nat)} (h : x ∉ f) : putK (dtab f) (kt x) (.int (f.length : Nat)) = dtab (f ++ [x]) := by
  rw [putK_new _ (dtabF_none h), dtab, dtabF_snoc, Nat.zero_add]
end Lf
namespace Mon
/-- the words of what was met -/
def wordStep (L : List (List Nat)) (p : Nat × Nat) : List (List Nat) := L ++ [L.getD p.1 [] ++ [p.2]]
def wordTab (m : List (Nat × Nat)) : List (List Nat) := m.foldl wordStep [[]]
theorem word_snoc {m : List (Nat × Nat)} {p : Nat × Nat} : wordTab (m ++ [p]) = wordStep (wordTab m) p := by
  unfold wordTab
  rw [List.foldl_append]
  rfl
theorem word_len : ∀ {m : List (Nat × Nat)}, (wordTab m).length = m.length + 1 := by
  intro m
  unfold wordTab
  suffices h : ∀ (m : List (Nat × Nat)) (L : List (List Nat)), (m.foldl wordStep L).length = L.length + m.length by
    rw [h]
    show 1 + m.length = _
    omega
  intro m
  induction m with
  | nil => intro L; rfl
  | cons p r ih =>
    intro L
    rw [List.foldl_cons, ih, wordStep, List.length_append, List.length_cons, List.length_cons, List.length_nil]
    omega
/-- the search at letter c of row i -/
structure Bfs (n : Nat) (gens : List (List Nat)) (i c : Nat) (found rows : List (List Nat)) (row : List Nat) (m : List (Nat × Nat)) : Prop where
  nd : found.Nodup
  val : ∀ x ∈ found, Valid n x
  gval : ∀ g ∈ gens, Valid n g
  head : found[0]? = some (idm n)
  len : rows.length = i
  wid : ∀ (j : Nat) r, rows[j]? = some r → r.length = gens.length
  ent : ∀ (j : Nat) r, rows[j]? = some r → ∀ (k t : Nat), r[k]? = some t → ∃ x g, found[j]? = some x ∧ gens[k]? = some g ∧ found[t]? = some (comp x g)
  rlen : row.length = c
  rent : ∀ (k t : Nat), row[k]? = some t → ∃ x g, found[i]? = some x ∧ gens[k]? = some g ∧ found[t]? = some (comp x g)
  made : ∃ m0, madeTab 0 rows [] = some m0 ∧ (c ≠ 0 → i < m0.length + 1) ∧ madeRow i 0 row m0 = some m
  mlen : m.length + 1 = found.length
  le : i ≤ found.length
theorem Bfs.few {n : Nat} {gens found rows : List (List Nat)} {i c : Nat} {row : List Nat} {m : List (Nat × Nat)} (B : Bfs n gens i c found rows row m) : found.length ≤ n ^ n := maps_few B.nd B.val
theorem Bfs.start {n : Nat} {gens : List (List Nat)} (gv : ∀ g ∈ gens, Valid n g) : Bfs n gens 0 0 [idm n] [] [] [] where
  nd := by simp
  val := fun x hx => by rw [List.mem_singleton.mp hx]; exact idm_valid
  gval := gv
  head := rfl
  len := rfl
  wid := fun j r h => by simp at h
  ent := fun j r h => by simp at h
  rlen := rfl
  rent := fun k t h => by simp at h
  made := ⟨[], rfl, fun z => (z rfl).elim, rfl⟩
  mlen := rfl
  le := Nat.zero_le _
theorem get_app {α : Type} {l : List α} {i : Nat} {x : α} (y : α) (h : l[i]? = some x) : (l ++ [y])[i]? = some x := by
  rw [List.getElem?_append_left (List.getElem?_eq_some_iff.mp h).1]
  exact h
theorem snoc_cases {α : Type} {l : List α} {j : Nat} {x y : α} (h : (l ++ [y])[j]? = some x) : l[j]? = some x ∨ j = l.length ∧ x = y := by
  by_cases hj : j < l.length
  · rw [List.getElem?_append_left hj] at h
    exact .inl h
  · have := (List.getElem?_eq_some_iff.mp h).1
    rw [List.length_append, List.length_singleton] at this
    have e : j = l.length := by omega
    subst e
    rw [List.getElem?_append_right (Nat.le_refl _), Nat.sub_self] at h
    exact .inr ⟨rfl, (Option.some.inj h).symm⟩
section
variable {n : Nat} {gens found rows : List (List Nat)} {i c : Nat} {row : List Nat} {m : List (Nat × Nat)}
/-- a product that was met before -/
theorem Bfs.old (B : Bfs n gens i c found rows row m) {x g : List Nat} {t : Nat} (hx : found[i]? = some x) (hg : gens[c]? = some g) (ht : found[t]? = some (comp x g)) : Bfs n gens i (c + 1) found rows (row ++ [t]) m := by
  obtain ⟨m0, a1, a2, a3⟩ := B.made
  have tl := (List.getElem?_eq_some_iff.mp ht).1
  have il := (List.getElem?_eq_some_iff.mp hx).1
  have ml := B.mlen
  refine { B with rlen := by rw [List.length_append, B.rlen]; rfl, rent := fun k u h => ?_, made := ⟨m0, a1, fun _ => ?_, ?_⟩ }
  · rcases snoc_cases h with h | ⟨rfl, rfl⟩
    · exact B.rent k u h
    · exact ⟨x, g, hx, by rw [B.rlen]; exact hg, ht⟩
  · by_cases hc : c = 0
    · subst hc
      have : row = [] := List.length_eq_zero_iff.mp B.rlen
      subst this
      have e : m0 = m := Option.some.inj a3
      subst e
      omega
    · exact a2 hc
  · rw [madeRow_snoc, a3, Option.bind_some, if_neg (by omega), if_neg (by omega)]
/-- a new one -/
theorem Bfs.new (B : Bfs n gens i c found rows row m) {x g : List Nat} (hx : found[i]? = some x) (hg : gens[c]? = some g) (hn : comp x g ∉ found) : Bfs n gens i (c + 1) (found ++ [comp x g]) rows (row ++ [found.length]) (m ++ [(i, c)]) := by
  obtain ⟨m0, a1, a2, a3⟩ := B.made
  have il := (List.getElem?_eq_some_iff.mp hx).1
  have ml := B.mlen
  refine ⟨?_, fun z hz => ?_, B.gval, get_app _ B.head, B.len, B.wid, fun j r hr k t ht => ?_, by rw [List.length_append, B.rlen]; rfl, fun k t h => ?_, ⟨m0, a1, fun _ => ?_, ?_⟩, by simp [ml], by rw [List.length_append]; omega⟩
  · rw [List.nodup_append]
    refine ⟨B.nd, by simp, fun a ha b hb e => ?_⟩
    rw [e, List.mem_singleton.mp hb] at ha
    exact hn ha
  · rcases List.mem_append.mp hz with h | h
    · exact B.val z h
    · rw [List.mem_singleton.mp h]
      exact comp_valid (B.val x (List.mem_of_getElem? hx)) (B.gval g (List.mem_of_getElem? hg))
  · obtain ⟨u, v, h1, h2, h3⟩ := B.ent j r hr k t ht
    exact ⟨u, v, get_app _ h1, h2, get_app _ h3⟩
  · rcases snoc_cases h with h | ⟨rfl, rfl⟩
    · obtain ⟨u, v, h1, h2, h3⟩ := B.rent k t h
      exact ⟨u, v, get_app _ h1, h2, get_app _ h3⟩
    · refine ⟨x, g, get_app _ hx, by rw [B.rlen]; exact hg, ?_⟩
      rw [List.getElem?_append_right (Nat.le_refl _), Nat.sub_self]
      rfl
  · by_cases hc : c = 0
    · subst hc
      have : row = [] := List.length_eq_zero_iff.mp B.rlen
      subst this
      have e : m0 = m := Option.some.inj a3
      subst e
      omega
    · exact a2 hc
  · rw [madeRow_snoc, a3, Option.bind_some, if_neg (by omega), if_pos ml.symm, Nat.zero_add, B.rlen]
/-- the end of a row -/
theorem Bfs.next (B : Bfs n gens i c found rows row m) (hc : c = gens.length) (c0 : c ≠ 0) {x : List Nat} (hx : found[i]? = some x) : Bfs n gens (i + 1) 0 found (rows ++ [row]) [] m := by
  obtain ⟨m0, a1, a2, a3⟩ := B.made
  have il := (List.getElem?_eq_some_iff.mp hx).1
  refine ⟨B.nd, B.val, B.gval, B.head, by rw [List.length_append, B.len]; rfl, fun j r h => ?_, fun j r h k t ht => ?_, rfl, fun k t h => by simp at h, ⟨m, ?_, fun z => (z rfl).elim, rfl⟩, B.mlen, il⟩
  · rcases snoc_cases h with h | ⟨rfl, rfl⟩
    · exact B.wid j r h
    · rw [B.rlen, hc]
  · rcases snoc_cases h with h | ⟨rfl, rfl⟩
    · exact B.ent j r h k t ht
    · rw [B.len]
      exact B.rent k t ht
  · rw [madeTab_snoc, a1, Option.bind_some, Nat.zero_add, B.len, if_neg (by have := a2 c0; omega)]
    exact a3
/-- the end of the search -/
theorem Bfs.tab (B : Bfs n gens i 0 found rows [] m) (h : found.length ≤ i) : Tab n gens found rows ∧ madeTab 0 rows [] = some m ∧ m.length + 1 = rows.length := by
  obtain ⟨m0, a1, a2, a3⟩ := B.made
  have e : m0 = m := Option.some.inj a3
  subst e
  have le := B.le
  have l := B.len
  have ml := B.mlen
  exact ⟨⟨B.nd, B.val, B.gval, B.head, by omega, B.wid, B.ent⟩, a1, by omega⟩
end
end Mon

set_option Elab.async false
set_option linter.all false
set_option maxRecDepth 100000
set_option maxHeartbeats 4000000
/-! {key: value} with a tuple key. -/
namespace Lf
open PySem PySem.Spec PyProof.Rows L2
/-- {k: v} -/
def tDispT1 (tk tv : TE) : TE := fun σ H Q => ∀ p, H p = none → tk σ (upd H p (.dT [])) fun x H1 => tv σ H1 fun y H2 => ∃ ks b H3, H2 p = some (.dT []) ∧ x = .ref b ∧ H2 b = some (.tup (ks.map kV)) ∧ H3 = upd H2 p (.dT [(ks, y)]) ∧ Q (.ref p) H3
theorem pe_dispT1 {X : Cx} {pos : Pos} {k v : Expr} {tk tv : TE} (hu : X.A.units + 1 < cLine) (hk : PE X k tk) (hv : PE X v tv) : PE X (.Dict [some k] [v] pos) (tDispT1 tk tv) := by
  refine ⟨fun pins s σ H Q I q => ?_⟩
  have hn := I.hok.fresh (Nat.le_refl s.heap.objs.size)
  have I1 := I.laid (a := s.heap.objs.size) (o := .dT []) (h' := s.heap.push { cls := .type "dict", data := .dict #[] }) (t' := s.toks) (fun _ _ q => Heap.get?_push_of_some _ q) (Nat.le_refl _) (dt_empty s.heap I.big)
  rw [arm_eval_Dict, zip_pairTrees [some k] [v] X.env pos rfl rfl, dictDisplay_pairs (pairTrees [some k] [v] X.env pos) (fun z => by cases z) (show 1 < 17 by decide)]
  refine wpAny_bind (wpAny_standAt (wpAny_bind ?_))
  unfold subDict
  refine wpAny_bind (wpAny_alloc ?_)
  refine wpAny_bind (wpAny_holding ?_)
  rw [if_pos (show (pairTrees [some k] [v] X.env pos).length ≤ 15 from (by show 1 ≤ 15; decide))]
  refine wpAny_bind (pairTrees_cons_walk (thn (hk.run pins _ σ _ _ I1 (q _ hn)) fun u s1 ⟨x, H1, I1, rx, q1⟩ => thn (hv.run pins s1 σ H1 _ I1 q1) fun r s2 ⟨y, H2, I2, ry, q2⟩ => pairTrees_nil_walk ?_))
  obtain ⟨ks, b, H3, e, ex, eb, e3, q3⟩ := q2
  subst ex e3
  cases (show u = Value.ref b from rx)
  obtain ⟨z, hd, xs, rel, dd⟩ := dt_of I2.hok e
  cases rel
  refine wpAny_holding ?_
  rw [List.forIn_cons]
  refine wpAny_bind (wpAny_bind (wpAny_bind (wpAny_dictSet_heap (hsz := by decide) (show (tupleKind (mixKind X.prog X.w)).room X.A from Nat.lt_of_succ_lt hu) (key_of I2.hok eb) dd fun h' dd' hs => wpAny_pure ?_)))
  dsimp only
  refine wpAny_pure (wpAny_pure (wpAny_pure (wpAny_pure ⟨.ref s.heap.objs.size, _, ?_, rfl, q3⟩)))
  obtain ⟨q, es, ep, hq, h2, h3, h4, _, h5⟩ := dd'
  refine d_write I2 (by rw [e]; exact True.intro) hs ⟨q, hq⟩ ⟨by show 1 ≤ sizeLine; decide, hd, _, ((show KT H2 [] [] from .nil).put ks eb ry).keeps fun c ys ec => ?_, q, es, ep, hq, h2, h3, h4, h5⟩
  rw [upd_ne (ne_of ec e (fun z => nomatch z))]
  exact ec
end Lf

set_option Elab.async false
set_option linter.all false
set_option maxRecDepth 100000
set_option maxHeartbeats 4000000
/-! zip(text, list), walked. -/
namespace Lf
open PySem PySem.Spec PyProof.Rows L2
/-- the cells of such a zip lie apart -/
structure Far (z TI TO i1 i2 b : Addr) : Prop where
  a1 : TI ≠ z
  a2 : TO ≠ z
  a3 : TI ≠ TO
  a4 : TI ≠ i1
  a5 : TI ≠ i2
  a6 : z ≠ i1
  a7 : z ≠ i2
  a8 : TO ≠ i1
  a9 : TO ≠ i2
  b1 : i1 ≠ i2
  c1 : z ≠ b
  c2 : TO ≠ b
  c3 : i1 ≠ b
  c4 : i2 ≠ b
theorem Far.sep {z TI TO i1 i2 b : Addr} (f : Far z TI TO i1 i2 b) : ZipSep2 z TI TO i1 i2 [i1] [i2, b] where
  TIz := f.a1
  TOz := f.a2
  TITO := f.a3
  TIi1 := f.a4
  mem1 := List.mem_cons_self
  zf1 := fun h => f.a6 (List.mem_singleton.mp h)
  Tf1 := fun h => f.a8 (List.mem_singleton.mp h)
  TIi2 := f.a5
  mem2 := List.mem_cons_self
  zf2 := fun h => by
    simp only [List.mem_cons, List.not_mem_nil, or_false] at h
    exact h.elim f.a7 f.c1
  Tf2 := fun h => by
    simp only [List.mem_cons, List.not_mem_nil, or_false] at h
    exact h.elim f.a9 f.c2
  sep1_2 := fun h => by
    simp only [List.mem_cons, List.not_mem_nil, or_false] at h
    exact h.elim f.b1 f.c3
  sep2_1 := fun h => f.b1 (List.mem_singleton.mp h).symm
/-- signs of a text and items of a list, in new pairs -/
def Itzs (K : PySem.W.Frag) (x : Str) (b : Addr) : It :=
  ⟨fun i H => ∃ (ys : List V) (c : Nat) (y : V), SqL K H b ys ∧ x.cps[i]? = some c ∧ ys[i]? = some y,
    fun i H v H' => ∃ (T : Addr) (c : Nat) (y : V), v = .ref T ∧ H T = none ∧ H' = L2.upd H T (.tup [.str ⟨#[c]⟩, y]) ∧ x.cps[i]? = some c ∧ ∀ ys, SqL K H b ys → ys[i]? = some y,
    fun i H => ∃ ys : List V, SqL K H b ys ∧ i ≤ x.cps.size ∧ i ≤ ys.length ∧ (i = x.cps.size ∨ i = ys.length)⟩
theorem turn_zips {P : Program} {w : World} {K : PySem.W.Frag} {elts : List Expr} {kk : Nat} {tpos : Pos} {z TI TO i1 i2 b : Addr} (x : Str) (t : Tok) (f : Far z TI TO i1 i2 b) :
    Turn P w K (.Tuple elts kk tpos) (Itzs K x b) [z, TI, TO, i1, i2] z (fun i h => IsZip h z TI TO .none ∧ IsTupOf2 h TI (.ref i1) (.ref i2) ∧ (∃ p q, IsTupOf2 h TO p q) ∧ h.IsStrIter i1 (strIterType x) x t i ∧ h.IsListIter i2 b i) where
  mem := List.mem_cons_self
  obj := fun i h st c hc => by
    obtain ⟨hz, hTI, ⟨p, q, hTO⟩, ⟨o1, e1, _, d1⟩, ⟨o2, e2, _, d2⟩⟩ := st
    simp only [List.mem_cons, List.not_mem_nil, or_false] at hc
    rcases hc with rfl | rfl | rfl | rfl | rfl
    · exact ⟨_, hz, fun v q => nomatch q⟩
    · exact ⟨_, hTI, fun v q => nomatch q⟩
    · exact ⟨_, hTO, fun v q => nomatch q⟩
    · exact ⟨o1, e1, fun v q => by rw [d1] at q; cases q⟩
    · exact ⟨o2, e2, fun v q => by rw [d2] at q; cases q⟩
  keep := fun i h h' st k => by
    obtain ⟨hz, hTI, ⟨p, q, hTO⟩, h1, h2⟩ := st
    obtain ⟨o1, e1, g1⟩ := h1
    exact ⟨k z (by simp) _ hz, k TI (by simp) _ hTI, ⟨p, q, k TO (by simp) _ hTO⟩, ⟨o1, k i1 (by simp) _ e1, g1⟩, h2.at fun o e => k i2 (by simp) o e⟩
  item := by
    intro X hP hw hK hc i pins s σ H E I hf st hg
    subst hP hw hK
    obtain ⟨hz, hTI, ⟨p0, q0, hTO⟩, h1, h2⟩ := st
    obtain ⟨ys, c, y, hq, hx, hy⟩ := hg
    obtain ⟨its, rv, p, _⟩ := I.list hq
    obtain ⟨u, hu, ru⟩ := rv.get hy
    have calm : X.A.in1.handled = none := by have := I.ok.hd hc; simp [this]
    have zl : z < s.heap.objs.size := Heap.lt_size hz
    have lt1 : i < x.cps.size := (Array.getElem?_eq_some_iff.mp hx).1
    have lt2 : i < its.toArray.size := by rw [List.size_toArray, ← rv.length]; exact (List.getElem?_eq_some_iff.mp hy).1
    refine wpAny_pyNext_zipD2_item f.sep (Draws.text (prog := X.prog) (w := X.w) calm i1 x t) (Draws.list (prog := X.prog) (w := X.w) calm i2 b (Ne.symm f.c4) its.toArray) hz hTI hTO h1 ⟨h2, p.isList⟩ lt1 lt2
      fun x1 x2 h' tk y1 y2 hz' hTO' d1 d2 hT hsz hk => ?_
    obtain ⟨c', t', hc', rfl⟩ := y1
    rw [hx] at hc'
    cases hc'
    have eu : u = x2 := by
      have q : its[i]? = some x2 := by simpa using y2
      rw [hu] at q
      exact Option.some.inj q
    subst eu
    refine ⟨_, rfl, wpAny_letOwnedTupleGo_zip (s := { s with heap := h', toks := tk }) hz' fun h'' z'' sb => ?_⟩
    have hT2 : h''.get? s.heap.objs.size = some { cls := .type "tuple", data := .seq #[.str ⟨#[c]⟩ t', u] } := (sb.2 _ (Nat.ne_of_gt zl)).trans hT
    have new : ObjOk X.prog X.w (L2.upd H s.heap.objs.size (.tup [.str ⟨#[c]⟩, y])) h'' s.heap.objs.size (.tup [.str ⟨#[c]⟩, y]) :=
      ⟨by show 2 ≤ sizeLine; decide, [.str ⟨#[c]⟩ t', u], .cons ⟨_, rfl⟩ (.cons ru .nil), ⟨_, hT2, rfl, _, rfl⟩⟩
    have I1 : Inv X pins σ (L2.upd H s.heap.objs.size (.tup [.str ⟨#[c]⟩, y])) { s with heap := h'', toks := tk } :=
      I.turnedNew (ch := [z, TI, TO, i1, i2]) (fun d o hb q => (sb.2 d (fun e => hb (by simp [e]))).trans (hk d o (fun e => hb (by simp [e])) (fun e => hb (by simp [e])) (fun e => hb (by simp [e])) (fun e => hb (by simp [e])) q)) hf (Nat.le_refl _) new
    obtain ⟨o1, e1, g1⟩ := d1
    refine ⟨.ref s.heap.objs.size, _, I1, rfl, ⟨_, c, y, rfl, I.hok.fresh (Nat.le_refl _), rfl, hx, fun l hl => by rw [I.list_inj hl hq]; exact hy⟩, ⟨z'', ?_, ⟨_, _, (sb.2 _ f.a2).trans hTO'⟩, ⟨o1, (sb.2 _ (Ne.symm f.a6)).trans e1, g1⟩, d2.1.at fun o q => (sb.2 _ (Ne.symm f.a7)).trans q⟩, fun d hd => ?_⟩
    · exact (sb.2 _ f.a1).trans (hk _ _ f.a1 f.a3 f.a4 f.a5 hTI)
    · have lt : d < s.heap.objs.size := by
        simp only [List.mem_cons, List.not_mem_nil, or_false] at hd
        rcases hd with rfl | rfl | rfl | rfl | rfl
        · exact zl
        · exact Heap.lt_size hTI
        · exact Heap.lt_size hTO
        · obtain ⟨_, e, _⟩ := h1; exact Heap.lt_size e
        · obtain ⟨_, e, _⟩ := h2; exact Heap.lt_size e
      rw [upd_ne (Nat.ne_of_lt lt)]
      exact (hf d hd).1
  done := by
    intro X hP hw hK hc i pins s σ H E I hf st hg
    subst hP hw hK
    obtain ⟨hz, hTI, ⟨p0, q0, hTO⟩, h1, h2⟩ := st
    obtain ⟨ys, hq, le1, le2, hend⟩ := hg
    obtain ⟨its, rv, p, _⟩ := I.list hq
    have l2 := rv.length
    have calm : X.A.in1.handled = none := by have := I.ok.hd hc; simp [this]
    refine wpAny_pyNext_zipD2_end f.sep (Draws.text (prog := X.prog) (w := X.w) calm i1 x t) (Draws.list (prog := X.prog) (w := X.w) calm i2 b (Ne.symm f.c4) its.toArray) hz hTI hTO h1 ⟨h2, p.isList⟩ le1 (by simp; omega) (by simp; omega)
      fun h' tk hk => ⟨rfl, I.turnedL (t' := tk) (ch := [z, TI, TO, i1, i2]) (fun d o hb q => hk d o (fun e => hb (by simp [e])) (fun e => hb (by simp [e])) (fun e => hb (by simp [e])) (fun e => hb (by simp [e])) q) hf⟩
  self := fun A i s Q E st h => wpAny_pyIter_zip st.1 h
def iZips (K : PySem.W.Frag) (ta : TA) : TI := fun σ H R => ta σ H fun vs H1 => ∃ x b ys, vs = [.str x, .ref b] ∧ SqL K H1 b ys ∧ R (Itzs K x b) H1
theorem pi_zips {X : Cx} {e e2 : Expr} {ta : TA} {p pos tpos : Pos} {elts : List Expr} {kk : Nat} (hg : Gl X "zip") (hm : X.mg "zip" = none) (ha : PA X [e, e2] ta)
    (hs : starEach [e, e2] X.env = (false, eval e X.env) :: starEach [e2] X.env := by rfl) (hpl : (backTo pos (starEach [e2] X.env)).any (·.1) = false := by rfl) :
    PI X (.Tuple elts kk tpos) (.Call (.Name "zip" p) [e, e2] [] pos) (iZips X.K ta) := by
  refine ⟨fun pins s σ H R I h => ?_⟩
  refine Call_ (ld_blt I hg hm PyProof.Rows.boot_zip (PyProof.Rows.callWith_type1 (thn (ha.run pos pins s σ H _ I h) fun us s1 hh => ?_) hs hpl))
  obtain ⟨vs, H1, I1, r1, x, b, ys, rfl, hq, q⟩ := hh
  cases r1 with
  | cons r rr =>
    cases rr with
    | cons r2 rr =>
      cases rr
      obtain ⟨t, rfl⟩ := r
      cases r2
      obtain ⟨its, rv, pl, _⟩ := I1.list hq
      have lb : b < s1.heap.objs.size := pl.lt
      refine zip_begins2 (begins_text x t) (begins_list b its.toArray) trivial pl.isList fun h' hz hTI hTO g1 g2 hsz hk => wpAny_pyIter_zip hz ?_
      have I2 : Inv X pins σ H1 { s1 with heap := h' } := I1.kept (t' := s1.toks) hk
      have far : Far (s1.heap.objs.size + 4) (s1.heap.objs.size + 2) (s1.heap.objs.size + 3) s1.heap.objs.size (s1.heap.objs.size + 1) b := by
        have ne : ∀ k : Nat, s1.heap.objs.size + k ≠ b := fun k => Nat.ne_of_gt (Nat.lt_of_lt_of_le lb (Nat.le_add_right _ _))
        refine ⟨?_, ?_, ?_, ?_, ?_, ?_, ?_, ?_, ?_, ?_, ne 4, ne 3, ne 0, ne 1⟩ <;> (intro h; have h' : (_ : Nat) = _ := h; omega)
      refine ⟨s1.heap.objs.size + 4, [s1.heap.objs.size + 4, s1.heap.objs.size + 2, s1.heap.objs.size + 3, s1.heap.objs.size, s1.heap.objs.size + 1], _, _, H1, rfl, I2, turn_zips x t far, ⟨hz, hTI, ⟨_, _, hTO⟩, ⟨_, g1, rfl, rfl⟩, ⟨_, g2, rfl, rfl⟩⟩, fun c hc => ?_, q⟩
      have hle : s1.heap.objs.size ≤ c := by
        simp only [List.mem_cons, List.not_mem_nil, or_false] at hc
        rcases hc with z | z | z | z | z <;> rw [z]
        · exact Nat.le_add_right _ _
        · exact Nat.le_add_right _ _
        · exact Nat.le_add_right _ _
        · exact Nat.le_refl _
        · exact Nat.le_add_right _ _
      exact I1.fpOk hle (I1.hok.fresh hle)
theorem walk_zips {K : PySem.W.Frag} {x : Str} {b : Addr} {ys : List V} (le : ys.length ≤ x.cps.size) : Walk (Itzs K x b) ys.length (fun H => SqL K H b ys)
    (fun i H v H' => ∃ (T : Addr) (c : Nat) (y : V), v = .ref T ∧ H T = none ∧ H' = L2.upd H T (.tup [.str ⟨#[c]⟩, y]) ∧ x.cps[i]? = some c ∧ ys[i]? = some y) where
  goes := fun i H hi g => ⟨ys, x.cps[i]'(by omega), ys[i], g, Array.getElem?_eq_getElem (by omega), List.getElem?_eq_getElem hi⟩
  stops := fun H g => ⟨ys, g, le, Nat.le_refl _, .inr rfl⟩
  yields := fun i H v H' hi g y => by
    obtain ⟨T, c, u, e1, e2, e3, e4, e5⟩ := y
    exact ⟨T, c, u, e1, e2, e3, e4, e5 ys g⟩
end Lf

set_option Elab.async false
set_option linter.all false
set_option maxRecDepth 100000
set_option maxHeartbeats 8000000
namespace K69
open PySem PySem.Spec PyProof.Rows L2 Lf
/-- a word as a text -/
def ws (x : List Nat) : Str := ⟨(x.map fun c => 97 + c).toArray⟩
abbrev wv (x : List Nat) : V := .str (ws x)
theorem ws_app {x : List Nat} {c : Nat} : (ws x ++ (⟨#[97 + c]⟩ : Str)) = ws (x ++ [c]) := by
  show Str.mk ((x.map fun c => 97 + c).toArray ++ #[97 + c]) = ws (x ++ [c])
  unfold ws
  simp
theorem ws_len {x : List Nat} : (ws x).length = x.length := by
  show ((x.map fun c => 97 + c).toArray).size = x.length
  simp
theorem word_shortF : ∀ (m : List (Nat × Nat)) (L : List (List Nat)) (n : Nat), (∀ w ∈ L, w.length ≤ n) → ∀ w ∈ m.foldl Mon.wordStep L, w.length ≤ n + m.length
  | [], L, n, h, w, hw => h w hw
  | p :: r, L, n, h, w, hw => by
    rw [List.length_cons, show n + (r.length + 1) = n + 1 + r.length by omega]
    refine word_shortF r (Mon.wordStep L p) (n + 1) (fun u hu => ?_) w hw
    unfold Mon.wordStep at hu
    rcases List.mem_append.mp hu with g | g
    · have := h u g
      omega
    · rw [List.mem_singleton.mp g, List.length_append, List.length_singleton]
      cases e : L[p.1]? with
      | none => rw [List.getD, e]; show 0 + 1 ≤ _; omega
      | some v =>
        rw [List.getD, e]
        have := h v (List.mem_of_getElem? e)
        show v.length + 1 ≤ _
        omega
theorem word_short {m : List (Nat × Nat)} {w : List Nat} (h : w ∈ Mon.wordTab m) : w.length ≤ m.length := by
  have := word_shortF m [[]] 0 (fun u hu => by rw [List.mem_singleton.mp hu]; exact Nat.le_refl _) w h
  omega
/-- what the search has found, as it lies -/
structure Lay (H : Hp) (pf pw pt pn : Addr) (as bs : List Addr) (found words rows : List (List Nat)) : Prop where
  f : H pf = some (.lst (as.map V.ref))
  fl : as.length = found.length
  fe : ∀ (j : Nat) a x, as[j]? = some a → found[j]? = some x → H a = some (.tup (x.map nv))
  w : H pw = some (.lst (words.map wv))
  t : H pt = some (.lst (bs.map V.ref))
  tl : bs.length = rows.length
  te : ∀ (j : Nat) b r, bs[j]? = some b → rows[j]? = some r → H b = some (.lst (r.map nv))
  tn : ∀ b ∈ bs, b ≠ pf ∧ b ≠ pw ∧ b ≠ pt
  d : H pn = some (.dT (dtab found))
  n1 : pf ≠ pw
  n2 : pf ≠ pt
  n3 : pw ≠ pt
section
variable {H : Hp} {pf pw pt pn p : Addr} {as bs : List Addr} {found words rows : List (List Nat)} {r : List Nat}
theorem Lay.same {H' : Hp} (L : Lay H pf pw pt pn as bs found words rows) (s : Same H H') : Lay H' pf pw pt pn as bs found words rows :=
  ⟨s _ _ L.f, L.fl, fun j a x h1 h2 => s _ _ (L.fe j a x h1 h2), s _ _ L.w, s _ _ L.t, L.tl, fun j b r h1 h2 => s _ _ (L.te j b r h1 h2), L.tn, s _ _ L.d, L.n1, L.n2, L.n3⟩
theorem Lay.gn (L : Lay H pf pw pt pn as bs found words rows) : pn ≠ pf ∧ pn ≠ pw ∧ pn ≠ pt := by
  refine ⟨fun z => ?_, fun z => ?_, fun z => ?_⟩
  · have := L.d; rw [z, L.f] at this; cases this
  · have := L.d; rw [z, L.w] at this; cases this
  · have := L.d; rw [z, L.t] at this; cases this
theorem Lay.bn (L : Lay H pf pw pt pn as bs found words rows) {b : Addr} (hb : b ∈ bs) : b ≠ pn := fun z => by
  obtain ⟨j, hj⟩ := List.getElem?_of_mem hb
  obtain ⟨r, hr⟩ := lt_get (show j < rows.length by rw [← L.tl]; exact get_lt hj)
  have := L.te j b r hj hr
  rw [z, L.d] at this
  cases this
/-- a list that is not of it changes -/
theorem Lay.off (L : Lay H pf pw pt pn as bs found words rows) {p : Addr} {l l' : List V} (hp : H p = some (.lst l)) (np : p ≠ pf ∧ p ≠ pw ∧ p ≠ pt) (nb : p ∉ bs) : Lay (upd H p (.lst l')) pf pw pt pn as bs found words rows where
  f := by rw [upd_ne np.1.symm]; exact L.f
  fl := L.fl
  fe := fun j a x h1 h2 => by
    have e := L.fe j a x h1 h2
    rw [upd_ne (fun z => by rw [z, hp] at e; cases e)]
    exact e
  w := by rw [upd_ne np.2.1.symm]; exact L.w
  t := by rw [upd_ne np.2.2.symm]; exact L.t
  tl := L.tl
  te := fun j b r h1 h2 => by
    rw [upd_ne (fun z => nb (by rw [← z]; exact List.mem_of_getElem? h1))]
    exact L.te j b r h1 h2
  tn := L.tn
  d := by
    have e := L.d
    rw [upd_ne (fun z => by rw [z, hp] at e; cases e)]
    exact e
  n1 := L.n1
  n2 := L.n2
  n3 := L.n3
/-- a row more -/
theorem Lay.row (L : Lay H pf pw pt pn as bs found words rows) {p : Addr} {r : List Nat} (hp : H p = some (.lst (r.map nv))) (np : p ≠ pf ∧ p ≠ pw ∧ p ≠ pt) : Lay (upd H pt (.lst ((bs ++ [p]).map V.ref))) pf pw pt pn as (bs ++ [p]) found words (rows ++ [r]) where
  f := by rw [upd_ne L.n2]; exact L.f
  fl := L.fl
  fe := fun j a x h1 h2 => by
    have e := L.fe j a x h1 h2
    rw [upd_ne (fun z => by rw [z, L.t] at e; cases e)]
    exact e
  w := by rw [upd_ne L.n3]; exact L.w
  t := upd_same
  tl := by rw [List.length_append, List.length_append, L.tl]; rfl
  te := fun j b r' h1 h2 => by
    rcases Mon.snoc_cases h1 with h1 | ⟨rfl, rfl⟩
    · rcases Mon.snoc_cases h2 with h2 | ⟨rfl, rfl⟩
      · rw [upd_ne (L.tn b (List.mem_of_getElem? h1)).2.2]
        exact L.te j b r' h1 h2
      · have := get_lt h1
        rw [L.tl] at this
        omega
    · rcases Mon.snoc_cases h2 with h2 | ⟨_, rfl⟩
      · have := get_lt h2
        rw [L.tl] at this
        omega
      · rw [upd_ne np.2.2]
        exact hp
  tn := fun b hb => by
    rcases List.mem_append.mp hb with h | h
    · exact L.tn b h
    · rw [List.mem_singleton.mp h]
      exact np
  d := by rw [upd_ne L.gn.2.2]; exact L.d
  n1 := L.n1
  n2 := L.n2
  n3 := L.n3
/-- an element more -/
theorem Lay.add (L : Lay H pf pw pt pn as bs found words rows) {b : Addr} {x wd : List Nat} (hb : H b = some (.tup (x.map nv))) : Lay (upd (upd (upd H pn (.dT (dtab (found ++ [x])))) pf (.lst ((as ++ [b]).map V.ref))) pw (.lst ((words ++ [wd]).map wv))) pf pw pt pn (as ++ [b]) bs (found ++ [x]) (words ++ [wd]) rows where
  f := by rw [upd_ne L.n1, upd_same]
  fl := by rw [List.length_append, List.length_append, L.fl]; rfl
  fe := fun j a y h1 h2 => by
    have e : H a = some (.tup (y.map nv)) := by
      rcases Mon.snoc_cases h1 with h1 | ⟨rfl, rfl⟩
      · rcases Mon.snoc_cases h2 with h2 | ⟨rfl, rfl⟩
        · exact L.fe j a y h1 h2
        · have := get_lt h1
          rw [L.fl] at this
          omega
      · rcases Mon.snoc_cases h2 with h2 | ⟨_, rfl⟩
        · have := get_lt h2
          rw [L.fl] at this
          omega
        · exact hb
    rw [upd_ne (fun z => by rw [z, L.w] at e; cases e), upd_ne (fun z => by rw [z, L.f] at e; cases e), upd_ne (fun z => by rw [z, L.d] at e; cases e)]
    exact e
  w := upd_same
  t := by rw [upd_ne L.n3.symm, upd_ne L.n2.symm, upd_ne L.gn.2.2.symm]; exact L.t
  tl := L.tl
  te := fun j c r h1 h2 => by
    have m := List.mem_of_getElem? h1
    obtain ⟨a1, a2, a3⟩ := L.tn c m
    rw [upd_ne a2, upd_ne a1, upd_ne (L.bn m)]
    exact L.te j c r h1 h2
  tn := L.tn
  d := by rw [upd_ne L.gn.2.1, upd_ne L.gn.1, upd_same]
  n1 := L.n1
  n2 := L.n2
  n3 := L.n3
/-- the row that grows -/
theorem Lay.chg (L : Lay H pf pw pt pn as (bs ++ [p]) found words (rows ++ [r])) (nb : p ∉ bs) {r' : List Nat} : Lay (upd H p (.lst (r'.map nv))) pf pw pt pn as (bs ++ [p]) found words (rows ++ [r']) := by
  have tp := L.tn p (by simp)
  have lb : bs.length = rows.length := by have := L.tl; rw [List.length_append, List.length_append] at this; simpa using this
  have hp : H p = some (.lst (r.map nv)) := L.te bs.length p r (by simp) (by rw [lb]; simp)
  exact {
    f := by rw [upd_ne tp.1.symm]; exact L.f
    fl := L.fl
    fe := fun j a x h1 h2 => by
      have e := L.fe j a x h1 h2
      rw [upd_ne (fun z => by rw [z, hp] at e; cases e)]
      exact e
    w := by rw [upd_ne tp.2.1.symm]; exact L.w
    t := by rw [upd_ne tp.2.2.symm]; exact L.t
    tl := by rw [List.length_append, List.length_append, lb]; rfl
    te := fun j b q h1 h2 => by
      rcases Mon.snoc_cases h1 with g1 | ⟨rfl, rfl⟩
      · rcases Mon.snoc_cases h2 with g2 | ⟨rfl, rfl⟩
        · rw [upd_ne (fun z => nb (by rw [← z]; exact List.mem_of_getElem? g1))]
          exact L.te j b q (Mon.get_app p g1) (Mon.get_app r g2)
        · have := get_lt g1
          omega
      · rcases Mon.snoc_cases h2 with g2 | ⟨_, rfl⟩
        · have := get_lt g2
          omega
        · exact upd_same
    tn := L.tn
    d := by
      have e := L.d
      rw [upd_ne (fun z => by rw [z, hp] at e; cases e)]
      exact e
    n1 := L.n1
    n2 := L.n2
    n3 := L.n3 }
end
end K69

set_option Elab.async false
set_option linter.all false
set_option maxRecDepth 100000
set_option maxHeartbeats 4000000
/-! Small things that many texts want. -/
namespace Lf
open PySem PySem.Spec PyProof.Rows L2
theorem yesT {σ : L2.St} {H : Hp} {A B : Hp → Prop} (h : A H) : tYes σ H fun b H3 => if b = true then A H3 else B H3 := by
  show if true = true then A H else B H
  rw [if_pos rfl]
  exact h
theorem pe_gstr {X : Cx} {x v : Str} {t : Tok} {pos : Pos} (hg : Gl X x) (hm : X.mg x = some (.str v t)) (hd : (x == ("__debug__" : Str)) = false := by decide +kernel) : PE X (.Name x pos) (tC (.str v)) := pe_glob hg hm ⟨t, rfl⟩ hd
theorem map_get {α β : Type} {f : α → β} {l : List α} {i : Nat} {y : β} (h : (l.map f)[i]? = some y) : ∃ a, l[i]? = some a ∧ y = f a := by
  rw [List.getElem?_map] at h
  cases z : l[i]? with
  | none => rw [z] at h; cases h
  | some a => rw [z] at h; exact ⟨a, rfl, (Option.some.inj h).symm⟩
theorem get_map {α β : Type} {f : α → β} {l : List α} {i : Nat} {a : α} (h : l[i]? = some a) : (l.map f)[i]? = some (f a) := by rw [List.getElem?_map, h]; rfl
theorem get_lt {α : Type} {l : List α} {i : Nat} {a : α} (h : l[i]? = some a) : i < l.length := (List.getElem?_eq_some_iff.mp h).1
theorem lt_get {α : Type} {l : List α} {i : Nat} (h : i < l.length) : ∃ a, l[i]? = some a := ⟨_, List.getElem?_eq_getElem h⟩
theorem nil_of {H H' : Hp} {p : Addr} (s : Same H H') (n : H' p = none) : H p = none := by
  cases e : H p with
  | none => rfl
  | some o => rw [s _ _ e] at n; cases n
theorem But.nil {H H' : Hp} {l p : Addr} (s : But l H H') (np : p ≠ l) (n : H' p = none) : H p = none := by
  cases e : H p with
  | none => rfl
  | some o => rw [s _ _ np e] at n; cases n
theorem tyx_same {K : PySem.W.Frag} {H H' : Hp} {x : V} {t : Value} (e : Same H H') (h : TyX K H x t) : TyX K H' x t := by
  cases h with
  | base b =>
    cases b with
    | non => exact .base .non
    | bl b => exact .base (.bl b)
    | int i => exact .base (.int i)
    | str s => exact .base (.str s)
    | flt f => exact .base (.flt f)
    | lst h => exact .base (.lst (e _ _ h))
    | frz h => exact .base (.frz (e _ _ h))
    | tup h => exact .base (.tup (e _ _ h))
    | dK h => exact .base (.dK (e _ _ h))
    | dT h => exact .base (.dT (e _ _ h))
    | ins h a b c d f => exact .base (.ins (e _ _ h) a b c d f)
  | byt b => exact .byt b
  | set h => exact .set (e _ _ h)
  | kList h c => exact .kList h c
  | kTuple h c => exact .kTuple h c
  | kDict h c => exact .kDict h c
  | fTuple h => exact .fTuple (e _ _ h)
  | fDict h => exact .fDict (e _ _ h)
/-- a number, or what is none -/
inductive NumK (K : PySem.W.Frag) (H : Hp) : V → Option Int → Prop
  | int (i : Int) : NumK K H (.int i) (some i)
  | bl (b : Bool) : NumK K H (.bl b) none
  | oth {x : V} {n : String} (ty : TyX K H x (.type n)) (e : kitB n "int" = some false) : NumK K H x none
theorem NumK.same {K : PySem.W.Frag} {H H' : Hp} {x : V} {o : Option Int} (e : Same H H') (h : NumK K H x o) : NumK K H' x o := by
  cases h with
  | int i => exact .int i
  | bl b => exact .bl b
  | oth t q => exact .oth (tyx_same e t) q
/-- a text, or what is none -/
inductive TxtK (K : PySem.W.Frag) (H : Hp) : V → Option Str → Prop
  | str (z : Str) : TxtK K H (.str z) (some z)
  | oth {x : V} {n : String} (ty : TyX K H x (.type n)) (e : kitB n "str" = some false) : TxtK K H x none
theorem TxtK.same {K : PySem.W.Frag} {H H' : Hp} {x : V} {o : Option Str} (e : Same H H') (h : TxtK K H x o) : TxtK K H' x o := by
  cases h with
  | str i => exact .str i
  | oth t q => exact .oth (tyx_same e t) q
def isTx : Option Str → Bool
  | some _ => true
  | none => false
theorem TxtK.ty {K : PySem.W.Frag} {H : Hp} {x : V} {o : Option Str} (h : TxtK K H x o) : ∃ n, TyX K H x (.type n) ∧ PySem.W.kitOne K (.type n) (.type "str") = some (isTx o) := by
  cases h with
  | str z => exact ⟨_, .base (.str z), kit_ty (show kitB "str" "str" = some true by decide +kernel)⟩
  | oth t q => exact ⟨_, t, kit_ty q⟩
end Lf

set_option Elab.async false
set_option linter.all false
set_option maxRecDepth 100000
set_option maxHeartbeats 8000000
namespace K69
open PySem PySem.Spec PyProof.Rows L2 Lf
/-- what one letter does to each state -/
def cols (wd : Nat) (mv : List (List Nat)) : List (List Nat) := (List.range wd).map fun c => mv.map fun r => r.getD c 0
def FormM (mv : List (List Nat)) (wd : Nat) : Prop := 1 ≤ mv.length ∧ 1 ≤ wd ∧ wd ≤ 4 ∧ ∀ row ∈ mv, row.length = wd ∧ ∀ t ∈ row, t < mv.length
theorem cols_len {wd : Nat} {mv : List (List Nat)} : (cols wd mv).length = wd := by unfold cols; rw [List.length_map, List.length_range]
theorem cols_at {wd c : Nat} {mv : List (List Nat)} (h : c < wd) : (cols wd mv)[c]? = some (mv.map fun r => r.getD c 0) := by
  unfold cols
  rw [List.getElem?_map, List.getElem?_range h]
  rfl
theorem cols_valid {wd : Nat} {mv : List (List Nat)} (F : FormM mv wd) : ∀ g ∈ cols wd mv, Mon.Valid mv.length g := by
  intro g hg
  obtain ⟨c, hc, rfl⟩ := List.mem_map.mp hg
  refine ⟨List.length_map _, fun i hi => ?_⟩
  obtain ⟨row, hr, rfl⟩ := List.mem_map.mp hi
  obtain ⟨h1, h2⟩ := F.2.2.2 row hr
  have lt : c < row.length := by rw [h1]; exact List.mem_range.mp hc
  rw [Mon.getD_at lt]
  exact h2 _ (List.getElem_mem lt)
/-- a list of lists, beside the source -/
structure RowsH (H : Hp) (l r : Addr) (rows : List (List Nat)) : Prop where
  ex : r ≠ l ∧ ∃ as : List Addr, H r = some (.lst (as.map V.ref)) ∧ as.length = rows.length ∧ ∀ (i : Nat) a row, as[i]? = some a → rows[i]? = some row → a ≠ l ∧ H a = some (.lst (row.map nv))
theorem RowsH.but {H H' : Hp} {l r : Addr} {rows : List (List Nat)} (h : RowsH H l r rows) (e : But l H H') : RowsH H' l r rows := by
  obtain ⟨n, as, a, b, c⟩ := h.ex
  exact ⟨n, as, e _ _ n a, b, fun i x row h1 h2 => ⟨(c i x row h1 h2).1, e _ _ (c i x row h1 h2).1 (c i x row h1 h2).2⟩⟩
theorem RowsH.same {H H' : Hp} {l r : Addr} {rows : List (List Nat)} (h : RowsH H l r rows) (e : Same H H') : RowsH H' l r rows := h.but (But.of e)
theorem RowsH.rl {K : PySem.W.Frag} {H : Hp} {l r : Addr} {rows : List (List Nat)} (h : RowsH H l r rows) : RowsL K H r rows := by
  obtain ⟨n, as, a, b, c⟩ := h.ex
  exact ⟨as, SqL.of a, b, fun i x row h1 h2 => SqL.of (c i x row h1 h2).2⟩
theorem rgV_nv {n : Nat} : rgV 0 (n : Nat) = (Mon.idm n).map nv := by
  unfold rgV Mon.idm
  simp
theorem abcd_at {c : Nat} (h : c < 4) : ("abcd" : Str).cps.toList[c]? = some (97 + c) := by
  have : c = 0 ∨ c = 1 ∨ c = 2 ∨ c = 3 := by omega
  rcases this with rfl | rfl | rfl | rfl <;> decide +kernel
end K69

set_option Elab.async false
set_option linter.all false
set_option maxRecDepth 100000
set_option maxHeartbeats 8000000
namespace K69
open PySem PySem.Spec PyProof.Rows L2 Lf
def spPick : Sp := fun vs H Q _ => ∃ (l s : Addr) (n : Nat) (xs : List V), vs = [.ref l, .ref s] ∧ Src H l n ∧ n ≤ 1000000 ∧ H s = some (.lst xs) ∧ s ≠ l ∧ 1 ≤ xs.length ∧ xs.length ≤ 1000 ∧ ∀ x H', x ∈ xs → But l H H' → Src H' l (n + 1) → Q x H'
/-- all but two things stay -/
def But2 (l D : Addr) (H H' : Hp) : Prop := ∀ b o, b ≠ l → b ≠ D → H b = some o → H' b = some o
theorem But2.trans {l D : Addr} {H H1 H2 : Hp} (a : But2 l D H H1) (b : But2 l D H1 H2) : But2 l D H H2 := fun c o h1 h2 h3 => b c o h1 h2 (a c o h1 h2 h3)
theorem But2.ofL {l D : Addr} {H H1 : Hp} (a : But l H H1) : But2 l D H H1 := fun c o h1 _ h3 => a c o h1 h3
theorem But2.ofD {l D : Addr} {H H1 : Hp} (a : But D H H1) : But2 l D H H1 := fun c o _ h2 h3 => a c o h2 h3
theorem But2.done {l D : Addr} {H H1 : Hp} (a : But2 l D H H1) (n : H D = none) : But l H H1 := fun c o h1 h3 => a c o h1 (fun z => by rw [z, n] at h3; cases h3) h3
theorem seq_join {t u : TS} {Ds : Ends} {σ : L2.St} {H : Hp} (M : L2.St → Hp → Prop) (k : ∀ σ' H', M σ' H' → u Ds σ' H') (h : ∀ nx : L2.St → Hp → Prop, (∀ σ' H', M σ' H' → nx σ' H') → t { Ds with nx := nx } σ H) : tSeq t u Ds σ H := h (u Ds) k
/-- what one letter does, as a list -/
def Col (H : Hp) (l p : Addr) (g : List Nat) (many : Nat) : Prop := p ≠ l ∧ H p = some (.lst (g.map nv)) ∧ Mon.Valid many g
theorem Col.but {H H' : Hp} {l p : Addr} {g : List Nat} {many : Nat} (h : Col H l p g many) (b : But l H H') : Col H' l p g many := ⟨h.1, b _ _ h.1 h.2.1, h.2.2⟩
abbrev teDr : TE := fun σ H Q => (tCons (tVar 0) (tCons (tVar 1) tNil)) σ H fun vs H1 => spDraw vs H1 Q E0
abbrev teDrL (K : PySem.W.Frag) : TE := fun σ H Q => (tCons (tVar 0) (tCons (tCB (rLenS K) (tCons (tVar 7) tNil)) tNil)) σ H fun vs H1 => spDraw vs H1 Q E0
abbrev tePop (K : PySem.W.Frag) : TE := tBM K "list" rPopAt (tVar 7) (tCons (teDrL K) tNil)
abbrev rMax : List V → Hp → VK → Prop := fun xs H Q => ∃ i j, xs = [.int i, .int j] ∧ Q (.int (if j > i then j else i)) H
abbrev teMax : TE := tCB rMax (tCons (tVar 8) (tCons (tVar 9) tNil))
section
variable {l : Addr} {n many : Nat} {v2 v3 v4 v5 v6 v7 : Option V} {H : Hp} {Q : VK}
theorem erase_map {α β : Type} {f : α → β} : ∀ {l : List α} {k : Nat}, (l.map f).eraseIdx k = (l.eraseIdx k).map f
  | [], _ => rfl
  | x :: r, 0 => rfl
  | x :: r, k + 1 => by rw [List.map_cons, List.eraseIdx_cons_succ, List.eraseIdx_cons_succ, List.map_cons, erase_map]
theorem valid_snoc {many y : Nat} {g : List Nat} (h : ∀ i ∈ g, i < many) (hy : y < many) : ∀ i ∈ g ++ [y], i < many := fun i hi => by
  rcases List.mem_append.mp hi with z | z
  · exact h i z
  · rw [List.mem_singleton.mp z]; exact hy
theorem col_e (src : Src H l n) (n1 : n + many ≤ 1000000) (m1 : 1 ≤ many) (m9 : many ≤ 9) (fin : ∀ p g H', But l H H' → Src H' l (n + many) → H p = none → Col H' l p g many → Q (.ref p) H') :
    tLc (iRng1 (tCons (tVar 1) tNil)) (gName 8) tYes teDr [8] [some (.ref l), some (.int (many : Nat)), v2, v3, v4, v5, v6, v7, none, none] H Q := by
  refine ⟨_, rfl, (many : Nat), rfl, by omega, by omega, fun D nD => ?_⟩
  have nDl := src.ne nD
  refine lc_range (lo := 0) (n := many) (fun i Hc => But2 l D H Hc ∧ Src Hc l (n + i) ∧ ∃ g : List Nat, Hc D = some (.lst (g.map nv)) ∧ g.length = i ∧ ∀ e ∈ g, e < many) ⟨But2.ofD But.upd, src.upd nDl, [], upd_same, rfl, fun _ h => by simp at h⟩ (fun i Hc hi ⟨bt, sc, g, hD, lg, ag⟩ => ?_) (fun Hc ⟨bt, sc, g, hD, lg, ag⟩ => ?_)
  · refine ⟨rfl, yesT ?_⟩
    refine ⟨_, rfl, _, rfl, l, n + i, (many : Nat), rfl, sc, by omega, by omega, by omega, fun y H' y0 y1 b' src' => ?_⟩
    obtain ⟨y, rfl⟩ : ∃ j : Nat, y = (j : Nat) := ⟨y.toNat, by omega⟩
    refine ⟨_, b' _ _ nDl hD, by rw [List.length_map, lg]; show i < 16777216; omega, (bt.trans (But2.ofL b')).trans (But2.ofD But.upd), src'.upd nDl, g ++ [y], by rw [upd_same, List.map_append]; rfl, by rw [List.length_append, lg]; rfl, valid_snoc ag (by omega)⟩
  · exact fin D g Hc (bt.done nD) sc nD ⟨nDl, hD, lg, ag⟩
theorem max_e {K : PySem.W.Frag} {p : Addr} {g : List Nat} (col : Col H l p g many) (m9 : many ≤ 9) (src : Src H l n) (fin : ∀ q h H', Same H H' → H q = none → Col H' l q h many → Q (.ref q) H') :
    tLc (iEnumA K (tVar 6)) (gTup K 2 (gCons (gName 8) (gCons (gName 9) gNil))) tYes teMax [8, 9] [some (.ref l), some (.int (many : Nat)), v2, v3, v4, v5, some (.ref p), v7, none, none] H Q := by
  obtain ⟨npl, hp, lg, ag⟩ := col
  refine ⟨_, rfl, p, _, rfl, .inl ⟨SqL.of hp, fun D nD => ?_⟩⟩
  have nDl := src.ne nD
  refine lc_it (walk_enumL (K := K) (a := p) (xs := g.map nv)) (fun i Hc => But D H Hc ∧ ∃ h : List Nat, Hc D = some (.lst (h.map nv)) ∧ h.length = i ∧ ∀ e ∈ h, e < many) ⟨But.upd, [], upd_same, rfl, fun _ h => by simp at h⟩ (fun i Hc _ ⟨bt, _⟩ => SqL.of (Same.but (L2.Same.refl _) nD bt _ _ hp)) (fun i y Hc H' hi ⟨bt, h, hD, lh, ah⟩ yl => ?_) (fun Hc ⟨bt, h, hD, lh, ah⟩ => ?_)
  · obtain ⟨T, x, rfl, nT, rfl, hx⟩ := yl
    obtain ⟨k, hk, rfl⟩ := map_get hx
    have km := ag k (List.mem_of_getElem? hk)
    have im : i < many := by have := get_lt hk; omega
    have nTD : D ≠ T := fun z => by rw [z, nT] at hD; cases hD
    refine ⟨T, _, rfl, SqT.of upd_same, rfl, _, _, rfl, _, _, rfl, rfl, rfl, yesT ?_⟩
    refine ⟨_, rfl, _, rfl, _, _, rfl, ?_⟩
    have e : (if ((k : Nat) : Int) > ((i : Nat) : Int) then V.int (k : Nat) else V.int (i : Nat)) = nv (if k > i then k else i) := by
      by_cases z : k > i
      · rw [if_pos z, if_pos (by omega)]
      · rw [if_neg z, if_neg (by omega)]
    have e2 : V.int (if ((k : Nat) : Int) > ((i : Nat) : Int) then ((k : Nat) : Int) else ((i : Nat) : Int)) = nv (if k > i then k else i) := by
      by_cases z : k > i
      · rw [if_pos z, if_pos (by omega)]
      · rw [if_neg z, if_neg (by omega)]
    rw [e2]
    refine ⟨h.map nv, by rw [upd_ne nTD]; exact hD, by rw [List.length_map, lh]; show i < 16777216; omega, (bt.trans (But.of (same_upd nT))).trans But.upd, h ++ [if k > i then k else i], by rw [upd_same, List.map_append]; rfl, by rw [List.length_append, lh]; rfl, valid_snoc ah (by split <;> omega)⟩
  · rw [List.length_map, lg] at lh
    exact fin D h Hc (Same.but (L2.Same.refl _) nD bt) nD ⟨nDl, hD, lh, ah⟩
/-- a new order of all -/
theorem pop_e {K : PySem.W.Frag} {p : Addr} (src : Src H l n) (n1 : n + many ≤ 1000000) (m1 : 1 ≤ many) (m9 : many ≤ 9) (np : p ≠ l) (hp : H p = some (.lst ((Mon.idm many).map nv))) (fin : ∀ q h H', But2 l p H H' → Src H' l (n + many) → H q = none → Col H' l q h many → Q (.ref q) H') :
    tLc (iRng1 (tCons (tVar 1) tNil)) (gName 8) tYes (tePop K) [8] [some (.ref l), some (.int (many : Nat)), v2, v3, v4, v5, v6, some (.ref p), none, none] H Q := by
  refine ⟨_, rfl, (many : Nat), rfl, by omega, by omega, fun D nD => ?_⟩
  have nDl := src.ne nD
  have nDp : D ≠ p := fun z => by rw [z, hp] at nD; cases nD
  refine lc_range (lo := 0) (n := many) (fun i Hc => (∀ b o, b ≠ l → b ≠ D → b ≠ p → H b = some o → Hc b = some o) ∧ Src Hc l (n + i) ∧ ∃ N L : List Nat, N.length = i ∧ i + L.length = many ∧ (∀ e ∈ N, e < many) ∧ (∀ e ∈ L, e < many) ∧ Hc D = some (.lst (N.map nv)) ∧ Hc p = some (.lst (L.map nv)))
    ⟨fun b o _ nb _ e => by rw [upd_ne nb]; exact e, src.upd nDl, [], Mon.idm many, rfl, by rw [Nat.zero_add]; exact Mon.idm_valid.1, fun _ h => by simp at h, Mon.idm_valid.2, upd_same, by rw [upd_ne nDp.symm]; exact hp⟩ (fun i Hc hi ⟨bc, sc, N, L, lN, lL, aN, aL, hD, hL⟩ => ?_) (fun Hc ⟨bc, sc, N, L, lN, lL, aN, aL, hD, hL⟩ => ?_)
  · refine ⟨rfl, yesT ?_⟩
    refine ⟨_, rfl, .inl ⟨rfl, _, SqL.of hL⟩, _, rfl, _, rfl, p, _, rfl, .inl (SqL.of hL), l, n + i, _, rfl, sc, by omega, by rw [List.length_map]; omega, by rw [List.length_map]; omega, fun k H2 k0 k1 b2 src2 => ?_⟩
    rw [List.length_map] at k1
    obtain ⟨k, rfl⟩ : ∃ k' : Nat, k = (k' : Nat) := ⟨k.toNat, by omega⟩
    have hk : k < L.length := by omega
    obtain ⟨y, hy⟩ := lt_get hk
    refine ⟨p, _, _, k, nv y, rfl, rfl, b2 _ _ np hL, by omega, by omega, ?_, get_map hy, ?_⟩
    · rw [List.length_map, seqIndex_of (by omega) (by omega)]
      rfl
    rw [erase_map]
    have hD2 : L2.upd H2 p (.lst ((L.eraseIdx k).map nv)) D = some (.lst (N.map nv)) := by rw [upd_ne nDp]; exact b2 _ _ nDl hD
    refine ⟨_, hD2, by rw [List.length_map]; show N.length < 16777216; omega, fun b o n1 n2 n3 e => ?_, (src2.upd np).upd nDl, N ++ [y], L.eraseIdx k, by rw [List.length_append, lN]; rfl, ?_, valid_snoc aN (aL y (List.mem_of_getElem? hy)), fun e he => aL e (List.mem_of_mem_eraseIdx he), by rw [upd_same, List.map_append]; rfl, by rw [upd_ne nDp.symm]; exact upd_same⟩
    · rw [upd_ne n2, upd_ne n3]
      exact b2 _ _ n1 (bc b o n1 n2 n3 e)
    · rw [List.length_eraseIdx, if_pos hk]
      omega
  · exact fin D N Hc (fun b o n1 n2 e => bc b o n1 (fun z => by rw [z, nD] at e; cases e) n2 e) sc nD ⟨nDl, hD, lN, aN⟩
end
section
variable {P : Program} {w : World} {K : PySem.W.Frag} {mg : Str → Option Value} {base : Heap}
theorem scPick : FnScope ["_law_source_here", "_law_some"] ["_law_source_here", "_law_some"] (defScope s_L_pick) := ⟨rfl, rfl, rfl, by decide +kernel, rfl, by decide +kernel, by decide +kernel⟩
theorem ok_pick {f : Addr} {fd : FuncData} {q : Str} (F : FunD K "_law_pick" q (defArgs s_L_pick) (defBody s_L_pick) (defScope s_L_pick) [] [] f fd) (zn : mg "len" = none) (DD : Def P w K mg base CX0 1 "_law_draw" ["_law_source_here", "_law_many"] spDraw) :
    FnOk P w K mg base CX0 2 f fd ["_law_source_here", "_law_some"] spPick := by
  refine F.ok scPick (fun vs H Q E h => ?_) (fun cdv A outer s H vs Q E hr h => ?_)
  · obtain ⟨l, s, n, xs, rfl, _⟩ := h
    rfl
  · obtain ⟨l, s, n, xs, rfl, src, n1, hs, ne, l1, l2, k⟩ := h
    refine ⟨_, PSs.nox (pss_one (ps_ret (pe_ix ix_list (pv 1) (pe_def DD hr pass0 rfl (pa_cons (pv 0) (pa_cons (pe_callB call_len_seq rfl zn boot_len (pa_cons (pv 1) pa_nil)) pa_nil))) (fun _ _ => rfl)))), ?_⟩
    refine ⟨_, rfl, _, rfl, _, rfl, s, xs, rfl, .inl (SqL.of hs), l, n, xs.length, rfl, src, n1, by omega, by omega, fun i H' i0 i1 b src' => ?_⟩
    obtain ⟨j, rfl⟩ : ∃ j : Nat, i = (j : Nat) := ⟨i.toNat, by omega⟩
    have hj : j < xs.length := by omega
    refine ⟨s, xs, (j : Nat), xs[j], rfl, rfl, SqL.of (b _ _ ne hs), atI_nat (List.getElem?_eq_getElem hj), ?_⟩
    exact k _ _ (List.getElem_mem hj) b src'
end
end K69

set_option Elab.async false
set_option linter.all false
set_option maxRecDepth 100000
set_option maxHeartbeats 8000000
namespace K69
open PySem PySem.Spec PyProof.Rows L2 Lf
theorem seq_asg {te : TE} {i : Nat} {u : TS} {Ds : Ends} {σ : L2.St} {H : Hp} (h : te σ H fun x H1 => gName i x σ H1 fun σ2 H2 => u Ds σ2 H2) : tSeq (tAsg te (gName i)) u Ds σ H := h
theorem rep2 {n : Nat} {x : V} : (List.replicate n [x]).flatten = List.replicate n x := by
  induction n with
  | zero => rfl
  | succ n ih => rw [List.replicate_succ, List.flatten_cons, ih, List.replicate_succ]; rfl
/-- the columns found so far -/
def Cols (H : Hp) (l pc : Addr) (many c : Nat) : Prop := pc ≠ l ∧ ∃ (ps : List Addr) (gs : List (List Nat)), H pc = some (.lst (ps.map V.ref)) ∧ ps.length = c ∧ gs.length = c ∧ ∀ (j : Nat) p g, ps[j]? = some p → gs[j]? = some g → Col H l p g many ∧ p ≠ pc
theorem Cols.but {H H' : Hp} {l pc : Addr} {many c : Nat} (h : Cols H l pc many c) (b : But l H H') : Cols H' l pc many c := by
  obtain ⟨n, ps, gs, h1, h2, h3, h4⟩ := h
  exact ⟨n, ps, gs, b _ _ n h1, h2, h3, fun j p g e1 e2 => ⟨(h4 j p g e1 e2).1.but b, (h4 j p g e1 e2).2⟩⟩
theorem Cols.pc {H : Hp} {l pc : Addr} {many c : Nat} (h : Cols H l pc many c) {q : Addr} (n : H q = none) : q ≠ pc := fun z => by
  obtain ⟨_, ps, gs, h1, _⟩ := h
  rw [z, h1] at n
  cases n
def rowOf (gs : List (List Nat)) (s : Nat) : List Nat := gs.map fun g => g.getD s 0
abbrev NMv : List Str := ["_law_source_here", "_law_many", "_law_letters", "_law_way", "_law_columns_so", "_law_letter", "_law_goals", "_law_rest", "_law_state", "_law_goal"]
def scMv1 : Scope := { kind := .function, names := [(".0", .local), ("_law_state", .cell), ("_law_columns_so", .cell)], isGenerator := false, isCoroutine := false }
abbrev teCell (K : PySem.W.Frag) : TE := tOp (rIxL K) (tVar 6) (tVar 8)
abbrev teRow (K : PySem.W.Frag) : TE := tLc (iList K (tVar 4)) (gName 6) tYes (teCell K) [6]
def spMoves : Sp := fun vs H Q _ => ∃ l n many wd, vs = [.ref l, .int (many : Nat), .int (wd : Nat)] ∧ Src H l n ∧ n + 100 ≤ 1000000 ∧ 1 ≤ many ∧ many ≤ 9 ∧ 1 ≤ wd ∧ wd ≤ 4 ∧
  ∀ r mv H', But l H H' → H r = none → RowsH H' l r mv → FormM mv wd → mv.length = many → Src H' l (n + 100) → Q (.ref r) H'
section
variable {K : PySem.W.Frag} {l pc : Addr} {n many wd : Nat} {v2 v3 v5 v6 v7 : Option V} {H : Hp} {Q : VK}
/-- row by row -/
theorem turn_e (C : Cols H l pc many wd) (src : Src H l n) (m1 : 1 ≤ many) (m9 : many ≤ 9) (w1 : 1 ≤ wd) (w4 : wd ≤ 4) (fin : ∀ r mv H', Same H H' → H r = none → RowsH H' l r mv → FormM mv wd → mv.length = many → Q (.ref r) H') :
    tLc (iRng1 (tCons (tVar 1) tNil)) (gName 8) tYes (teRow K) [8] [some (.ref l), some (.int (many : Nat)), v2, v3, some (.ref pc), v5, v6, v7, none, none] H Q := by
  obtain ⟨npc, ps, gs, hpc, lp, lg, cg⟩ := C
  refine ⟨_, rfl, (many : Nat), rfl, by omega, by omega, fun D nD => ?_⟩
  have nDl := src.ne nD
  refine lc_range (lo := 0) (n := many) (fun i Hc => But D H Hc ∧ ∃ us : List Addr, Hc D = some (.lst (us.map V.ref)) ∧ us.length = i ∧ ∀ (j : Nat) u, us[j]? = some u → u ≠ l ∧ u ≠ D ∧ Hc u = some (.lst ((rowOf gs j).map nv))) ⟨But.upd, [], upd_same, rfl, fun j u h => by simp at h⟩ (fun i Hc hi ⟨bt, us, hD, lu, au⟩ => ?_) (fun Hc ⟨bt, us, hD, lu, au⟩ => ?_)
  · have ei : (0 : Int) + (i : Nat) = (i : Nat) := by omega
    have sD := Same.but (L2.Same.refl _) nD bt
    refine ⟨rfl, yesT ?_⟩
    rw [ei]
    refine ⟨_, rfl, pc, rfl, ⟨_, SqL.of (sD _ _ hpc)⟩, fun B nB => ?_⟩
    have nBl := (src.same sD).ne nB
    have nBD : B ≠ D := fun z => by rw [z, hD] at nB; cases nB
    refine lc_list (K := K) (a := pc) (xs := ps.map V.ref) (fun c He => But B Hc He ∧ He B = some (.lst (((gs.take c).map fun g => g.getD i 0).map nv))) ⟨But.upd, upd_same⟩ (fun c He _ ⟨be, _⟩ => SqL.of (Same.but (L2.Same.refl _) nB be _ _ (sD _ _ hpc))) (fun c z He hz ⟨be, hB⟩ => ?_) (fun He ⟨be, hB⟩ => ?_)
    · obtain ⟨p, hp, rfl⟩ := map_get hz
      obtain ⟨g, hg⟩ := lt_get (show c < gs.length by rw [lg, ← lp]; exact get_lt hp)
      obtain ⟨⟨c1, c2, c3, c4⟩, _⟩ := cg c p g hp hg
      obtain ⟨e, he⟩ := lt_get (show i < g.length by omega)
      have sB := sD.trans (Same.but (L2.Same.refl _) nB be)
      refine ⟨rfl, yesT ?_⟩
      refine ⟨_, rfl, _, rfl, p, _, _, nv e, rfl, rfl, SqL.of (sB _ _ c2), atI_nat (get_map he), ?_⟩
      refine ⟨_, hB, ?_, But.trans be But.upd, ?_⟩
      · rw [List.length_map, List.length_map, List.length_take]
        have := get_lt hp
        show min c gs.length < 16777216
        omega
      · rw [upd_same, take_snoc hg, List.map_append, List.map_append, List.map_cons, List.map_nil, List.map_cons, List.map_nil, Mon.getD_of he]
    · rw [List.length_map, lp, ← lg, List.take_length] at hB
      have sB := Same.but (L2.Same.refl _) nB be
      refine ⟨_, sB _ _ hD, by rw [List.length_map, lu]; show i < 16777216; omega, (bt.trans (But.of sB)).trans But.upd, us ++ [B], by rw [upd_same, List.map_append]; rfl, by rw [List.length_append, lu]; rfl, fun j u hu => ?_⟩
      rcases Mon.snoc_cases hu with hu | ⟨rfl, rfl⟩
      · obtain ⟨a1, a2, a3⟩ := au j u hu
        exact ⟨a1, a2, by rw [upd_ne a2]; exact sB _ _ a3⟩
      · refine ⟨nBl, nBD, ?_⟩
        rw [upd_ne nBD, lu]
        exact hB
  · refine fin D ((List.range many).map (rowOf gs)) Hc (Same.but (L2.Same.refl _) nD bt) nD ⟨nDl, us, hD, by rw [List.length_map, List.length_range, lu], fun j u row hu hr => ?_⟩ ⟨by rw [List.length_map, List.length_range]; exact m1, w1, w4, fun row hr => ?_⟩ (by rw [List.length_map, List.length_range])
    · obtain ⟨a1, a2, a3⟩ := au j u hu
      have jm : j < many := by rw [← lu]; exact get_lt hu
      rw [List.getElem?_map, List.getElem?_range jm] at hr
      cases hr
      exact ⟨a1, a3⟩
    · obtain ⟨s, hs, rfl⟩ := List.mem_map.mp hr
      refine ⟨by unfold rowOf; rw [List.length_map, lg], fun t ht => ?_⟩
      rw [List.length_map, List.length_range]
      obtain ⟨g, hg, rfl⟩ := List.mem_map.mp ht
      obtain ⟨j, hj⟩ := List.getElem?_of_mem hg
      obtain ⟨p, hp⟩ := lt_get (show j < ps.length by rw [lp, ← lg]; exact get_lt hj)
      obtain ⟨⟨c1, c2, c3, c4⟩, _⟩ := cg j p g hp hj
      have : s < g.length := by rw [c3]; exact List.mem_range.mp hs
      rw [Mon.getD_at this]
      exact c4 _ (List.getElem_mem this)
end
section
variable {P : Program} {w : World} {K : PySem.W.Frag} {mg : Str → Option Value} {base : Heap}
theorem scMoves : FnScope NMv ["_law_source_here", "_law_many", "_law_letters"] (defScope s_L_moves) := ⟨rfl, rfl, rfl, by decide +kernel, rfl, by decide +kernel, by decide +kernel⟩
theorem ok_moves {f : Addr} {fd : FuncData} {q : Str} (F : FunD K "_law_moves" q (defArgs s_L_moves) (defBody s_L_moves) (defScope s_L_moves) [] [] f fd) (zr : mg "range" = none) (zn : mg "len" = none) (zl : mg "list" = none) (zm : mg "max" = none) (zs : mg "sorted" = none) (zE : mg "enumerate" = none)
    (DD : Def P w K mg base CX0 1 "_law_draw" ["_law_source_here", "_law_many"] spDraw) (DP : Def P w K mg base CX0 2 "_law_pick" ["_law_source_here", "_law_some"] spPick) :
    FnOk P w K mg base CX0 3 f fd ["_law_source_here", "_law_many", "_law_letters"] spMoves := by
  refine F.ok scMoves (fun vs H Q E h => ?_) (fun cdv A outer s H vs Q E hr h => ?_)
  · obtain ⟨l, n, many, wd, rfl, _⟩ := h
    rfl
  · obtain ⟨l, n, many, wd, rfl, src, n1, m1, m9, w1, w4, k⟩ := h
    have r1 : Room 1 _ := hr.mono (by decide)
    refine ⟨_, PSs.nox (pss_cons (ps_asg (pe_tup (pa_cons (pe_def DD r1 pass0 rfl (pa_cons (pv 0) (pa_cons pe_int pa_nil))) (pa_cons (pe_lst pa_nil) pa_nil))) (pg_tup rfl (pgs_cons (pg_name (i := 3) scMoves.nd rfl (.inl rfl)) (pgs_cons (pg_name (i := 4) scMoves.nd rfl (.inr rfl)) pgs_nil))))
      (pss_cons (ps_for PassesOwn.never rfl (pi_range1 rfl zr (pa_cons (pv 2) pa_nil)) (pg_name (i := 5) scMoves.nd rfl (.inl rfl))
        (pss_cons (ps_setLc (i := 6) (own := [("_law_state", 8)]) (g := gName 8) (te := teDr) rfl scMoves.nd rfl rfl (by rfl) (pi_range1 rfl zr (pa_cons (pv 1) pa_nil)) (blkOk_by (own := [("_law_state", 8)]) (N := NMv) (sc := defScope s_L_moves) (by decide +kernel)) (fun _ _ _ _ _ => pg_name (i := 8) scMoves.nd rfl (Or.inl rfl)) (fun _ _ _ _ _ => pts_nil)
          (fun _ _ _ _ _ => by exact pe_def DD r1 pass0 rfl (pa_cons (pv 0) (pa_cons (pv 1) pa_nil))))
        (pss_cons (ps_if (pt_cmpR op_eq (pv 3) pe_int (nomark _))
          (pss_one (ps_setLc (i := 6) (own := [("_law_state", 8), ("_law_goal", 9)]) (g := gTup K 2 (gCons (gName 8) (gCons (gName 9) gNil))) (te := teMax) rfl scMoves.nd rfl rfl (by rfl) (pi_enumA rfl zE (pv 6)) (blkOk_by (own := [("_law_state", 8), ("_law_goal", 9)]) (N := NMv) (sc := defScope s_L_moves) (by decide +kernel)) (fun _ _ _ _ _ => by exact pg_tup rfl (pgs_cons (pg_name (i := 8) scMoves.nd rfl (Or.inl rfl)) (pgs_cons (pg_name (i := 9) scMoves.nd rfl (Or.inl rfl)) pgs_nil))) (fun _ _ _ _ _ => pts_nil)
            (fun _ _ _ _ _ => by exact pe_callB (call_max2 rfl) rfl zm boot_max (pa_cons (pv 8) (pa_cons (pv 9) pa_nil)))))
          (pss_one (ps_if (pt_cmpR op_eq (pv 3) pe_int (nomark _))
            (pss_one (ps_set (i := 6) scMoves.nd rfl (.inl rfl) (pe_callB cr_sortedI rfl zs boot_sorted (pa_cons (pv 6) pa_nil))))
            (pss_one (ps_if (pt_cmpR op_eq (pv 3) pe_int (nomark _))
              (pss_cons (ps_set (i := 7) scMoves.nd rfl (.inr rfl) (pe_listRg rfl rfl zl (prg_1 rfl zr (pv 1))))
              (pss_one (ps_setLc (i := 6) (own := [("_law_state", 8)]) (g := gName 8) (te := tePop K) rfl scMoves.nd rfl rfl (by rfl) (pi_range1 rfl zr (pa_cons (pv 1) pa_nil)) (blkOk_by (own := [("_law_state", 8)]) (N := NMv) (sc := defScope s_L_moves) (by decide +kernel)) (fun _ _ _ _ _ => pg_name (i := 8) scMoves.nd rfl (Or.inl rfl)) (fun _ _ _ _ _ => pts_nil)
                (fun _ _ _ _ _ => by exact pe_bm PySem.F.plainAttrs_list PySem.F.slot_list_pop PySem.F.type_list_pop mt_popAt (pv 7) (pa_cons (pe_def DD r1 pass0 rfl (pa_cons (pv 0) (pa_cons (pe_callB call_len_seq rfl zn boot_len (pa_cons (pv 7) pa_nil)) pa_nil))) pa_nil)))))
              (pss_one (ps_if (pt_cmpR op_eq (pv 3) pe_int (nomark _))
                (pss_one (ps_set (i := 6) scMoves.nd rfl (.inl rfl) (pe_def DP (hr.mono (by decide)) pass0 rfl (pa_cons (pv 0) (pa_cons (pe_lst (pa_cons (pe_listRg rfl rfl zl (prg_1 rfl zr (pv 1))) (pa_cons (pe_op op_rep (pe_lst (pa_cons (pe_ix ix_list (pv 6) pe_int (fun _ _ => rfl)) pa_nil)) (pv 1)) (pa_cons (pv 6) pa_nil)))) pa_nil)))))
                pss_nil)))))))
        (pss_one (ps_expr (pe_bm PySem.F.plainAttrs_list PySem.F.slot_list_append PySem.F.type_list_append mt_append (pv 4) (pa_cons (pv 6) pa_nil)))))))
      (pss_one (ps_ret (pe_lc (own := [("_law_state", 8)]) (g := gName 8) (te := teRow K) (by rfl) scMoves.nd (pi_range1 rfl zr (pa_cons (pv 1) pa_nil)) (blkOk_by (own := [("_law_state", 8)]) (N := NMv) (sc := defScope s_L_moves) (by decide +kernel)) (fun _ _ _ _ _ => pg_name (i := 8) scMoves.nd rfl (Or.inr rfl)) (fun _ _ _ _ _ => pts_nil)
        (fun _ _ _ _ _ => by
          refine pe_lc (own := [("_law_goals", 6)]) (g := gName 6) (by rfl) scMoves.nd (pi_list (pv 4)) (blkOk_by (own := [("_law_goals", 6)]) (N := NMv) (sc := scMv1) (by decide +kernel)) (fun _ _ _ _ _ => ?_) (fun _ _ _ _ _ => pts_nil) (fun _ _ _ _ _ => ?_)
          · exact pg_name (i := 6) scMoves.nd rfl (Or.inl rfl)
          · exact pe_ix ix_list (pv 6) (pv 8) (fun _ _ => rfl))))))), ?_⟩
    refine ⟨_, rfl, l, n, 6, rfl, src, by omega, by omega, by omega, fun way H1 y0 y1 b1 src1 => ⟨(by show 0 ≤ sizeLine; decide), fun pc npc => ⟨(by show 2 ≤ sizeLine; decide), fun T nT => ⟨T, _, rfl, SqT.of upd_same, rfl, _, _, rfl, _, _, rfl, rfl, ?_⟩⟩⟩⟩
    have npl := src1.ne npc
    have s1 := same_upd (o := .lst []) npc
    have b2 := b1.trans (But.of s1)
    have src2 := src1.same s1
    have hc2 : L2.upd H1 pc (.lst []) pc = some (.lst (([] : List Addr).map V.ref)) := upd_same
    have hpc0 : H pc = none := Lf.But.nil b1 npl npc
    generalize L2.upd H1 pc (.lst []) = H2 at b2 src2 hc2 nT ⊢
    have s3 := same_upd (o := .tup [.int way, .ref pc]) nT
    have b3 := b2.trans (But.of s3)
    have src3 := src2.same s3
    have C3 : Cols (L2.upd H2 T (.tup [.int way, .ref pc])) l pc many 0 := ⟨npl, [], [], s3 _ _ hc2, rfl, rfl, fun j p g h => by simp at h⟩
    generalize L2.upd H2 T (.tup [.int way, .ref pc]) = H3 at b3 src3 C3 ⊢
    clear s1 b1 src1 b2 src2 hc2 nT s3 npc
    refine ⟨_, rfl, (wd : Nat), rfl, by omega, by omega, ?_⟩
    refine for_range (lo := 0) (n := wd) (fun c σ Hc => ∃ v5 v6 v7 : Option V, σ = [some (.ref l), some (.int (many : Nat)), some (.int (wd : Nat)), some (.int way), some (.ref pc), v5, v6, v7, none, none] ∧ But l H Hc ∧ Src Hc l (n + 1 + 20 * c) ∧ Cols Hc l pc many c) ⟨none, none, none, rfl, b3, src3, C3⟩ ?_ ?_
    · rintro c σ Hc hc ⟨v5, v6, v7, rfl, bc, sc, C⟩
      refine seq_asg (col_e sc (by omega) m1 m9 fun p g H4 b4 src4 np0 col => ?_)
      have bc4 := bc.trans b4
      have C4 := C.but b4
      have npp : p ≠ pc := C.pc np0
      show tSeq _ _ _ [some (.ref l), some (.int (many : Nat)), some (.int (wd : Nat)), some (.int way), some (.ref pc), some (.int (0 + (c : Nat))), some (.ref p), v7, none, none] H4
      refine seq_join (fun σ' H' => ∃ (v7 : Option V) (q : Addr) (g : List Nat), σ' = [some (.ref l), some (.int (many : Nat)), some (.int (wd : Nat)), some (.int way), some (.ref pc), some (.int (0 + (c : Nat))), some (.ref q), v7, none, none] ∧ But l H4 H' ∧ Src H' l (n + 1 + 20 * c + 18) ∧ Col H' l q g many ∧ q ≠ pc) ?_ ?_
      · rintro σ' H' ⟨v7, q, g, rfl, b5, src5, col5, nq⟩
        obtain ⟨_, ps, gs, hpc, lp, lg, cg⟩ := C4.but b5
        refine ⟨_, rfl, .inl ⟨rfl, _, SqL.of hpc⟩, _, rfl, pc, ps.map V.ref, _, rfl, rfl, hpc, by rw [List.length_map, lp]; show c < 16777216; omega, _, _, _, rfl, fun b o nb e => ?_, (src5.upd npl).up (by omega), npl, ps ++ [q], gs ++ [g], by rw [upd_same, List.map_append]; rfl, by rw [List.length_append, lp]; rfl, by rw [List.length_append, lg]; rfl, fun j p' g' h1 h2 => ?_⟩
        · rw [upd_ne (ne_of_none e hpc0)]
          exact b5 _ _ nb (bc4 b o nb e)
        · have cu : ∀ {p' g'}, Col H' l p' g' many ∧ p' ≠ pc → Col (L2.upd H' pc (.lst (ps.map V.ref ++ [.ref q]))) l p' g' many ∧ p' ≠ pc := fun z => ⟨⟨z.1.1, by rw [upd_ne z.2]; exact z.1.2.1, z.1.2.2⟩, z.2⟩
          rcases Mon.snoc_cases h1 with h1 | ⟨rfl, rfl⟩
          · rcases Mon.snoc_cases h2 with h2 | ⟨rfl, rfl⟩
            · exact cu (cg j p' g' h1 h2)
            · have := get_lt h1
              omega
          · rcases Mon.snoc_cases h2 with h2 | ⟨_, rfl⟩
            · have := get_lt h2
              omega
            · exact cu ⟨col5, nq⟩
      · intro nx hnx
        obtain ⟨hcp, hcg, hcv⟩ := id col
        refine ⟨_, rfl, rfl, _, rfl, ?_⟩
        refine ite2 (fun _ => ?_) (fun _ => ?_)
        · refine max_e (K := K) col m9 src4 fun q h H' s5 nq col' => ?_
          exact hnx _ _ ⟨v7, q, h, rfl, But.of s5, (src4.same s5).up (by omega), col', C4.pc nq⟩
        refine ⟨_, rfl, rfl, _, rfl, ?_⟩
        refine ite2 (fun _ => ?_) (fun _ => ?_)
        · refine ⟨_, rfl, p, g.map fun i => ((i : Nat) : Int), rfl, SqL.of (by rw [hcg, List.map_map]; rfl), fun ns' q pm pw nq => ?_⟩
          have h0 : ∀ x ∈ ns', ∃ k : Nat, x = (k : Nat) ∧ k < many := fun x hx => by
            obtain ⟨k, hk, rfl⟩ := List.mem_map.mp (pm.mem_iff.mp hx)
            exact ⟨k, rfl, hcv.2 k hk⟩
          have h1 : ns'.map V.int = (ns'.map Int.toNat).map nv := by
            rw [List.map_map]
            refine List.map_congr_left fun x hx => ?_
            obtain ⟨k, rfl, _⟩ := h0 x hx
            rfl
          refine hnx _ _ ⟨v7, q, ns'.map Int.toNat, rfl, But.of (same_upd nq), (src4.upd (src4.ne nq)).up (by omega), ⟨src4.ne nq, by rw [upd_same, h1], by rw [List.length_map, pm.length_eq, List.length_map, hcv.1], fun i hi => ?_⟩, C4.pc nq⟩
          obtain ⟨x, hx, rfl⟩ := List.mem_map.mp hi
          obtain ⟨k, rfl, hk⟩ := h0 x hx
          exact hk
        refine ⟨_, rfl, rfl, _, rfl, ?_⟩
        refine ite2 (fun _ => ?_) (fun _ => ?_)
        · refine ⟨_, rfl, (many : Nat), rfl, ⟨by decide, by decide, by omega, by omega, by omega⟩, fun lf nlf => ?_⟩
          rw [rgV_nv]
          have nfl := src4.ne nlf
          dsimp only [gName, tAsg, List.set, List.map]
          refine pop_e (K := K) (src4.upd nfl) (by omega) m1 m9 nfl upd_same fun q h H' b5 src5 nq col' => ?_
          have b6 : But2 l lf H4 H' := (But2.ofD But.upd).trans b5
          have nq4 : H4 q = none := by
            cases e : H4 q with
            | none => rfl
            | some o =>
              have : q ≠ lf := fun z => by rw [z, nlf] at e; cases e
              rw [upd_ne this, e] at nq
              cases nq
          exact hnx _ _ ⟨_, q, h, rfl, b6.done nlf, src5.up (by omega), col', C4.pc nq4⟩
        refine ⟨_, rfl, rfl, _, rfl, ?_⟩
        refine ite2 (fun _ => ?_) (fun _ => ?_)
        · refine ⟨_, rfl, _, rfl, (many : Nat), rfl, ⟨by decide, by decide, by omega, by omega, by omega⟩, fun q1 nq1 => ?_⟩
          rw [rgV_nv]
          have t1 := same_upd (o := .lst ((Mon.idm many).map nv)) nq1
          have h1 : L2.upd H4 q1 (.lst ((Mon.idm many).map nv)) q1 = some (.lst ((Mon.idm many).map nv)) := upd_same
          generalize L2.upd H4 q1 (.lst ((Mon.idm many).map nv)) = H5 at t1 h1 ⊢
          obtain ⟨g0, hg0⟩ := lt_get (show 0 < g.length by rw [hcv.1]; exact m1)
          have g0m := hcv.2 g0 (List.mem_of_getElem? hg0)
          refine ⟨_, rfl, p, g.map nv, 0, nv g0, rfl, rfl, SqL.of (t1 _ _ hcg), atI_nat (j := 0) (get_map hg0), (by show 1 ≤ sizeLine; decide), fun p0 np0 => ⟨_, rfl, p0, _, _, rfl, rfl, upd_same, by omega, by omega, by rw [Int.toNat_natCast]; show 1 * many ≤ 16777216; omega, fun q2 nq2 => ?_⟩⟩
          rw [Int.toNat_natCast, rep2]
          have t2 := t1.trans ((same_upd np0).trans (same_upd (o := .lst (List.replicate many (nv g0))) nq2))
          have h1' := same_upd (o := .lst (List.replicate many (nv g0))) nq2 _ _ (same_upd (o := .lst [nv g0]) np0 _ _ h1)
          have h2 : L2.upd (L2.upd H5 p0 (.lst [nv g0])) q2 (.lst (List.replicate many (nv g0))) q2 = some (.lst ((List.replicate many g0).map nv)) := by rw [upd_same, List.map_replicate]
          have nq20 : H4 q2 = none := nil_of (t1.trans (same_upd np0)) nq2
          generalize L2.upd (L2.upd H5 p0 (.lst [nv g0])) q2 (.lst (List.replicate many (nv g0))) = H6 at t2 h1' h2 ⊢
          refine ⟨_, rfl, (by show 3 ≤ sizeLine; decide), fun pl npl' => ?_⟩
          have t3 := t2.trans (same_upd (o := .lst [.ref q1, .ref q2, .ref p]) npl')
          have h1'' := same_upd (o := .lst [.ref q1, .ref q2, .ref p]) npl' _ _ h1'
          have h2' := same_upd (o := .lst [.ref q1, .ref q2, .ref p]) npl' _ _ h2
          have h3 : L2.upd H6 pl (.lst [.ref q1, .ref q2, .ref p]) pl = some (.lst [.ref q1, .ref q2, .ref p]) := upd_same
          have npll := (src4.same t2).ne npl'
          generalize L2.upd H6 pl (.lst [.ref q1, .ref q2, .ref p]) = H7 at t3 h1'' h2' h3 ⊢
          refine ⟨l, pl, n + 1 + 20 * c + many, _, rfl, src4.same t3, by omega, h3, npll, (by show 1 ≤ 3; decide), (by show 3 ≤ 1000; decide), fun x H' mx b5 src5 => ?_⟩
          have b6 : But l H4 H' := (But.of t3).trans b5
          have s6 := src5.up (show n + 1 + 20 * c + many + 1 ≤ n + 1 + 20 * c + 18 by omega)
          simp only [List.mem_cons, List.not_mem_nil, or_false] at mx
          rcases mx with rfl | rfl | rfl
          · exact hnx _ _ ⟨v7, q1, _, rfl, b6, s6, ⟨src4.ne nq1, b5 _ _ (src4.ne nq1) h1'', Mon.idm_valid⟩, C4.pc nq1⟩
          · exact hnx _ _ ⟨v7, q2, _, rfl, b6, s6, ⟨src4.ne nq20, b5 _ _ (src4.ne nq20) h2', List.length_replicate, fun i hi => by rw [List.eq_of_mem_replicate hi]; exact g0m⟩, C4.pc nq20⟩
          · exact hnx _ _ ⟨v7, p, g, rfl, b6, s6, col.but b6, npp⟩
        · exact hnx _ _ ⟨v7, p, g, rfl, fun _ _ _ e => e, src4.up (by omega), col, npp⟩
    · rintro σ Hc ⟨v5, v6, v7, rfl, bc, sc, C⟩
      refine turn_e (K := K) C sc m1 m9 w1 w4 fun r mv H' s5 nr R FM lm => ?_
      exact k r mv H' (bc.trans (But.of s5)) (Lf.But.nil bc (sc.ne nr) nr) R FM lm ((sc.same s5).up (by omega))
end
end K69

set_option Elab.async false
set_option linter.all false
set_option maxRecDepth 100000
set_option maxHeartbeats 8000000
namespace K69
open PySem PySem.Spec PyProof.Rows L2 Lf
/-- what _law_plan hands over: moves, the first state, the marked ones -/
structure Plan (H : Hp) (l T r pm : Addr) (mv : List (List Nat)) (wd first : Nat) (mk : List Nat) : Prop where
  t : T ≠ l ∧ H T = some (.tup [.ref r, .int (first : Nat), .ref pm])
  m : RowsH H l r mv
  f : FormM mv wd
  k : pm ≠ l ∧ H pm = some (.lst (mk.map nv))
  a : first < mv.length
  b : ∀ i ∈ mk, i < mv.length
  c : mk.length ≤ 9
  d : mv.length ≤ 9
theorem Plan.but {H H' : Hp} {l T r pm : Addr} {mv : List (List Nat)} {wd first : Nat} {mk : List Nat} (p : Plan H l T r pm mv wd first mk) (b : But l H H') : Plan H' l T r pm mv wd first mk :=
  ⟨⟨p.t.1, b _ _ p.t.1 p.t.2⟩, p.m.but b, p.f, ⟨p.k.1, b _ _ p.k.1 p.k.2⟩, p.a, p.b, p.c, p.d⟩
theorem Plan.same {H H' : Hp} {l T r pm : Addr} {mv : List (List Nat)} {wd first : Nat} {mk : List Nat} (p : Plan H l T r pm mv wd first mk) (b : Same H H') : Plan H' l T r pm mv wd first mk := p.but (But.of b)
def spPlan : Sp := fun vs H Q _ => ∃ l n, vs = [.ref l, .int 7] ∧ Src H l n ∧ n + 200 ≤ 1000000 ∧
  ∀ T r pm mv wd first mk H', But l H H' → H T = none → Plan H' l T r pm mv wd first mk → Src H' l (n + 200) → Q (.ref T) H'
abbrev NPl : List Str := ["_law_source_here", "_law_most", "_law_many", "_law_letters", "_law_moves_here", "_law_marked", "_law_state"]
abbrev ttMk : TT := fun σ H k => (fun σ H Q => (tCons (tVar 0) (tCons (tC (.int 2)) tNil)) σ H fun vs H1 => spDraw vs H1 Q E0) σ H fun x H1 => ∃ b, x = x ∧ k b H1
/-- where a word leads -/
def step (mv : List (List Nat)) (s c : Nat) : Nat := (mv.getD s []).getD c 0
def lead (mv : List (List Nat)) (s : Nat) (x : List Nat) : Nat := x.foldl (step mv) s
theorem step_lt {mv : List (List Nat)} {wd s c : Nat} (F : FormM mv wd) (hs : s < mv.length) (hc : c < wd) : ∃ row, mv[s]? = some row ∧ row[c]? = some (step mv s c) ∧ step mv s c < mv.length := by
  obtain ⟨row, hr⟩ := lt_get hs
  obtain ⟨h1, h2⟩ := F.2.2.2 row (List.mem_of_getElem? hr)
  obtain ⟨e, he⟩ := lt_get (show c < row.length by omega)
  have : step mv s c = e := by
    unfold step
    rw [Mon.getD_of hr, Mon.getD_of he]
  refine ⟨row, hr, by rw [this]; exact he, by rw [this]; exact h2 e (List.mem_of_getElem? he)⟩
theorem lead_lt {mv : List (List Nat)} {wd : Nat} (F : FormM mv wd) : ∀ {x : List Nat} {s : Nat}, s < mv.length → (∀ c ∈ x, c < wd) → lead mv s x < mv.length
  | [], s, hs, _ => hs
  | c :: x, s, hs, hx => by
    show lead mv (step mv s c) x < mv.length
    exact lead_lt F (step_lt F hs (hx c List.mem_cons_self)).choose_spec.2.2 fun d hd => hx d (List.mem_cons_of_mem _ hd)
section
variable {P : Program} {w : World} {K : PySem.W.Frag} {mg : Str → Option Value} {base : Heap}
theorem scPlan : FnScope NPl ["_law_source_here", "_law_most"] (defScope s_L_plan) := ⟨rfl, rfl, rfl, by decide +kernel, rfl, by decide +kernel, by decide +kernel⟩
theorem ok_plan {f : Addr} {fd : FuncData} {q : Str} (F : FunD K "_law_plan" q (defArgs s_L_plan) (defBody s_L_plan) (defScope s_L_plan) [] [] f fd) (zr : mg "range" = none)
    (DD : Def P w K mg base CX0 1 "_law_draw" ["_law_source_here", "_law_many"] spDraw) (DP : Def P w K mg base CX0 2 "_law_pick" ["_law_source_here", "_law_some"] spPick)
    (DM : Def P w K mg base CX0 3 "_law_moves" ["_law_source_here", "_law_many", "_law_letters"] spMoves) :
    FnOk P w K mg base CX0 4 f fd ["_law_source_here", "_law_most"] spPlan := by
  refine F.ok scPlan (fun vs H Q E h => ?_) (fun cdv A outer s H vs Q E hr h => ?_)
  · obtain ⟨l, n, rfl, _⟩ := h
    rfl
  · obtain ⟨l, n, rfl, src, n1, k⟩ := h
    have r1 : Room 1 _ := hr.mono (by decide)
    have r2 : Room 2 _ := hr.mono (by decide)
    refine ⟨_, PSs.nox (pss_cons (ps_par (i := 2) (j := 3) rfl scPlan.nd rfl rfl (by decide) rfl rfl (pa_cons (pe_op op_add pe_int (pe_def DD r1 pass0 rfl (pa_cons (pv 0) (pa_cons (pv 1) pa_nil)))) (pa_cons (pe_def DP r2 pass0 rfl (pa_cons (pv 0) (pa_cons (pe_lst (pa_cons pe_int (pa_cons pe_int (pa_cons pe_int (pa_cons pe_int (pa_cons pe_int pa_nil)))))) pa_nil))) pa_nil)) (by rfl))
      (pss_cons (ps_set (i := 4) scPlan.nd rfl (.inl rfl) (pe_def DM hr pass0 rfl (pa_cons (pv 0) (pa_cons (pv 2) (pa_cons (pv 3) pa_nil)))))
      (pss_cons (ps_setLc (i := 5) (own := [("_law_state", 6)]) (g := gName 6) (te := tVar 6) rfl scPlan.nd rfl rfl (by rfl) (pi_range1 rfl zr (pa_cons (pv 2) pa_nil)) (blkOk_by (own := [("_law_state", 6)]) (N := NPl) (sc := defScope s_L_plan) (by decide +kernel)) (fun _ _ _ _ _ => pg_name (i := 6) scPlan.nd rfl (Or.inl rfl)) (fun _ _ _ _ _ => by exact pts_one (pt_cmpR op_eq (pe_def DD r1 pass0 rfl (pa_cons (pv 0) (pa_cons pe_int pa_nil))) pe_int (nomark _)))
        (fun _ _ _ _ _ => pv 6))
      (pss_one (ps_ret (pe_tup (pa_cons (pv 4) (pa_cons (pe_def DD r1 pass0 rfl (pa_cons (pv 0) (pa_cons (pv 2) pa_nil))) (pa_cons (pv 5) pa_nil))))))))), ?_⟩
    refine ⟨_, rfl, _, rfl, l, n, 7, rfl, src, by omega, by omega, by omega, fun y H1 y0 y1 b1 src1 => ?_⟩
    obtain ⟨y, rfl⟩ : ∃ j : Nat, y = (j : Nat) := ⟨y.toNat, by omega⟩
    refine ⟨_, _, rfl, rfl, _, rfl, (by show 5 ≤ sizeLine; decide), fun pl npl => ?_⟩
    have npll := src1.ne npl
    have s2 := same_upd (o := .lst [.int 1, .int 2, .int 3, .int 2, .int 4]) npl
    refine ⟨l, pl, n + 1, _, rfl, src1.same s2, by omega, upd_same, npll, (by show 1 ≤ 5; decide), (by show 5 ≤ 1000; decide), fun x H2 mx b2 src2 => ⟨_, _, rfl, ?_⟩⟩
    have b3 := (b1.trans (But.of s2)).trans b2
    obtain ⟨wd, rfl, w1, w4⟩ : ∃ wd : Nat, x = .int (wd : Nat) ∧ 1 ≤ wd ∧ wd ≤ 4 := by
      simp only [List.mem_cons, List.not_mem_nil, or_false] at mx
      rcases mx with rfl | rfl | rfl | rfl | rfl
      · exact ⟨1, rfl, by decide, by decide⟩
      · exact ⟨2, rfl, by decide, by decide⟩
      · exact ⟨3, rfl, by decide, by decide⟩
      · exact ⟨2, rfl, by decide, by decide⟩
      · exact ⟨4, rfl, by decide, by decide⟩
    clear mx b2 src1 s2 b1 npl
    obtain ⟨many, hm⟩ : ∃ many, many = 1 + y := ⟨_, rfl⟩
    have em : (1 : Int) + ((y : Nat) : Int) = ((many : Nat) : Int) := by omega
    show tSeq _ _ _ [some (.ref l), some (.int 7), some (.int (1 + ((y : Nat) : Int))), some (.int (wd : Nat)), none, none, none] H2
    rw [em]
    refine ⟨_, rfl, _, rfl, _, rfl, l, n + 1 + 1, many, wd, rfl, src2, by omega, by omega, by omega, w1, w4, fun r mv H3 b4 nr R FM lm src3 => ?_⟩
    have b5 := b3.trans b4
    refine ⟨_, rfl, (many : Nat), rfl, by omega, by omega, fun D nD => ?_⟩
    have nDl := src3.ne nD
    refine lc_range (lo := 0) (n := many) (fun i Hc => But2 l D H3 Hc ∧ Src Hc l (n + 1 + 1 + 100 + i) ∧ ∃ mk : List Nat, Hc D = some (.lst (mk.map nv)) ∧ mk.length ≤ i ∧ ∀ e ∈ mk, e < many) ⟨But2.ofD But.upd, src3.upd nDl, [], upd_same, Nat.le_refl _, fun _ h => by simp at h⟩ (fun i Hc hi ⟨bt, sc, mk, hD, lk, ak⟩ => ?_) (fun Hc ⟨bt, sc, mk, hD, lk, ak⟩ => ?_)
    · have ei : (0 : Int) + (i : Nat) = (i : Nat) := by omega
      rw [ei]
      refine ⟨rfl, ?_⟩
      refine ⟨_, rfl, l, n + 1 + 1 + 100 + i, 2, rfl, sc, by omega, by omega, by omega, fun k0 H' _ _ b' src' => ⟨rfl, _, rfl, ?_⟩⟩
      have hD' := b' _ _ nDl hD
      refine ite2 (fun _ => ?_) (fun _ => ?_)
      · refine ⟨_, rfl, _, hD', by rw [List.length_map]; show mk.length < 16777216; omega, (bt.trans (But2.ofL b')).trans (But2.ofD But.upd), src'.upd nDl, mk ++ [i], by rw [upd_same, List.map_append]; rfl, by rw [List.length_append, List.length_singleton]; omega, valid_snoc ak (by omega)⟩
      · exact ⟨bt.trans (But2.ofL b'), src', mk, hD', by omega, ak⟩
    · have b6 := b5.trans (bt.done nD)
      have R6 := R.but (bt.done nD)
      refine ⟨_, rfl, _, rfl, _, rfl, l, _, many, rfl, sc, by omega, by omega, by omega, fun st H5 s0 s1 b7 src7 => ⟨_, rfl, (by show 3 ≤ sizeLine; decide), fun T nT => ?_⟩⟩
      obtain ⟨st, rfl⟩ : ∃ j : Nat, st = (j : Nat) := ⟨st.toNat, by omega⟩
      have sT := same_upd (o := .tup [.ref r, .int (st : Nat), .ref D]) nT
      have nTl := src7.ne nT
      refine k T r D mv wd st mk _ ((b6.trans b7).trans (But.of sT)) (Lf.But.nil (b6.trans b7) nTl nT) ⟨⟨nTl, upd_same⟩, (R6.but b7).same sT, FM, ⟨nDl, sT _ _ (b7 _ _ nDl hD)⟩, by omega, fun i hi => by rw [lm]; exact ak i hi, by omega, by omega⟩ ((src7.same sT).up (by omega))
end
end K69

set_option Elab.async false
set_option linter.all false
set_option maxRecDepth 100000
set_option maxHeartbeats 4000000
/-! list(text), text * n; texts by their signs. -/
namespace Lf
open PySem PySem.Spec PyProof.Rows L2
/-- a text of signs -/
def tx (cs : List Nat) : Str := ⟨cs.toArray⟩
theorem tx_len (cs : List Nat) : (tx cs).length = cs.length := by
  show cs.toArray.size = _
  simp
theorem tx_list (cs : List Nat) : (tx cs).cps.toList = cs := rfl
theorem tx_app (a b : List Nat) : tx a ++ tx b = tx (a ++ b) := by
  show Str.mk (a.toArray ++ b.toArray) = Str.mk (a ++ b).toArray
  simp
theorem tx_inj {a b : List Nat} (h : tx a = tx b) : a = b := by
  have := congrArg (fun z : Str => z.cps.toList) h
  exact this
theorem tx_of (z : Str) : z = tx z.cps.toList := by
  obtain ⟨⟨l⟩⟩ := z
  rfl
theorem call_listStr {X : Cx} (hc : X.calm = true) : CallR X (.type "list") (fun xs H Q => ∃ cs : List Nat, xs = [.str (tx cs)] ∧ cs.length ≤ sizeLine ∧ ∀ l, H l = none → Q (.ref l) (upd H l (.lst (cs.map fun c => V.str (tx [c]))))) := by
  intro pins s σ H xs us Q I r h
  obtain ⟨cs, rfl, hz, q⟩ := h
  obtain ⟨u, rfl, rx⟩ := vals1 r
  obtain ⟨t, rfl⟩ := rx
  have sz : (tx cs).cps.size = cs.length := by simp [tx]
  refine call_list_str (I.ok.hd hc) (tx cs) t (fun h' tk acc' c' kp e it => ?_) (by rw [sz]; exact hz)
  have la : acc'.toList.length = cs.length := by rw [Array.length_toList, it.1, sz]
  have rv : Vals (cs.map fun c => V.str (tx [c])) acc'.toList := by
    have g : ∀ (cs : List Nat) (us : List Value), us.length = cs.length → (∀ (j : Nat) (v : Value), us[j]? = some v → ∃ (c : Nat) (u : Tok), cs[j]? = some c ∧ v = Value.str ⟨#[c]⟩ u) → Vals (cs.map fun c => V.str (tx [c])) us := by
      intro cs
      induction cs with
      | nil =>
        intro us hl _
        cases us with
        | nil => exact .nil
        | cons a b => simp at hl
      | cons c cs ih =>
        intro us hl hv
        cases us with
        | nil => simp at hl
        | cons a b =>
          refine .cons ?_ (ih b (by simpa using hl) fun j v hj => hv (j + 1) v hj)
          obtain ⟨c', u, e1, e2⟩ := hv 0 a rfl
          cases e1
          exact ⟨u, e2⟩
    refine g cs _ la fun j v hj => ?_
    have hj' : acc'[j]? = some v := by rw [← Array.getElem?_toList]; exact hj
    obtain ⟨c, u, e1, e2⟩ := it.2 j v hj'
    refine ⟨c, u, ?_, e2⟩
    rw [← Array.getElem?_toList] at e1
    exact e1
  refine ⟨.ref s.heap.objs.size, _, I.laid (t' := tk) kp (Nat.le_refl _) (show ObjOk X.prog X.w _ h' _ (.lst (cs.map fun c => V.str (tx [c]))) from ⟨by rw [List.length_map]; exact hz, acc'.toList, c', rv, ?_⟩), rfl, q _ (I.hok.fresh (Nat.le_refl _))⟩
  exact e
theorem foldl_app (x : Array Nat) : ∀ (n : Nat) (a : Array Nat), (List.replicate n x).foldl (· ++ ·) a = a ++ (List.replicate n x.toList).flatten.toArray
  | 0, a => by simp
  | n + 1, a => by
    rw [List.replicate_succ, List.foldl_cons, foldl_app x n, List.replicate_succ, List.flatten_cons]
    apply Array.ext'
    simp
theorem flat_len (n : Nat) (cs : List Nat) : (List.replicate n cs).flatten.length = n * cs.length := by
  induction n with
  | zero => rw [Nat.zero_mul]; rfl
  | succ n ih => rw [List.replicate_succ, List.flatten_cons, List.length_append, ih, Nat.succ_mul, Nat.add_comm]
theorem op_mul_str {X : Cx} : OpR X (binaryOp .Mult) (fun x y H Q => ∃ (cs : List Nat) (n : Nat), x = .str (tx cs) ∧ y = .int (n : Nat) ∧ 2 ≤ n ∧ n ≤ 1000 ∧ 1 ≤ cs.length ∧ cs.length ≤ 1000 ∧ Q (.str (tx (List.replicate n cs).flatten)) H) := by
  intro pins s σ H x y v u Q I rx ry h
  obtain ⟨cs, n, rfl, rfl, h2, hn, l1, l2, q⟩ := h
  obtain ⟨t, rfl⟩ := rx
  obtain ⟨t', rfl⟩ := ry
  have ll : (tx cs).length = cs.length := tx_len cs
  have nl : ¬ ((n : Nat) : Int) < 1 := by omega
  have no : (((n : Nat) : Int) == 1 || (tx cs).length == 0) = false := by
    rw [ll]
    have a : (((n : Nat) : Int) == 1) = false := by
      apply beq_false_of_ne
      omega
    have b : (cs.length == 0) = false := by
      apply beq_false_of_ne
      omega
    rw [a, b]
    rfl
  have hm : cs.length * n ≤ 1000000 := by
    have := Nat.mul_le_mul l2 hn
    omega
  refine P.mul_str ?_ (fun _ _ => ?_) (fun _ _ => ?_) ?_
  · rw [decide_eq_false (by omega), decide_eq_false (by omega)]
    rfl
  · rw [ll]
    have : (cs.length : Int) ≤ (2 ^ 63 - 1) / (n : Nat) := by
      rw [Int.le_ediv_iff_mul_le (by omega)]
      have : ((cs.length * n : Nat) : Int) ≤ 1000000 := Int.ofNat_le.mpr hm
      rw [Int.natCast_mul] at this
      omega
    omega
  · rw [ll, Int.toNat_natCast]
    have : ¬ cs.length * n > sizeLine := by rw [sizeLine_eq]; omega
    show decide (cs.length * n > sizeLine) = false
    exact decide_eq_false this
  · rw [if_neg nl, no, if_neg (by decide), Int.toNat_natCast]
    have e : (⟨(List.replicate n (tx cs).cps).foldl (· ++ ·) #[]⟩ : Str) = tx (List.replicate n cs).flatten := by
      rw [foldl_app]
      show Str.mk (#[] ++ (List.replicate n cs).flatten.toArray) = _
      rw [Array.empty_append]
      rfl
    rw [e]
    refine ⟨?_, ⟨.str (tx (List.replicate n cs).flatten), H, I.tok _, ⟨_, rfl⟩, q⟩⟩
    rw [tx_len]
    have : (List.replicate n cs).flatten.length = n * cs.length := flat_len n cs
    rw [this, sizeLine_eq, Nat.mul_comm]
    omega
end Lf

set_option Elab.async false
set_option linter.all false
set_option maxRecDepth 100000
set_option maxHeartbeats 4000000
/-! try: .. except X as e: .. except Y: ..; what a suite asks of e: isinstance, told(). -/
namespace Lf
open PySem PySem.Spec PyProof.Rows L2
/-- clauses: the first one by a name, the others without -/
def wAsM (K : PySem.W.Frag) (c : Value) (i : Nat) (ts : Addr → Value → Option Addr → TS) (rest : Ends → WX) (D : Ends) : WX := fun cls d σ H =>
  ∃ b, PySem.W.exmOne K cls c = some b ∧ (b = true → ∀ a, H a = none → ts a cls d ⟨fun σ' H' => D.nx (σ'.set i none) H', D.rt, fun σ' H' => D.bk (σ'.set i none) H', fun σ' H' => D.ct (σ'.set i none) H'⟩ (σ.set i (some (.ref a))) H) ∧ (b = false → rest D cls d σ H)
/-- with as many slots as there are names -/
def wLen (n : Nat) (W : WX) : WX := fun cls d σ H => σ.length = n → W cls d σ H
section
variable {X : Cx} {x n : Str} {c : Value} {i : Nat} {body suite : List Stmt} {b1 : Stmt} {np pos p3 : Pos} {tb : WX → TS} {ts : Addr → Value → Option Addr → TS} {Wout : WX} {more : List ExceptHandler} {l : List (Value × (Addr → Value → Option Addr → TS))}
theorem ps_try_asM (st : X.stack = X.env :: X.outer) (fr : X.env.frame = some X.env.locals) (nd : X.N.Nodup) (ni : X.N[i]? = some n) (kd : X.env.kindOf n = some .local) (nm : Names X x c) (tk : Takes X Wout)
    (inner : ∀ (W : WX) (pn : List (Addr × Obj)) (xe : Value → Shared → Prop), Takes (X.tr pn xe) W → PassesOwn (model X.prog X.w) X.A X.env xe → PSs (X.tr pn xe) body (tb W))
    (first : ∀ (a : Addr) (o : Obj) (cls : Value) (d : Option Addr) (pn : List (Addr × Obj)), Zc cls d o → (∃ vs, o.data = .fields vs) → PSs (X.suite a ((a, o) :: pn)) (b1 :: suite) (ts a cls d)) (others : HdsOk X more l) :
    PS X (.Try body (.ExceptHandler (some (.Name x np)) (some n) (b1 :: suite) p3 :: more) [] [] pos) (fun D σ H => tb (wLen X.N.length (wAsM X.K c i ts (fun D => wMany X.K Wout D l) D)) D σ H) := by
  refine ⟨fun pins s σ H D I0 h => ?_⟩
  have ok := I0.ok
  have fa : X.A.frames = some (X.env :: X.outer) := by rw [ok.frames, st]
  have lc : Loc X.env.scope n := .inl kd
  refine wpAny_Try_except ?_
  refine wpAny_mono ((inner (wLen X.N.length (wAsM X.K c i ts (fun D => wMany X.K Wout D l) D)) (X.pn ++ pins) (fun e s1 => wpAny (model X.prog X.w) X.A (noteFrame e X.env) (fun _ s2 => wpAny (model X.prog X.w) X.A (setFlight e none) (fun _ s3 =>
    wpAny (model X.prog X.w) X.A (handleBy e X.env (.ExceptHandler (some (.Name x np)) (some n) (b1 :: suite) p3 :: more)) (SP X pins D) X.xe s3) X.xe s2) X.xe s1) (fun u s' q => ?_) PassesOwn.looking).run [] s σ H D (I0.toTry _) h) (fun f s1 q => ?_) (fun e s1 q => q)
  · obtain ⟨a, B, sI, pins', σ', H', cls, d, rfl, J', nb, up, sky, na, os, ag, w⟩ := q
    have J0 : Inv X pins σ' H' sI := J'.ofTry ok
    have sk : Sky B (X.env :: X.outer) a (Zc cls d) X.env.locals s'.heap := by rw [← st]; exact sky
    show wpAny (model X.prog X.w) X.A (noteFrame (.ref a) X.env) _ _ _
    refine Sky.land Zc.steady fa fr sk fun h1 g1 u1 => ?_
    have J1 : Inv X pins σ' H' { s' with heap := h1 } := J0.landed nb g1.1 (up.trans u1) os ag
    obtain ⟨o1, v1, e1, z1, d1⟩ := g1.there
    have off : a ∉ frs (X.env :: X.outer) := fun hm => by
      obtain ⟨_, o', e', nf⟩ := g1.2.2.1.mem hm
      rw [e1] at e'
      cases e'
      exact nf _ d1
    have nL : a ≠ X.env.locals := fun z => off (List.mem_filterMap.mpr ⟨X.env, List.mem_cons_self, by rw [fr, z]⟩)
    have nF : a ∉ X.fs := fun hm => by
      obtain ⟨e, he, q⟩ := List.mem_filterMap.mp hm
      exact off (List.mem_filterMap.mpr ⟨e, List.mem_cons_of_mem _ he, q⟩)
    have S1 := J1.suite e1 d1 na nL nF
    have L1 : PySem.W.Looks (model X.prog X.w) h1 (typeOf (.ref a)) cls := fun A Q E s k q => wpAny_typeOf_ref (k _ _ e1) (by rw [z1.1]; exact q)
    have asks : ∀ {y : Str} {cv : Value} {yp : Pos} {Q : Value → Shared → Prop} {E : Value → Shared → Prop}, Names X y cv → Q cv { s' with heap := h1 } → wpAny (model X.prog X.w) (X.A.mark (some (.ref a))) (eval (.Name y yp) X.env) Q E { s' with heap := h1 } := fun {y cv yp Q E} nm q => by
      obtain ⟨hg, hb, hm | ⟨hm, hv, hn⟩⟩ := nm
      · exact ld_glob (X := X.suite a ((a, o1) :: (X.pn ++ pins))) S1 hg hm q hb
      · exact ld_blt (X := X.suite a ((a, o1) :: (X.pn ++ pins))) S1 hg hm hv q hn hb
    have rest : ∀ {hs : List ExceptHandler} {l' : List (Value × (Addr → Value → Option Addr → TS))}, HdsOk X hs l' → wMany X.K Wout D l' cls d σ' H' →
        wpAny (model X.prog X.w) X.A (handleBy (.ref a) X.env hs) (SP X pins D) X.xe { s' with heap := h1 } := by
      intro hs l' hk
      induction hk with
      | nil =>
        intro w
        refine wpAny_handleBy_nil ?_
        obtain ⟨k1, k2, k3, oe, vs, T, oT, ts', he, hz, hd, f1, hr⟩ := id g1
        unfold PySem.passOn
        refine wpAny_bind (wpAny_field he hd f1 ?_)
        rw [if_neg (show ¬ ((Value.ref T == Value.none) = true) from by simp)]
        have out : wpAny (model X.prog X.w) X.A (setFlight (.ref a) X.env.frame) (fun _ s4 => wpAny (model X.prog X.w) X.A (throw (.ref a) : Sem Flow) (SP X pins D) X.xe s4) X.xe { s' with heap := h1 } := by
          rw [fr]
          exact HandSPX.setFlight_upZ g1 fun h2 b2 u2 => wpAny_throw (tk _ _ ⟨a, B, sI, pins, σ', H', cls, d, rfl, J0, nb, (up.trans u1).trans u2, .inr (.inr (by rw [st]; exact b2)), na, os, ag, w⟩)
        first
          | exact wpAny_bind (wpAny_pure (wpAny_bind out))
          | exact wpAny_bind out
      | @cons y cv ts2 c1 suite2 yp p4 more2 l2 nm2 hsu r ih =>
        intro w
        obtain ⟨b, hb1, yes, no⟩ := w
        refine wpAny_handleBy_cons (codeAny_handlers_test ?_) (by intro q; cases q)
        refine asks nm2 ((PySem.W.exm_one (M := model X.prog X.w) J1.kIn L1 hb1).here ?_)
        cases b with
        | true =>
          refine codeAny_handlers_suite ?_
          refine HandSPX.lands_againZ g1 fun h2 g2 u2 => ?_
          have J2 : Inv X pins σ' H' { s' with heap := h2 } := J0.landed nb g2.1 ((up.trans u1).trans u2) os ag
          obtain ⟨o2, v2, e2, z2, d2⟩ := g2.there
          refine wpAny_mono ((hsu a o2 cls d (X.pn ++ pins) z2 ⟨_, d2⟩).run [] _ _ H' _ (J2.suite e2 d2 na nL nF) (yes rfl a na)) (fun f s6 q => ?_) (fun _ _ z => False.elim z)
          cases f with
          | ret u =>
            obtain ⟨v6, σ6, H6, S6, r6, q6⟩ := q
            exact ⟨_, _, _, S6.unsuite ok, r6, q6⟩
          | next => obtain ⟨σ6, H6, S6, q6⟩ := q; exact ⟨_, _, S6.unsuite ok, q6⟩
          | brk => obtain ⟨σ6, H6, S6, q6⟩ := q; exact ⟨_, _, S6.unsuite ok, q6⟩
          | cont => obtain ⟨σ6, H6, S6, q6⟩ := q; exact ⟨_, _, S6.unsuite ok, q6⟩
        | false =>
          show wpAny _ X.A (handleBy (.ref a) X.env more2) _ _ _
          exact ih (no rfl)
    obtain ⟨b, hb1, yes, no⟩ := w J0.len
    refine wpAny_handleBy_cons (codeAny_handlers_test ?_) (by intro q; cases q)
    refine asks nm ((PySem.W.exm_one (M := model X.prog X.w) J1.kIn L1 hb1).here ?_)
    cases b with
    | false =>
      show wpAny _ X.A (handleBy (.ref a) X.env more) _ _ _
      exact rest others (no rfl)
    | true =>
      refine codeAny_handlers_suite_as ?_
      refine HandSPX.lands_againZ g1 fun h2 g2 u2 => ?_
      have J2 : Inv X pins σ' H' { s' with heap := h2 } := J0.landed nb g2.1 ((up.trans u1).trans u2) os ag
      obtain ⟨o2, v2, e2, z2, d2⟩ := g2.there
      refine store_ok (X := X.suite a ((a, o2) :: (X.pn ++ pins))) (v := .ref a) (J2.suite e2 d2 na nL nF) nd ni lc rfl (fun s5 S5 => ?_) (.inr kd)
      refine wpAny_mono ((first a o2 cls d (X.pn ++ pins) z2 ⟨_, d2⟩).run [] s5 _ H' _ S5 (yes rfl a na)) (fun f s6 q => ?_) (fun _ _ z => False.elim z)
      have gone : ∀ {σ6 : L2.St} {H6 : Hp} {Q : Shared → Prop}, Inv (X.suite a ((a, o2) :: (X.pn ++ pins))) [] σ6 H6 s6 → (∀ s7, Inv X pins (σ6.set i none) H6 s7 → Q s7) →
          wpAny (model X.prog X.w) X.A (do bindName X.env n .none; unbindBehindTheSuite X.env n p3) (fun _ s7 => Q s7) X.xe s6 := fun {σ6 H6 Q} S6 hq => gone_ok (S6.unsuite ok) nd ni kd hq
      cases f with
      | ret u =>
        obtain ⟨v6, σ6, H6, S6, r6, q6⟩ := q
        exact gone S6 fun s7 J7 => ⟨_, _, _, J7, r6, q6⟩
      | next => obtain ⟨σ6, H6, S6, q6⟩ := q; exact gone S6 fun s7 J7 => ⟨_, _, J7, q6⟩
      | brk => obtain ⟨σ6, H6, S6, q6⟩ := q; exact gone S6 fun s7 J7 => ⟨_, _, J7, q6⟩
      | cont => obtain ⟨σ6, H6, S6, q6⟩ := q; exact gone S6 fun s7 J7 => ⟨_, _, J7, q6⟩
  · cases f with
    | ret u =>
      obtain ⟨v, σ', H', J', r, q⟩ := q
      exact ⟨v, σ', H', J'.ofTry ok, r, q⟩
    | next => obtain ⟨σ', H', J', q⟩ := q; exact wpAny_execs_nil ⟨σ', H', J'.ofTry ok, q⟩
    | brk => obtain ⟨σ', H', J', q⟩ := q; exact ⟨σ', H', J'.ofTry ok, q⟩
    | cont => obtain ⟨σ', H', J', q⟩ := q; exact ⟨σ', H', J'.ofTry ok, q⟩
end

/-- a block by a reading that is chosen when its slots and heap are known -/
theorem pss_some {X : Cx} {b : List Stmt} {ts : TS} (h : ∀ D σ H, ts D σ H → ∃ t, PSs X b t ∧ t D σ H) : PSs X b ts := ⟨fun pins s σ H D I q => by
  obtain ⟨t, p, z⟩ := h D σ H q
  exact p.run pins s σ H D I z⟩
theorem pe_some {X : Cx} {e : Expr} {te : TE} (h : ∀ σ H Q, te σ H Q → ∃ t, PE X e t ∧ t σ H Q) : PE X e te := ⟨fun pins s σ H Q I q => by
  obtain ⟨t, p, z⟩ := h σ H Q q
  exact p.run pins s σ H Q I z⟩

/-! ### a def called while an exception is handled: it raises nothing -/
structure FnW (P : Program) (w : World) (K : PySem.W.Frag) (mg : Str → Option Value) (base : Heap) (k : Nat) (f : Addr) (fd : FuncData) (ps : List Str) (sp : Sp) : Prop where
  len : ∀ vs H Q E, sp vs H Q E → vs.length = ps.length
  run : ∀ (A : Around) (outer : List Env) (s : Shared) (H : Hp) (args : Args) (us : List Value) (vs : List V) (Q : VK) (p : Addr × Obj), L2H.RoomH k A → L2H.PinOk outer H s p → Env0 P w K mg base A outer s H → BindsTo s fd args (ps.zip us) → Vals vs us → sp vs H Q E0 →
    codeAny (model P w) A (.call (.ref f) args) (CR CX0 outer P w H s Q E0) s
section
variable {P : Program} {w : World} {K : PySem.W.Frag} {mg : Str → Option Value} {base : Heap} {x qual : Str} {params : Arguments} {body : List Stmt} {scope : Scope} {dvs : List V} {kws : List (Str × V)} {f : Addr} {fd : FuncData}
theorem fnW_of {N ps : List Str} {k : Nat} {sp : Sp} (F : FunD K x qual params body scope dvs kws f fd) (S : FnScope N ps scope) (len : ∀ vs H Q E, sp vs H Q E → vs.length = ps.length)
    (hbody : ∀ (cdv : Value) (A : Around) (outer : List Env) (s : Shared) (H : Hp) (vs : List V) (Q : VK) (p : Addr × Obj), L2H.RoomH k (A.deeper (envOfC qual scope s.heap.objs.size f cdv)) → sp vs H Q E0 →
      ∃ t, PSs (L2H.cxH CX0 P w K mg base N qual scope f cdv A outer s H E0 p) body t ∧ t { nx := fun _ H' => Q .non H', rt := Q } (L2.start N vs) H) : FnW P w K mg base (k + 1) f fd ps sp := by
  obtain ⟨oc, od, dV, kV, doc, pm, an, cdv, ct, osl, rfl, lk, cd, _, _⟩ := F.ex
  refine ⟨len, fun A outer s H args us vs Q p room pin env bd rel told => ?_⟩
  have ln := len _ _ _ _ told
  have KX : K.In s.heap := env.mod.kin.keeps fun b o e => (env.bs b o e).1
  have kinds : ∀ y ∈ ps.zip us, scope.names.lookup y.1 = some .local ∨ (scope.names.lookup y.1 = some .cell ∧ ((cellsFrom (s.heap.objs.size + 1) scope.names []).lookup y.1).isSome = true) := fun ⟨m, v⟩ hy =>
    (S.par m (List.of_mem_zip hy).1).imp id fun q => ⟨q, PySem.W.cellsFrom_some _ _ _ (.inl q)⟩
  refine codeAny_call_function room.depth (KX _ _ lk) rfl S.co S.gen rfl (PySem.W.codeRec_of KX cd) (bd _ _ _ _ ?_)
  refine wpAny_newFunctionEnv_cells S.kind kinds fun en he s1 inC => ?_
  subst he
  refine ⟨(env.mod.nolimit.keeps fun b o e => (env.bs b o e).1).keeps inC.toInCall.keep, codeAny_func ?_⟩
  obtain ⟨t, ht, hq⟩ := hbody cdv A outer s H vs Q p (room.deeper _) told
  have I0 := L2H.inv_startH (CX := CX0) (E := E0) S pin env ln rel inC
  refine wpAny_mono (ht.run [] s1 (L2.start N vs) H _ I0 hq) (fun fl s' hs => ?_) fun e s' hs => hs
  cases fl with
  | ret u =>
    obtain ⟨v, σ', H', J, rv, q⟩ := hs
    exact ⟨v, H', J.os, J.bare, J.base, J.hok, rv, q⟩
  | next =>
    obtain ⟨σ', H', J, q⟩ := hs
    exact ⟨V.non, H', J.os, J.bare, J.base, J.hok, rfl, q⟩
  | brk => obtain ⟨_, _, _, q⟩ := hs; exact q.elim
  | cont => obtain ⟨_, _, _, q⟩ := hs; exact q.elim
/-- told() of one text, there -/
theorem told_okW {t : Str} {j : Nat} {p p2 : Pos} (F : FunD K "told" qual params [.Return (some (.Constant (.str t) j p)) p2] scope [] [] f fd) (S : FnScope ["self"] ["self"] scope) : FnW P w K mg base 1 f fd ["self"] (spTold t) := by
  refine fnW_of F S (fun vs H Q E h => ?_) (fun cdv A outer s H vs Q pp hr h => ?_)
  · obtain ⟨v, rfl, _⟩ := h
    rfl
  · obtain ⟨v, rfl, q⟩ := h
    exact ⟨_, pss_one (ps_ret pe_str), q⟩
end
section
variable {X : Cx} {a C f : Addr} {o1 : Obj} {pn : List (Addr × Obj)} {d : Option Addr} {m : Str} {fd : FuncData} {sp : Sp} {k : Nat}
/-- the caught error as an instance -/
theorem caught_inst {pins : List (Addr × Obj)} {σ : L2.St} {H : Hp} {s : Shared} (I : Inv (X.suite a ((a, o1) :: pn)) pins σ H s) (z : Zc (.ref C) d o1) (fl : ∃ vs, o1.data = .fields vs) (hd : ∀ dx, d = some dx → ∃ fs, H dx = some (exd dx fs) ∧ fs.lookup m = none) :
    ∃ od, PySem.W.InstAt s.heap a o1 C od ∧ PySem.W.shadowIn od m = some false := by
  obtain ⟨g, _⟩ := I.pin (a, o1) (List.mem_append_left _ List.mem_cons_self)
  obtain ⟨vs, hv⟩ := fl
  have nc : PySem.W.notCls o1 = true := by unfold PySem.W.notCls; rw [hv] <;> rfl
  cases d with
  | none => exact ⟨none, ⟨g, z.1, nc, by rw [z.2]; trivial⟩, rfl⟩
  | some dx =>
    obtain ⟨fs, e, lk⟩ := hd dx rfl
    obtain ⟨mA, ns, rel⟩ := exd_at I.hok e
    obtain ⟨od, h2, hk⟩ := lookIn_ns ns
    refine ⟨some od, ⟨g, z.1, nc, by rw [z.2]; exact h2⟩, ?_⟩
    have hm : mA m = none := by
      have r := rel m
      rw [lk] at r
      cases y : mA m with
      | none => rfl
      | some v => rw [y] at r; exact r.elim
    show (PySem.W.lookIn m od).map _ = _
    rw [hk, hm]
    rfl
def tToldC (a : Addr) (d : Option Addr) (m : Str) (sp : Sp) (te : TE) : TE := fun σ H Q => te σ H fun x H1 => x = .ref a ∧ (∀ dx, d = some dx → ∃ fs, H1 dx = some (exd dx fs) ∧ fs.lookup m = none) ∧ sp [.ref a] H1 Q E0
/-- e.m() of the caught error e -/
theorem pe_toldC {o : Expr} {te : TE} {pos apos : Pos} {pl : Sem Bool} (T : IsC X.K C) (M : Meth X.K C m f) (F : FnW X.prog X.w X.K X.mg X.base k f fd ["self"] sp) (hb : L2.Binds X.K fd ["self"] []) (hr : L2H.RoomH k X.A) (z : Zc (.ref C) d o1) (fl : ∃ vs, o1.data = .fields vs)
    (he : PE (X.suite a ((a, o1) :: pn)) o te)
    (ht : eval (.Call (.Attribute o m apos) [] [] pos) X.env = (do
      let ov ← eval o X.env
      standAt apos.atName
      let (f, first) ← holding [ov] (getMethod ov m pl)
      callWith pos f first (backTo pos (starEach [] X.env)) (backToKw pos (keywordEach [] X.env))) := by rfl) :
    PE (X.suite a ((a, o1) :: pn)) (.Call (.Attribute o m apos) [] [] pos) (tToldC a d m sp te) := by
  refine ⟨fun pins s σ H Q I h => ?_⟩
  refine PySem.W.methodCall_KW (pl := pl) (thn (he.run pins s σ H _ I h) fun u s1 hh => ?_) ht
  obtain ⟨x, H1, I1, rx, rfl, hd, q⟩ := hh
  obtain rfl : u = Value.ref a := rx
  obtain ⟨mm, fr⟩ := I1.fr
  obtain ⟨od, J, sh⟩ := caught_inst I1 z fl hd
  refine PySem.W.method_exc fr I1.ok.mod.kin J T.ga T.gg M.at_ M.fn sh (PySem.W.callWith_K0 (first := [.ref a]) I1.kIn M.kp ?_)
  have pin := I1.pin (a, o1) (List.mem_append_left _ List.mem_cons_self)
  have pk : L2H.PinOk (X.suite a ((a, o1) :: pn)).stack H1 s1 (a, o1) := ⟨pin.1, pin.2.1, fun hm => (List.mem_cons.mp (I1.stkSub _ hm)).elim pin.2.2.1 pin.2.2.2.1, pin.2.2.2.2⟩
  have room : L2H.RoomH k (X.suite a ((a, o1) :: pn)).A := ⟨hr.dp, hr.un⟩
  have bd := hb s1 [.ref a] I1.kIn rfl
  refine wpAny_call (codeAny_mono (F.run _ _ s1 H1 ⟨[.ref a], []⟩ [.ref a] [.ref a] Q (a, o1) room pk I1.env0 (by simpa using bd) (.cons rfl .nil) q) fun r s' hq => ?_)
  cases r with
  | error e => exact (show False from hq).elim
  | ok fl' =>
    cases fl' with
    | ret u => exact I1.after hq
    | next => exact hq.elim
    | brk => exact hq.elim
    | cont => exact hq.elim
/-- isinstance(e, c), e the caught error -/
def rIsC (K : PySem.W.Frag) (a C : Addr) (d : Option Addr) : List V → Hp → VK → Prop := fun xs H Q => ∃ (c : V) (cv : Value) (b : Bool),
  xs = [.ref a, c] ∧ ClsV c cv ∧ (∀ dx, d = some dx → ∃ fs, H dx = some (exd dx fs) ∧ fs.lookup ("__class__" : Str) = none) ∧ PySem.W.kitOne K (.ref C) cv = some b ∧ Q (.bl b) H
theorem call_isC (T : IsC X.K C) (z : Zc (.ref C) d o1) (fl : ∃ vs, o1.data = .fields vs) : CallR (X.suite a ((a, o1) :: pn)) (.builtin "isinstance") (rIsC X.K a C d) := by
  intro pins s σ H xs us Q I r h
  obtain ⟨c, cv, b, rfl, k, hd, e, q⟩ := h
  obtain ⟨u1, u2, rfl, r1, r2⟩ := vals2 r
  obtain rfl := k.eq r2
  obtain rfl : u1 = Value.ref a := r1
  obtain ⟨od, J, _⟩ := caught_inst I z fl hd
  exact PySem.W.kia_one (PySem.W.kitx_exc (od := od) T.cl T.ga T.gg T.sb T.ca T.sg T.tk T.ob) I.kIn J e (fun z => nomatch z)
    fun tk => ⟨.bl b, H, I.kept (t' := tk) fun _ _ z => z, rfl, q⟩
end
end Lf

set_option Elab.async false
set_option linter.all false
set_option maxRecDepth 100000
set_option maxHeartbeats 4000000
/-! raise X(e) of an own class with its __init__; try with clauses of which any may have `as`; repr of data. -/
namespace Lf
open PySem PySem.Spec PyProof.Rows L2
/-- raise X(e) -/
def tMk1 (C : Addr) (fl : Str) (ta : TE) : L2.St → Hp → XK → Prop := fun σ H Q => ta σ H fun v H1 => ∀ d H', H1 d = none → Same H1 H' → H' d = some (.xd [(fl, v)]) → Q (.ref C) (some d) H'
theorem pmk_err1 {X : Cx} {x fl t : Str} {e : Expr} {ta : TE} {p pos : Pos} (E : Err1 X.prog X.w X.K X.mg X.base x fl t) (hr : Room 2 X.A) (hg : Gl X x) (ha : PE X e ta)
    (hdb : (x == ("__debug__" : Str)) = false := by decide) (hs : starEach [e] X.env = (false, eval e X.env) :: starEach [] X.env := by rfl) :
    PMk X (.Call (.Name x p) [e] [] pos) (tMk1 (He.ga X.K x) fl ta) := by
  obtain ⟨fI, fd, i1, i2, F, b⟩ := E.ini
  have M := pmk_oex (X := X) (pos := pos) (p := p) (dvs := []) E.c.o i1 i2 F hr b .nil pass0 hg E.g (pa_cons (PE.up ha) pa_nil hs) hdb hs rfl
  intro pins s σ H Q I h
  refine M pins s σ H Q I ?_
  refine ⟨_, h, fun v H1 k => ⟨(by show 1 ≤ 1000; decide), fun a na => ⟨a, v, rfl, upd_same, fun d nd ne => ?_⟩⟩⟩
  have nd1 : H1 d = none := by rw [upd_ne ne] at nd; exact nd
  refine ⟨rfl, d, [(fl, v)], upd_same, by rw [upd_ne ne]; exact upd_same, nd1, ?_⟩
  refine k d _ nd1 (fun b o q => ?_) upd_same
  have n1 := ne_of_none q na
  have n2 := ne_of_none q nd1
  rw [upd_ne n2, del_ne n1, upd_ne n1, upd_ne n2, upd_ne n1]
  exact q
/-! ### clauses, with a name or without -/
abbrev Cl := Value × Option Nat × (Addr → Value → Option Addr → TS)
def asEnds (i : Nat) (D : Ends) : Ends := ⟨fun σ' H' => D.nx (σ'.set i none) H', D.rt, fun σ' H' => D.bk (σ'.set i none) H', fun σ' H' => D.ct (σ'.set i none) H'⟩
def wA (K : PySem.W.Frag) (Wout : WX) (D : Ends) : List Cl → WX
  | [] => Wout
  | (c, none, ts) :: r => fun cls d σ H => ∃ b, PySem.W.exmOne K cls c = some b ∧ (b = true → ∀ a, H a = none → ts a cls d D σ H) ∧ (b = false → wA K Wout D r cls d σ H)
  | (c, some i, ts) :: r => fun cls d σ H => ∃ b, PySem.W.exmOne K cls c = some b ∧ (b = true → ∀ a, H a = none → ts a cls d (asEnds i D) (σ.set i (some (.ref a))) H) ∧ (b = false → wA K Wout D r cls d σ H)
inductive HdA (X : Cx) : List ExceptHandler → List Cl → Prop
  | nil : HdA X [] []
  | plain {x : Str} {c : Value} {ts : Addr → Value → Option Addr → TS} {b1 : Stmt} {suite : List Stmt} {np p3 : Pos} {hds : List ExceptHandler} {l : List Cl} (nm : Names X x c)
      (hsu : ∀ (a : Addr) (o : Obj) (cls : Value) (d : Option Addr) (pn : List (Addr × Obj)), Zc cls d o → (∃ vs, o.data = .fields vs) → PSs (X.suite a ((a, o) :: pn)) (b1 :: suite) (ts a cls d)) (r : HdA X hds l) :
      HdA X (.ExceptHandler (some (.Name x np)) none (b1 :: suite) p3 :: hds) ((c, none, ts) :: l)
  | as {x n : Str} {c : Value} {i : Nat} {ts : Addr → Value → Option Addr → TS} {b1 : Stmt} {suite : List Stmt} {np p3 : Pos} {hds : List ExceptHandler} {l : List Cl} (nm : Names X x c) (ni : X.N[i]? = some n) (kd : X.env.kindOf n = some .local)
      (hsu : ∀ (a : Addr) (o : Obj) (cls : Value) (d : Option Addr) (pn : List (Addr × Obj)), Zc cls d o → (∃ vs, o.data = .fields vs) → PSs (X.suite a ((a, o) :: pn)) (b1 :: suite) (ts a cls d)) (r : HdA X hds l) :
      HdA X (.ExceptHandler (some (.Name x np)) (some n) (b1 :: suite) p3 :: hds) ((c, some i, ts) :: l)
section
variable {X : Cx} {body : List Stmt} {h0 : ExceptHandler} {hds : List ExceptHandler} {l : List Cl} {pos : Pos} {tb : WX → TS} {Wout : WX}
theorem ps_tryA (st : X.stack = X.env :: X.outer) (fr : X.env.frame = some X.env.locals) (nd : X.N.Nodup) (tk : Takes X Wout)
    (inner : ∀ (W : WX) (pn : List (Addr × Obj)) (xe : Value → Shared → Prop), Takes (X.tr pn xe) W → PassesOwn (model X.prog X.w) X.A X.env xe → PSs (X.tr pn xe) body (tb W))
    (hh : HdA X (h0 :: hds) l) : PS X (.Try body (h0 :: hds) [] [] pos) (fun D σ H => tb (wLen X.N.length (wA X.K Wout D l)) D σ H) := by
  refine ⟨fun pins s σ H D I0 h => ?_⟩
  have ok := I0.ok
  have fa : X.A.frames = some (X.env :: X.outer) := by rw [ok.frames, st]
  refine wpAny_Try_except ?_
  refine wpAny_mono ((inner (wLen X.N.length (wA X.K Wout D l)) (X.pn ++ pins) (fun e s1 => wpAny (model X.prog X.w) X.A (noteFrame e X.env) (fun _ s2 => wpAny (model X.prog X.w) X.A (setFlight e none) (fun _ s3 =>
    wpAny (model X.prog X.w) X.A (handleBy e X.env (h0 :: hds)) (SP X pins D) X.xe s3) X.xe s2) X.xe s1) (fun u s' q => ?_) PassesOwn.looking).run [] s σ H D (I0.toTry _) h) (fun f s1 q => ?_) (fun e s1 q => q)
  · obtain ⟨a, B, sI, pins', σ', H', cls, d, rfl, J', nb, up, sky, na, os, ag, w⟩ := q
    have J0 : Inv X pins σ' H' sI := J'.ofTry ok
    have sk : Sky B (X.env :: X.outer) a (Zc cls d) X.env.locals s'.heap := by rw [← st]; exact sky
    show wpAny (model X.prog X.w) X.A (noteFrame (.ref a) X.env) _ _ _
    refine Sky.land Zc.steady fa fr sk fun h1 g1 u1 => ?_
    have J1 : Inv X pins σ' H' { s' with heap := h1 } := J0.landed nb g1.1 (up.trans u1) os ag
    obtain ⟨o1, v1, e1, z1, d1⟩ := g1.there
    have off : a ∉ frs (X.env :: X.outer) := fun hm => by
      obtain ⟨_, o', e', nf⟩ := g1.2.2.1.mem hm
      rw [e1] at e'
      cases e'
      exact nf _ d1
    have nL : a ≠ X.env.locals := fun z => off (List.mem_filterMap.mpr ⟨X.env, List.mem_cons_self, by rw [fr, z]⟩)
    have nF : a ∉ X.fs := fun hm => by
      obtain ⟨e, he, q⟩ := List.mem_filterMap.mp hm
      exact off (List.mem_filterMap.mpr ⟨e, List.mem_cons_of_mem _ he, q⟩)
    have S1 := J1.suite e1 d1 na nL nF
    have L1 : PySem.W.Looks (model X.prog X.w) h1 (typeOf (.ref a)) cls := fun A Q E s k q => wpAny_typeOf_ref (k _ _ e1) (by rw [z1.1]; exact q)
    have asks : ∀ {y : Str} {cv : Value} {yp : Pos} {Q : Value → Shared → Prop} {E : Value → Shared → Prop}, Names X y cv → Q cv { s' with heap := h1 } → wpAny (model X.prog X.w) (X.A.mark (some (.ref a))) (eval (.Name y yp) X.env) Q E { s' with heap := h1 } := fun {y cv yp Q E} nm q => by
      obtain ⟨hg, hb, hm | ⟨hm, hv, hn⟩⟩ := nm
      · exact ld_glob (X := X.suite a ((a, o1) :: (X.pn ++ pins))) S1 hg hm q hb
      · exact ld_blt (X := X.suite a ((a, o1) :: (X.pn ++ pins))) S1 hg hm hv q hn hb
    have rest : ∀ {hs : List ExceptHandler} {l' : List Cl}, HdA X hs l' → wA X.K Wout D l' cls d σ' H' →
        wpAny (model X.prog X.w) X.A (handleBy (.ref a) X.env hs) (SP X pins D) X.xe { s' with heap := h1 } := by
      intro hs l' hk
      induction hk with
      | nil =>
        intro w
        refine wpAny_handleBy_nil ?_
        obtain ⟨k1, k2, k3, oe, vs, T, oT, ts', he, hz, hd, f1, hr⟩ := id g1
        unfold PySem.passOn
        refine wpAny_bind (wpAny_field he hd f1 ?_)
        rw [if_neg (show ¬ ((Value.ref T == Value.none) = true) from by simp)]
        have out : wpAny (model X.prog X.w) X.A (setFlight (.ref a) X.env.frame) (fun _ s4 => wpAny (model X.prog X.w) X.A (throw (.ref a) : Sem Flow) (SP X pins D) X.xe s4) X.xe { s' with heap := h1 } := by
          rw [fr]
          exact HandSPX.setFlight_upZ g1 fun h2 b2 u2 => wpAny_throw (tk _ _ ⟨a, B, sI, pins, σ', H', cls, d, rfl, J0, nb, (up.trans u1).trans u2, .inr (.inr (by rw [st]; exact b2)), na, os, ag, w⟩)
        first
          | exact wpAny_bind (wpAny_pure (wpAny_bind out))
          | exact wpAny_bind out
      | @plain y cv ts2 c1 suite2 yp p4 more2 l2 nm2 hsu r ih =>
        intro w
        obtain ⟨b, hb1, yes, no⟩ := w
        refine wpAny_handleBy_cons (codeAny_handlers_test ?_) (by intro q; cases q)
        refine asks nm2 ((PySem.W.exm_one (M := model X.prog X.w) J1.kIn L1 hb1).here ?_)
        cases b with
        | true =>
          refine codeAny_handlers_suite ?_
          refine HandSPX.lands_againZ g1 fun h2 g2 u2 => ?_
          have J2 : Inv X pins σ' H' { s' with heap := h2 } := J0.landed nb g2.1 ((up.trans u1).trans u2) os ag
          obtain ⟨o2, v2, e2, z2, d2⟩ := g2.there
          refine wpAny_mono ((hsu a o2 cls d (X.pn ++ pins) z2 ⟨_, d2⟩).run [] _ _ H' _ (J2.suite e2 d2 na nL nF) (yes rfl a na)) (fun f s6 q => ?_) (fun _ _ z => False.elim z)
          cases f with
          | ret u =>
            obtain ⟨v6, σ6, H6, S6, r6, q6⟩ := q
            exact ⟨_, _, _, S6.unsuite ok, r6, q6⟩
          | next => obtain ⟨σ6, H6, S6, q6⟩ := q; exact ⟨_, _, S6.unsuite ok, q6⟩
          | brk => obtain ⟨σ6, H6, S6, q6⟩ := q; exact ⟨_, _, S6.unsuite ok, q6⟩
          | cont => obtain ⟨σ6, H6, S6, q6⟩ := q; exact ⟨_, _, S6.unsuite ok, q6⟩
        | false =>
          show wpAny _ X.A (handleBy (.ref a) X.env more2) _ _ _
          exact ih (no rfl)
      | @as y n cv i ts2 c1 suite2 yp p4 more2 l2 nm2 ni kd hsu r ih =>
        intro w
        obtain ⟨b, hb1, yes, no⟩ := w
        refine wpAny_handleBy_cons (codeAny_handlers_test ?_) (by intro q; cases q)
        refine asks nm2 ((PySem.W.exm_one (M := model X.prog X.w) J1.kIn L1 hb1).here ?_)
        cases b with
        | false =>
          show wpAny _ X.A (handleBy (.ref a) X.env more2) _ _ _
          exact ih (no rfl)
        | true =>
          refine codeAny_handlers_suite_as ?_
          refine HandSPX.lands_againZ g1 fun h2 g2 u2 => ?_
          have J2 : Inv X pins σ' H' { s' with heap := h2 } := J0.landed nb g2.1 ((up.trans u1).trans u2) os ag
          obtain ⟨o2, v2, e2, z2, d2⟩ := g2.there
          have lc : Loc X.env.scope n := .inl kd
          refine store_ok (X := X.suite a ((a, o2) :: (X.pn ++ pins))) (v := .ref a) (J2.suite e2 d2 na nL nF) nd ni lc rfl (fun s5 S5 => ?_) (.inr kd)
          refine wpAny_mono ((hsu a o2 cls d (X.pn ++ pins) z2 ⟨_, d2⟩).run [] s5 _ H' _ S5 (yes rfl a na)) (fun f s6 q => ?_) (fun _ _ z => False.elim z)
          have gone : ∀ {σ6 : L2.St} {H6 : Hp} {Q : Shared → Prop}, Inv (X.suite a ((a, o2) :: (X.pn ++ pins))) [] σ6 H6 s6 → (∀ s7, Inv X pins (σ6.set i none) H6 s7 → Q s7) →
              wpAny (model X.prog X.w) X.A (do bindName X.env n .none; unbindBehindTheSuite X.env n p4) (fun _ s7 => Q s7) X.xe s6 := fun {σ6 H6 Q} S6 hq => gone_ok (S6.unsuite ok) nd ni kd hq
          cases f with
          | ret u =>
            obtain ⟨v6, σ6, H6, S6, r6, q6⟩ := q
            exact gone S6 fun s7 J7 => ⟨_, _, _, J7, r6, q6⟩
          | next => obtain ⟨σ6, H6, S6, q6⟩ := q; exact gone S6 fun s7 J7 => ⟨_, _, J7, q6⟩
          | brk => obtain ⟨σ6, H6, S6, q6⟩ := q; exact gone S6 fun s7 J7 => ⟨_, _, J7, q6⟩
          | cont => obtain ⟨σ6, H6, S6, q6⟩ := q; exact gone S6 fun s7 J7 => ⟨_, _, J7, q6⟩
    exact rest hh (w J0.len)
  · cases f with
    | ret u =>
      obtain ⟨v, σ', H', J', r, q⟩ := q
      exact ⟨v, σ', H', J'.ofTry ok, r, q⟩
    | next => obtain ⟨σ', H', J', q⟩ := q; exact wpAny_execs_nil ⟨σ', H', J'.ofTry ok, q⟩
    | brk => obtain ⟨σ', H', J', q⟩ := q; exact ⟨σ', H', J'.ofTry ok, q⟩
    | cont => obtain ⟨σ', H', J', q⟩ := q; exact ⟨σ', H', J'.ofTry ok, q⟩
end
/-! ### repr of data -/
theorem call_reprD {X : Cx} (hg : X.A.guards = some []) (hu : X.A.units + 9 < cLine) : CallR X (.builtin "repr") (fun xs H Q => ∃ v d, xs = [v] ∧ Dp X.K H v d ∧ d.showable = true ∧ d.hasDict = false ∧ d.depth ≤ 7 ∧ d.shown.length ≤ sizeLine ∧ Q (.str d.shown) H) := by
  intro pins s σ H xs us Q I r h
  obtain ⟨v, d, rfl, hd, sh, nd, dp, hz, q⟩ := h
  obtain ⟨u, rfl, rv⟩ := vals1 r
  obtain ⟨as, rd⟩ := Dp.reads I d v u hd rv
  cases rd with
  | none => exact P.repr_of_none ⟨.str "None", H, I.tok _, ⟨_, rfl⟩, q⟩
  | bool b =>
    refine P.repr_of_bool ⟨.str _, H, I.tok _, ⟨_, rfl⟩, ?_⟩
    exact q
  | int i t =>
    refine P.repr_of_int (by simpa [PyData.showable] using sh) ⟨.str _, H, I.tok _, ⟨_, rfl⟩, ?_⟩
    exact q
  | str x t =>
    refine P.repr_of_str ⟨.str _, H, I.tok _, ⟨_, rfl⟩, ?_⟩ hz
    exact q
  | list h1 h2 h3 h4 =>
    refine repr_of_reads' (h₀ := s.heap) (.list h1 h2 h3 h4) sh (fun z => by rw [nd] at z; cases z) hg (by omega) (fun _ _ z => z) (fun h' u tk hk => ?_) hz
    exact ⟨.str _, H, I.kept hk, ⟨u, rfl⟩, q⟩
  | tuple h1 h2 h3 h4 =>
    refine repr_of_reads' (h₀ := s.heap) (.tuple h1 h2 h3 h4) sh (fun z => by rw [nd] at z; cases z) hg (by omega) (fun _ _ z => z) (fun h' u tk hk => ?_) hz
    exact ⟨.str _, H, I.kept hk, ⟨u, rfl⟩, q⟩
  | dict h1 h2 h3 h4 h5 => rw [PyData.hasDict] at nd; cases nd
end Lf

set_option Elab.async false
set_option linter.all false
set_option maxRecDepth 100000
set_option maxHeartbeats 4000000
/-! raise X(e) and raise X(e, g) where nothing stands of told; either of two readings; whether a thing is a list or a tuple. -/
namespace Lf
open PySem PySem.Spec PyProof.Rows L2
section
variable (P : Program) (w : World) (K : PySem.W.Frag) (mg : Str → Option Value) (base : Heap)
structure Ini1 (x fl : Str) : Prop where
  g : mg x = some (.ref (He.ga K x))
  c : ErrC K (He.ga K x)
  no : PySem.W.findIn K (.ref (He.ga K x)) fl = some none
  ini : ∃ fI fd, PySem.W.findIn K (.ref (He.ga K x)) "__init__" = some (some (.ref fI)) ∧ PySem.W.typeIn K (.ref fI) = some (.type "function") ∧
    FnOk P w K mg base CX0 1 fI fd ["self", fl] (spIni1 (He.ga K x) fl) ∧ Binds K fd ["self", fl] []
structure Ini2 (x fl gl : Str) : Prop where
  g : mg x = some (.ref (He.ga K x))
  c : ErrC K (He.ga K x)
  no : PySem.W.findIn K (.ref (He.ga K x)) fl = some none
  no2 : PySem.W.findIn K (.ref (He.ga K x)) gl = some none
  ini : ∃ fI fd, PySem.W.findIn K (.ref (He.ga K x)) "__init__" = some (some (.ref fI)) ∧ PySem.W.typeIn K (.ref fI) = some (.type "function") ∧
    FnOk P w K mg base CX0 1 fI fd ["self", fl, gl] (spIni2 (He.ga K x) fl gl) ∧ Binds K fd ["self", fl, gl] []
end
theorem pmk_ini1 {X : Cx} {x fl : Str} {e : Expr} {ta : TE} {p pos : Pos} (E : Ini1 X.prog X.w X.K X.mg X.base x fl) (hr : Room 2 X.A) (hg : Gl X x) (ha : PE X e ta)
    (hdb : (x == ("__debug__" : Str)) = false := by decide) (hs : starEach [e] X.env = (false, eval e X.env) :: starEach [] X.env := by rfl) :
    PMk X (.Call (.Name x p) [e] [] pos) (tMk1 (He.ga X.K x) fl ta) := by
  obtain ⟨fI, fd, i1, i2, F, b⟩ := E.ini
  have M := pmk_oex (X := X) (pos := pos) (p := p) (dvs := []) E.c.o i1 i2 F hr b .nil pass0 hg E.g (pa_cons (PE.up ha) pa_nil hs) hdb hs rfl
  intro pins s σ H Q I h
  refine M pins s σ H Q I ?_
  refine ⟨_, h, fun v H1 k => ⟨(by show 1 ≤ 1000; decide), fun a na => ⟨a, v, rfl, upd_same, fun d nd ne => ?_⟩⟩⟩
  have nd1 : H1 d = none := by rw [upd_ne ne] at nd; exact nd
  refine ⟨rfl, d, [(fl, v)], upd_same, by rw [upd_ne ne]; exact upd_same, nd1, ?_⟩
  refine k d _ nd1 (fun b o q => ?_) upd_same
  have n1 := ne_of_none q na
  have n2 := ne_of_none q nd1
  rw [upd_ne n2, del_ne n1, upd_ne n1, upd_ne n2, upd_ne n1]
  exact q
/-- raise X(e, g) -/
def tMk2 (C : Addr) (fl gl : Str) (ta tb : TE) : L2.St → Hp → XK → Prop := fun σ H Q => ta σ H fun v H1 => tb σ H1 fun u H2 => ∀ d H', H2 d = none → Same H2 H' → H' d = some (.xd [(gl, u), (fl, v)]) → Q (.ref C) (some d) H'
theorem pmk_ini2 {X : Cx} {x fl gl : Str} {e g : Expr} {c : V} {tb : TE} {p pos : Pos} (E : Ini2 X.prog X.w X.K X.mg X.base x fl gl) (hr : Room 2 X.A) (hg : Gl X x) (ha : PE X e (tC c)) (hb : PE X g tb)
    (hdb : (x == ("__debug__" : Str)) = false := by decide) (hs : starEach [e, g] X.env = (false, eval e X.env) :: starEach [g] X.env := by rfl) (hs2 : starEach [g] X.env = (false, eval g X.env) :: starEach [] X.env := by rfl) :
    PMk X (.Call (.Name x p) [e, g] [] pos) (tMk2 (He.ga X.K x) fl gl (tC c) tb) := by
  obtain ⟨fI, fd, i1, i2, F, b⟩ := E.ini
  have M := pmk_oex (X := X) (pos := pos) (p := p) (dvs := []) E.c.o i1 i2 F hr b .nil pass0 hg E.g (pa_cons ha (pa_cons (PE.up hb) pa_nil hs2) hs) hdb hs (by rw [hs2]; rfl)
  intro pins s σ H Q I h
  refine M pins s σ H Q I ?_
  refine ⟨_, h, fun u H1 k => ⟨(by show 2 ≤ 1000; decide), fun a na => ⟨a, c, u, rfl, upd_same, fun d nd ne => ?_⟩⟩⟩
  have nd1 : H1 d = none := by rw [upd_ne ne] at nd; exact nd
  refine ⟨rfl, d, [(gl, u), (fl, c)], by rw [upd_ne ne.symm]; exact upd_same, upd_same, nd1, ?_⟩
  refine k d _ nd1 (fun b o q => ?_) upd_same
  have n1 := ne_of_none q na
  have n2 := ne_of_none q nd1
  rw [upd_ne n2, del_ne n1, upd_ne n2, upd_ne n1, upd_ne n2, upd_ne n1]
  exact q
/-- either of two readings -/
theorem PE.or {X : Cx} {e : Expr} {t t' : TE} (h : PE X e t) (h' : PE X e t') : PE X e (fun σ H Q => t σ H Q ∨ t' σ H Q) := ⟨fun pins s σ H Q I q => by
  rcases q with q | q
  · exact h.run pins s σ H Q I q
  · exact h'.run pins s σ H Q I q⟩
/-- a list or a tuple of things, or what is none -/
inductive SeqK (K : PySem.W.Frag) (H : Hp) : V → Option (List V) → Prop
  | lst {a : Addr} {xs : List V} (h : SqL K H a xs) : SeqK K H (.ref a) (some xs)
  | tup {a : Addr} {xs : List V} (h : SqT K H a xs) : SeqK K H (.ref a) (some xs)
  | oth {x : V} {n : String} (ty : TyX K H x (.type n)) (e1 : kitB n "list" = some false) (e2 : kitB n "tuple" = some false) : SeqK K H x none
theorem SeqK.same {K : PySem.W.Frag} {H H' : Hp} {x : V} {o : Option (List V)} (e : Same H H') (h : SeqK K H x o) : SeqK K H' x o := by
  cases h with
  | lst h => exact .lst (L2.Same.seq e h)
  | tup h => exact .tup (Lf.SqT.same e h)
  | oth t q r => exact .oth (tyx_same e t) q r
theorem tyx_l {K : PySem.W.Frag} {H : Hp} {a : Addr} {xs : List V} (h : SqL K H a xs) : TyX K H (.ref a) (.type "list") := by
  rcases h with (h | ⟨o, h⟩) | ⟨o, its, n, hk, hc, _⟩
  · exact .base (.lst h)
  · exact .base (.frz h)
  · exact .kList hk hc
theorem tyx_t {K : PySem.W.Frag} {H : Hp} {a : Addr} {xs : List V} (h : SqT K H a xs) : TyX K H (.ref a) (.type "tuple") := by
  rcases h with (h | ⟨o, h⟩) | ⟨o, its, n, hk, hc, _⟩
  · exact .base (.tup h)
  · exact .fTuple h
  · exact .kTuple hk hc
theorem SeqK.ty {K : PySem.W.Frag} {H : Hp} {x : V} {o : Option (List V)} (h : SeqK K H x o) : ∃ n, TyX K H x (.type n) ∧ PySem.W.kitAny K (.type n) [.type "list", .type "tuple"] = some o.isSome := by
  cases h with
  | lst h => exact ⟨_, tyx_l h, kitAny_cons (kit_ty (b := "list") (r := true) (by decide +kernel)) (fun h => nomatch h) (fun _ => rfl)⟩
  | tup h => exact ⟨_, tyx_t h, kitAny_cons (kit_ty (b := "list") (r := false) (by decide +kernel)) (fun _ => kitAny_cons (kit_ty (b := "tuple") (r := true) (by decide +kernel)) (fun h => nomatch h) (fun _ => rfl)) (fun h => nomatch h)⟩
  | oth t q r => exact ⟨_, t, kitAny_cons (kit_ty q) (fun _ => kitAny_cons (kit_ty r) (fun _ => rfl) (fun h => nomatch h)) (fun h => nomatch h)⟩
theorem SeqK.len {K : PySem.W.Frag} {H : Hp} {x : V} {ys : List V} (h : SeqK K H x (some ys)) : ∃ a, x = .ref a ∧ (SqL K H a ys ∨ SqT K H a ys) := by
  cases h with
  | lst h => exact ⟨_, rfl, .inl h⟩
  | tup h => exact ⟨_, rfl, .inr h⟩
theorem NumK.list {K : PySem.W.Frag} {H : Hp} {a : Addr} {xs : List V} (h : SqL K H a xs) : NumK K H (.ref a) none := .oth (tyx_l h) (by decide +kernel)
/-- what a for asks of its turns -/
abbrev ForB (J : It) (g : TG) (tb : TS) (D : Ends) (σ : L2.St) (H : Hp) : Prop := ∃ W : Nat → Nat → L2.St → Hp → Prop, (∃ m, W 0 m σ H) ∧ ∀ i m σ H, W i m σ H →
      (J.stop i H ∧ D.nx σ H) ∨ (J.go i H ∧ ∃ N : L2.St → Hp → Prop, (∀ σ' H', N σ' H' → ∃ m', m' < m ∧ W (i + 1) m' σ' H') ∧ ∀ x H', J.yld i H x H' → g x σ H' fun σ2 H2 => tb { D with nx := N, ct := N, bk := D.nx } σ2 H2)
/-- for i, x in enumerate(xs), a list or a tuple that stays -/
theorem for_enum {K : PySem.W.Frag} {r : Addr} {xs : List V} {g : TG} {tb : TS} {D : Ends} {σ : L2.St} {H0 H : Hp} (sq : SqL K H0 r xs ∨ SqT K H0 r xs) (Pv : Nat → L2.St → Hp → Prop) (h0 : Pv 0 σ H) (hG : ∀ i σ' H', i ≤ xs.length → Pv i σ' H' → Same H0 H')
    (hs : ∀ i y σ' H', Pv i σ' H' → xs[i]? = some y → ∀ T, H' T = none → g (.ref T) σ' (upd H' T (.tup [.int (i : Nat), y])) fun σ2 H2 => tb { D with nx := Pv (i + 1), ct := Pv (i + 1), bk := D.nx } σ2 H2) (hd : ∀ σ H, Pv xs.length σ H → D.nx σ H) :
    (SqL K H r xs ∧ ForB (Ite K r) g tb D σ H) ∨ (SqT K H r xs ∧ ForB (Itet K r) g tb D σ H) := by
  rcases sq with sq | sq
  · refine .inl ⟨L2.Same.seq (hG 0 _ _ (Nat.zero_le _) h0) sq, for_it (walk_enumL (K := K) (a := r) (xs := xs)) Pv h0 (fun i σ' H' hi p => L2.Same.seq (hG i σ' H' hi p) sq) ?_ hd⟩
    rintro i x σ' H' H3 hi p ⟨T, y, rfl, nT, rfl, hy⟩
    exact hs i y σ' H' p hy T nT
  · refine .inr ⟨Lf.SqT.same (hG 0 _ _ (Nat.zero_le _) h0) sq, for_it (walk_enumT (K := K) (a := r) (xs := xs)) Pv h0 (fun i σ' H' hi p => Lf.SqT.same (hG i σ' H' hi p) sq) ?_ hd⟩
    rintro i x σ' H' H3 hi p ⟨T, y, rfl, nT, rfl, hy⟩
    exact hs i y σ' H' p hy T nT
end Lf

set_option Elab.async false
set_option linter.all false
set_option maxRecDepth 100000
set_option maxHeartbeats 8000000
namespace K69
open PySem PySem.Spec PyProof.Rows L2 Lf
def spWrong (K : PySem.W.Frag) : Sp := fun vs H Q _ => ∃ (a : Addr) (xs : List Nat) (n : Nat), vs = [.ref a, .int (n : Nat)] ∧ Sq K H a (xs.map nv) ∧ (∀ x ∈ xs, x < n) ∧ ∀ H', Same H H' → Q .non H'
section
variable {P : Program} {w : World} {K : PySem.W.Frag} {mg : Str → Option Value} {base : Heap}
theorem scWrong : FnScope ["thing", "many", "place", "entry"] ["thing", "many"] (defScope s_wrong_place) := ⟨rfl, rfl, rfl, by decide +kernel, rfl, by decide +kernel, by decide +kernel⟩
theorem ok_wrong {f : Addr} {fd : FuncData} {q : Str} (F : FunD K "wrong_place" q (defArgs s_wrong_place) (defBody s_wrong_place) (defScope s_wrong_place) [] [] f fd) (zI : mg "isinstance" = none) (zl : mg "list" = none) (zt : mg "tuple" = none) (zE : mg "enumerate" = none)
    (DB : Def P w K mg base CX0 2 "is_between" ["thing", "least", "most"] spBtw) :
    FnOk P w K mg base CX0 3 f fd ["thing", "many"] (spWrong K) := by
  refine F.ok scWrong (fun vs H Q E h => ?_) (fun cdv A outer s H vs Q E hr h => ?_)
  · obtain ⟨a, xs, n, rfl, _⟩ := h
    rfl
  · obtain ⟨a, xs, n, rfl, sq, xl, k⟩ := h
    refine ⟨_, PSs.nox (pss_cons (ps_if (pt_not (pt_val (pe_callB call_isiT rfl zI PyProof.Rows.boot_isinstance (pa_cons (pv 0) (pa_cons (pe_tup (pa_cons (pe_bltn (v := .ty "list") rfl zl PyProof.Rows.boot_list rfl) (pa_cons (pe_bltn (v := .ty "tuple") rfl zt PyProof.Rows.boot_tuple rfl) pa_nil))) pa_nil))))) (pss_one ps_never) pss_nil)
      (pss_cons (ps_for PassesOwn.never rfl (pi_enumA rfl zE (pv 0)) (pg_tup rfl (pgs_cons (pg_name (i := 2) scWrong.nd rfl (.inl rfl)) (pgs_cons (pg_name (i := 3) scWrong.nd rfl (.inl rfl)) pgs_nil)))
        (pss_one (ps_if (pt_not (pt_val (pe_def DB hr pass0 rfl (pa_cons (pv 3) (pa_cons pe_int (pa_cons (pe_op op_sub (pv 1) pe_int) pa_nil)))))) (pss_one ps_never) pss_nil)))
      (pss_one (ps_ret pe_non)))), ?_⟩
    refine ⟨_, rfl, (by show 2 ≤ sizeLine; decide), fun p np => ?_⟩
    have sm := same_upd (o := .tup [.ty "list", .ty "tuple"]) np
    have sq' := sq.same sm
    have ty : ∃ t, TyX K (upd H p (.tup [.ty "list", .ty "tuple"])) (.ref a) t ∧ PySem.W.kitAny K t [.type "list", .type "tuple"] = some true := by
      rcases sq' with z | z
      · exact ⟨_, tyx_l z, any_lt.1⟩
      · exact ⟨_, tyx_t z, any_lt.2⟩
    obtain ⟨t, ty, ka⟩ := ty
    refine ⟨.ref a, p, _, t, _, true, rfl, upd_same, .cons (.ty _) (.cons (.ty _) .nil), ty, ka, _, rfl, ?_⟩
    generalize upd H p (.tup [.ty "list", .ty "tuple"]) = H1 at sm sq' ⊢
    clear ty
    refine ifF rfl ?_
    refine ⟨_, rfl, a, xs.map nv, rfl, ?_⟩
    refine for_enum (H0 := H1) sq' (fun i σ H' => ∃ v2 v3 : Option V, σ = [some (.ref a), some (.int (n : Nat)), v2, v3] ∧ Same H1 H') ⟨none, none, rfl, L2.Same.refl _⟩ (fun i σ H' _ ⟨_, _, _, e⟩ => e) ?_ ?_
    · rintro i y σ H' ⟨v2, v3, rfl, e⟩ hy T nT
      obtain ⟨x, hx, rfl⟩ := map_get hy
      have lx := xl x (List.mem_of_getElem? hx)
      refine ⟨T, _, rfl, SqT.of upd_same, rfl, _, _, rfl, _, _, rfl, rfl, ?_⟩
      refine ⟨_, rfl, _, rfl, _, 1, rfl, rfl, nv x, 0, _, rfl, True.intro, _, rfl, ?_⟩
      rw [btw_nv lx]
      exact ifF rfl ⟨_, _, rfl, e.trans (same_upd nT)⟩
    · rintro σ H' ⟨v2, v3, rfl, e⟩
      exact k _ (sm.trans e)
end
end K69

set_option Elab.async false
set_option linter.all false
set_option maxRecDepth 100000
set_option maxHeartbeats 4000000
/-! set(xs) of ints, a list or a tuple, repeated ones too; sorted(set(xs)). -/
namespace Lf
open PySem PySem.Spec PyProof.Rows L2
/-- the set at a is that of the first i numbers -/
def HasI (w : World) (h : Heap) (a : Addr) (ns : List Int) (i : Nat) : Prop := ∃ m, m ≤ i ∧ SetR w h a (fun k => decide (k ∈ ns.take i)) m
theorem ints_at : ∀ {us : List Value} {ns : List Int}, IntsAre us ns → ∀ (i : Nat) (v : Value), us[i]? = some v → ∃ t, v = .int (ns.getD i 0) t
  | _, _, .nil, i, v, h => by simp at h
  | _, _, .cons n t r, 0, v, h => ⟨t, by rw [← Option.some.inj h]; rfl⟩
  | _, _, .cons n t r, i + 1, v, h => by
    obtain ⟨t', e⟩ := ints_at r i v (by simpa using h)
    exact ⟨t', by rw [e]; rfl⟩
theorem ints_len : ∀ {us : List Value} {ns : List Int}, IntsAre us ns → us.length = ns.length
  | _, _, .nil => rfl
  | _, _, .cons n t r => by simp [ints_len r]
section
variable {P : Program} {w : World} {A : Around} {R : Result → Shared → Prop} {It : Addr} {fp wr : List Addr} {G : Array GenState → Array GenState → Prop} {n : Nat} {Pv : Nat → Value → Prop} {Sv : Nat → Shared → Prop}
theorem HasI.at {h h' : Heap} {a : Addr} {ns : List Int} {i : Nat} (r : HasI w h a ns i) (k : ∀ o, h.get? a = some o → h'.get? a = some o) : HasI w h' a ns i := by
  obtain ⟨m, le, r⟩ := r
  exact ⟨m, le, r.at k⟩
/-- the loop that fills a set of ints -/
theorem fillI (W : WalksS P w A.in1 It fp wr G n Pv Sv) {a : Addr} (off : a ∉ fp) {ns : List Int} (len : ns.length = n) (few : n + 1 < scanBound)
    (read : ∀ i v, Pv i v → ∃ t, v = .int (ns.getD i 0) t) : ∀ (m i : Nat) (s : Shared), i + m = n → Sv i s → HasI w s.heap a ns i →
      (∀ s', Moved (a :: wr) G s s' → HasI w s'.heap a ns n → R (.ok (.ret .none)) s') →
      codeAny (model P w) A (.builtin "set.update.loop" ⟨[.ref a, .ref It], []⟩) R s := by
  have offw : a ∉ wr := fun z => off (W.sub _ z)
  intro m
  induction m with
  | zero =>
    intro i s e st hs fin
    obtain rfl : i = n := by omega
    refine codeAny_builtin PyProof.Rows.F.entry_set_update_loop ?_
    rw [Around.under_plainId PyProof.Rows.F.plain_set_update_loop _]
    show wpAny _ _ (pyNext (.ref It) >>= _) _ _ _
    exact wpAny_bind (W.done s _ _ st fun s' mv => wpAny_pure (fin s' (mv.mono fun b hb => List.mem_cons_of_mem _ hb) (hs.at fun o z => mv.heap a o offw z)))
  | succ m ih =>
    intro i s e st hs fin
    have hi : i < n := by omega
    refine codeAny_builtin PyProof.Rows.F.entry_set_update_loop ?_
    rw [Around.under_plainId PyProof.Rows.F.plain_set_update_loop _]
    show wpAny _ _ (pyNext (.ref It) >>= _) _ _ _
    refine wpAny_bind (W.item i s _ _ hi st fun v s' pv st' mv => ?_)
    obtain ⟨t, rfl⟩ := read i v pv
    obtain ⟨c, lc, hs'⟩ := hs.at (h' := s'.heap) fun o z => mv.heap a o offw z
    show wpAny _ _ (holding [Value.int _ t] (setAdd a (.int _ t)) >>= _) _ _ _
    refine wpAny_bind (wpAny_holding ?_)
    unfold setAdd
    refine wpAny_holding (wpAny_bind ((PySem.intKind P w).pyHash (intKind_is _ _ _ _) ?_))
    refine setR_add_hashed (s := { s' with toks := s'.toks + 1 }) hs' (by omega) fun h' sb hs2 => ?_
    have hs3 : HasI w h' a ns (i + 1) := by
      refine ⟨_, ?_, hs2.congr fun k => ?_⟩
      · split <;> omega
      · have e : ns.take (i + 1) = ns.take i ++ [ns.getD i 0] := by
          rw [List.take_succ_eq_append_getElem (by omega), List.getD_eq_getElem?_getD, List.getElem?_eq_getElem (by omega)]
          rfl
        rw [e]
        simp
    refine wpAny_pure ⟨plainId_quiet PyProof.Rows.F.plain_set_update_loop _, ih (i + 1) _ (by omega) (W.frame _ s' _ _ st' (Nat.le_succ _) fun b hb o z => ?_) hs3 fun s2 mv2 q => fin s2 ?_ q⟩
    · rw [sb.2 b fun y => off (y ▸ hb)]
      exact z
    · refine Moved.trans W.gtrans ((mv.mono fun b hb => List.mem_cons_of_mem _ hb).then_heap (Nat.le_succ _) fun b o hb z => ?_) mv2
      rw [sb.2 b fun y => hb (by rw [y]; exact List.mem_cons_self)]
      exact z
end
abbrev ledOf (w : World) : Bool := !w.params.followText "set-order"
section
variable {P : Program} {w : World} {A : Around} {E : Value → Shared → Prop} {s : Shared} {l : Addr} {its : Array Value} {ns : List Int}
abbrev IntSet (w : World) (s : Shared) (ns : List Int) (s' : Shared) : Prop :=
  ∃ h' tk, s' = { s with heap := h', toks := tk } ∧ HasI w h' s.heap.objs.size ns ns.length ∧ ∀ b o, b < s.heap.objs.size → s.heap.get? b = some o → h'.get? b = some o
theorem startI {w : World} {h : Heap} {ns : List Int} : HasI w (h.push (emptySet (ledOf w))) h.objs.size ns 0 := ⟨0, Nat.le_refl _, (setR_fresh w).congr fun k => by simp⟩
theorem setInitIL {Q : Fin → Shared → Prop} (calm : A.handled = none) (hl : s.heap.IsList l its) (ht : IntsAre its.toList ns) (few : ns.length + 1 < scanBound)
    (h : ∀ s', IntSet w s ns s' → Q (.done (.ret .none)) s') :
    wpAny (model P w) A (Builtin.«set.__init__» ⟨[.ref s.heap.objs.size, .ref l], []⟩) Q E { s with heap := s.heap.push (emptySet (ledOf w)) } := by
  obtain ⟨⟨oc, od, odt, osl⟩, hol, hcl, nl, hdl⟩ := hl
  dsimp only at hcl hdl
  subst hcl hdl
  have hS : (s.heap.push (emptySet (ledOf w))).get? s.heap.objs.size = some (emptySet (ledOf w)) := Heap.get?_push_size _ rfl
  have hT : Shared.TypeIs { s with heap := s.heap.push (emptySet (ledOf w)) } (.ref s.heap.objs.size) "set" := ⟨_, hS, rfl⟩
  have hol' : (s.heap.push (emptySet (ledOf w))).get? l = some { cls := .type "list", dict := od, data := .seq its nl, slots := osl } := Heap.get?_push_of_some _ hol
  have f1 := F.sub_list_set
  have f2 := F.sub_list_frozenset
  have f3 : (Value.type "list" == Value.type "dict") = false := by decide
  have hl1 : (s.heap.push (emptySet (ledOf w))).IsList l its := ⟨_, hol', rfl, nl, rfl⟩
  have st0 : HasI w (s.heap.push (emptySet (ledOf w))) s.heap.objs.size ns 0 := startI
  have lS : l < s.heap.objs.size := Heap.lt_size hol
  have sz : ns.length = its.size := by rw [← ints_len ht, Array.length_toList]
  generalize ledOf w = led at *
  unfold Builtin.«set.__init__» noKeywords Builtin.Frozenset.updateFrom
  generalize hPI : pyIter = PI
  wp_walk
  subst hPI
  refine wpAny_pyIter_list hl1 (wpAny_bind (wpAny_runValue ?_))
  have calm3 : A.in1.handled = none := by simp [calm]
  have nI : l ≠ (s.heap.push (emptySet led)).objs.size := by
    rw [Heap.size_push]
    exact Nat.ne_of_lt (Nat.lt_succ_of_lt lS)
  have off : s.heap.objs.size ∉ [(s.heap.push (emptySet led)).objs.size, l] := by
    rw [Heap.size_push]
    simp only [List.mem_cons, List.not_mem_nil, or_false, not_or]
    exact ⟨Nat.ne_of_lt (Nat.lt_succ_self _), Nat.ne_of_gt lS⟩
  refine fillI ((Walks.list calm3 _ l nI its).toS) off sz (by omega) (fun i v hv => ints_at ht i v (by rw [Array.getElem?_toList]; exact hv)) its.size 0 _ (Nat.zero_add _) ?_ ?_ fun s' mv q => ?_
  · exact ⟨⟨_, Heap.get?_push_size _ rfl, rfl, rfl⟩, hl1.push _⟩
  · exact st0.at fun o z => Heap.get?_push_of_some _ z
  · obtain ⟨h', g', d', tk', os'⟩ := s'
    obtain rfl : g' = s.gens := mv.gens
    obtain rfl : d' = s.drawn := mv.drawn
    obtain rfl : os' = s.os := mv.os
    show wpAny _ _ _ _ _ _
    refine wpAny_pure ?_
    show wpAny _ _ (ret Value.none) _ _ _
    refine wpAny_pure (h _ ⟨h', tk', rfl, by rw [sz]; exact q, fun b o hb z => mv.heap b o ?_ (Heap.get?_push_of_some _ (Heap.get?_push_of_some _ z))⟩)
    simp only [List.mem_cons, List.not_mem_nil, or_false, not_or]
    rw [Heap.size_push]
    exact ⟨Nat.ne_of_lt hb, Nat.ne_of_lt (Nat.lt_succ_of_lt hb)⟩
theorem setInitIT {Q : Fin → Shared → Prop} (calm : A.handled = none) (hl : s.heap.IsTuple l its) (ht : IntsAre its.toList ns) (few : ns.length + 1 < scanBound)
    (h : ∀ s', IntSet w s ns s' → Q (.done (.ret .none)) s') :
    wpAny (model P w) A (Builtin.«set.__init__» ⟨[.ref s.heap.objs.size, .ref l], []⟩) Q E { s with heap := s.heap.push (emptySet (ledOf w)) } := by
  obtain ⟨⟨oc, od, odt, osl⟩, hol, hcl, nl, hdl⟩ := hl
  dsimp only at hcl hdl
  subst hcl hdl
  have hS : (s.heap.push (emptySet (ledOf w))).get? s.heap.objs.size = some (emptySet (ledOf w)) := Heap.get?_push_size _ rfl
  have hT : Shared.TypeIs { s with heap := s.heap.push (emptySet (ledOf w)) } (.ref s.heap.objs.size) "set" := ⟨_, hS, rfl⟩
  have hol' : (s.heap.push (emptySet (ledOf w))).get? l = some { cls := .type "tuple", dict := od, data := .seq its nl, slots := osl } := Heap.get?_push_of_some _ hol
  have f1 := F.sub_tuple_set
  have f2 := F.sub_tuple_frozenset
  have f3 : (Value.type "tuple" == Value.type "dict") = false := by decide
  have hl1 : (s.heap.push (emptySet (ledOf w))).IsTuple l its := ⟨_, hol', rfl, nl, rfl⟩
  have st0 : HasI w (s.heap.push (emptySet (ledOf w))) s.heap.objs.size ns 0 := startI
  have lS : l < s.heap.objs.size := Heap.lt_size hol
  have sz : ns.length = its.size := by rw [← ints_len ht, Array.length_toList]
  generalize ledOf w = led at *
  unfold Builtin.«set.__init__» noKeywords Builtin.Frozenset.updateFrom
  generalize hPI : pyIter = PI
  wp_walk
  subst hPI
  refine wpAny_pyIter_tuple hl1 (wpAny_bind (wpAny_runValue ?_))
  have calm3 : A.in1.handled = none := by simp [calm]
  have nI : l ≠ (s.heap.push (emptySet led)).objs.size := by
    rw [Heap.size_push]
    exact Nat.ne_of_lt (Nat.lt_succ_of_lt lS)
  have off : s.heap.objs.size ∉ [(s.heap.push (emptySet led)).objs.size, l] := by
    rw [Heap.size_push]
    simp only [List.mem_cons, List.not_mem_nil, or_false, not_or]
    exact ⟨Nat.ne_of_lt (Nat.lt_succ_self _), Nat.ne_of_gt lS⟩
  refine fillI ((Walks.tuple calm3 _ l nI its).toS) off sz (by omega) (fun i v hv => ints_at ht i v (by rw [Array.getElem?_toList]; exact hv)) its.size 0 _ (Nat.zero_add _) ?_ ?_ fun s' mv q => ?_
  · exact ⟨⟨_, Heap.get?_push_size _ rfl, rfl, rfl⟩, hl1.push _⟩
  · exact st0.at fun o z => Heap.get?_push_of_some _ z
  · obtain ⟨h', g', d', tk', os'⟩ := s'
    obtain rfl : g' = s.gens := mv.gens
    obtain rfl : d' = s.drawn := mv.drawn
    obtain rfl : os' = s.os := mv.os
    show wpAny _ _ _ _ _ _
    refine wpAny_pure ?_
    show wpAny _ _ (ret Value.none) _ _ _
    refine wpAny_pure (h _ ⟨h', tk', rfl, by rw [sz]; exact q, fun b o hb z => mv.heap b o ?_ (Heap.get?_push_of_some _ (Heap.get?_push_of_some _ z))⟩)
    simp only [List.mem_cons, List.not_mem_nil, or_false, not_or]
    rw [Heap.size_push]
    exact ⟨Nat.ne_of_lt hb, Nat.ne_of_lt (Nat.lt_succ_of_lt hb)⟩
theorem newSetI (a : Value) {Q : Value → Shared → Prop} (h : Q (.ref s.heap.objs.size) { s with heap := s.heap.push (emptySet (ledOf w)) }) :
    codeAny (model P w) A (.call (.builtin "set.__new__") ⟨[.type "set", a], []⟩) (wants Q E) s := by
  refine codeAny_of_tree ?_
  show wpAny _ A.in1 (checkBuiltinCall "set.__new__" ⟨[.type "set", a], []⟩ >>= fun _ => again (.builtin "set.__new__" ⟨[.type "set", a], []⟩)) _ _ s
  refine wpAny_bind (wpAny_of_eq (F.newCall_set_1 a) (wpAny_pure ⟨plainId_quiet F.plain_set_new _, codeAny_builtin F.entry_set_new ?_⟩))
  rw [Around.under_plainId F.plain_set_new _]
  have sb := sub_set_self
  obtain ⟨h1, h2, h3, h4, h5⟩ := s
  unfold Builtin.«set.__new__» Builtin.Frozenset.newClass
  dsimp only
  wp_walk
  refine wpAny_askSetting (wpAny_pure ?_)
  simp only [newObj]
  exact wpAny_bind (wpAny_alloc (wpAny_pure (wpAny_pure h)))
theorem setOfInts {Q : Value → Shared → Prop} (calm : A.handled = none) (hl : s.heap.IsList l its ∨ s.heap.IsTuple l its) (ht : IntsAre its.toList ns) (few : ns.length + 1 < scanBound)
    (h : ∀ s', IntSet w s ns s' → Q (.ref s.heap.objs.size) s') : wpAny (model P w) A (call (.type "set") [.ref l]) Q E s := by
  obtain ⟨c, tl, mro⟩ := F.called_set.mro
  have g1 := F.called_set.made
  have g2 := F.called_set.sub
  refine wpAny_call (codeAny_of_tree ?_)
  show wpAny _ _ (callAny (.type "set") _) _ _ _
  refine wpAny_pure ⟨Code.quiet_builtin _ (by decide +kernel), codeAny_builtin F.entry_type_call ?_⟩
  rw [Around.under_plain (weight_type_call_type "set" [.ref l] []) rfl]
  have g3 := F.called_set.notType
  have g4 := F.called_set.canCreate
  have g5 := F.typeCall_set_1 (.ref l)
  repeat (any_goals (first | assumption | wp_step))
  refine codeAny_mono (newSetI (w := w) (.ref l) (E := E) (Q := fun o s1 => o = .ref s.heap.objs.size ∧ s1 = { s with heap := s.heap.push (emptySet (ledOf w)) }) ⟨rfl, rfl⟩) fun r s1 hr => ?_
  cases r with
  | error e => exact hr
  | ok fl =>
    cases fl with
    | ret o =>
      obtain ⟨rfl, rfl⟩ := hr
      have hT : Shared.TypeIs { s with heap := s.heap.push (emptySet (ledOf w)) } (.ref s.heap.objs.size) "set" := ⟨_, Heap.get?_push_size _ rfl, rfl⟩
      have g6 := F.called_set.init.lookup
      have g7 := F.called_set.init.bind (.ref s.heap.objs.size)
      repeat (any_goals (first | assumption | wp_step))
      refine codeAny_mono (codeAny_call_builtin (R := wants (fun r s2 => r = .none ∧ IntSet w s ns s2) E) F.called_set.init.plain F.entry_set_init (check_set_init_1 hT ?_)) fun r2 s2 hr2 => ?_
      · rcases hl with hl | hl
        · exact setInitIL (by simp [calm]) hl ht few fun s2 q => ⟨rfl, q⟩
        · exact setInitIT (by simp [calm]) hl ht few fun s2 q => ⟨rfl, q⟩
      · cases r2 with
        | error e => exact hr2
        | ok f2 =>
          cases f2 with
          | ret v =>
            obtain ⟨rfl, q⟩ := hr2
            repeat (any_goals (first | assumption | wp_step))
            exact h _ q
          | _ => exact hr2.elim
    | _ => exact hr.elim
end
/-- set(xs) of ints, a list or a tuple -/
def rSetI (K : PySem.W.Frag) (w : World) : List V → Hp → VK → Prop := fun xs H Q => ∃ (l : Addr) (ns : List Int), xs = [V.ref l] ∧ (SqL K H l (ns.map V.int) ∨ SqT K H l (ns.map V.int)) ∧ ns.length ≤ 4000 ∧
  ∀ p m, m ≤ ns.length → H p = none → Q (.ref p) (L2.upd H p (SetO w p (fun k => decide (k ∈ ns)) m))
theorem cr_setI {X : Cx} (hc : X.calm = true) : CallR X (.type "set") (rSetI X.K X.w) := by
  intro pins s σ H xs us Q I r h
  obtain ⟨l, ns, rfl, hq, few, q⟩ := h
  rw [Vals.ref1 r]
  have fin : ∀ (its : Array Value), (s.heap.IsList l its ∨ s.heap.IsTuple l its) → IntsAre its.toList ns → wpAny (model X.prog X.w) X.A (call (.type "set") [.ref l]) (EP X pins σ Q) X.xe s := fun its hl ht => by
    refine setOfInts (I.ok.hd hc) hl ht (by unfold scanBound; omega) fun s' hs => ?_
    obtain ⟨h', tk, rfl, ⟨m, lm, R⟩, hk⟩ := hs
    have R' : SetR X.w h' s.heap.objs.size (fun k => decide (k ∈ ns)) m := R.congr fun k => by rw [List.take_length]
    exact ⟨.ref _, _, I.laid (fun b u z => hk b u (Heap.lt_size z) z) (Nat.le_refl _) (setO_new R'), rfl, q _ m lm (I.hok.fresh (Nat.le_refl _))⟩
  rcases hq with hq | hq
  · obtain ⟨its, r, pl, hz⟩ := I.list hq
    exact fin _ (.inl pl.isList) (by simpa using Vals.ints r)
  · obtain ⟨its, r, pl, hz⟩ := I.tuple hq
    exact fin _ (.inr pl) (by simpa using Vals.ints r)
end Lf

set_option Elab.async false
set_option linter.all false
set_option maxRecDepth 100000
set_option maxHeartbeats 4000000
/-! sorted(set of ints), however many. -/
namespace Lf
open PySem PySem.Spec PyProof.Rows L2
section
variable {P : Program} {w : World} {A : Around} {E : Value → Shared → Prop} {s : Shared} {a : Addr} {S : Int → Bool} {n : Nat}
theorem sorted_setI {Q : Value → Shared → Prop} (R : SetR w s.heap a S n) (calm : A.handled = none) (few : n ≤ 4000)
    (fin : ∀ t p (r : Array Value) (c : Nat) (ks : List Int), p ≥ s.heap.objs.size → t.gens = s.gens ∧ t.os = s.os → (∀ b u, s.heap.get? b = some u → t.heap.get? b = some u) →
      t.heap.get? p = some (seqObj "list" r c) → IntsAre r.toList ks → ks.Pairwise (· < ·) ∧ (∀ k, k ∈ ks ↔ S k = true) ∧ ks.length = n → Q (.ref p) t) :
    wpAny (model P w) A (call (.builtin "sorted") [.ref a]) Q E s := by
  obtain ⟨x, es, ep, tk, hx, xc, xd, good, uniq, mem, hb, hf, cnt, hr, hl⟩ := R
  have one := args_sorted1 (Value.ref a)
  refine Calls.call_function_entry kind_sorted plain_sorted entry_sorted one ?_
  unfold Builtin.«sorted»
  refine wpAny_bind (wpAny_pure ?_)
  refine wpAny_bind (collect_set (A := A.in1) calm ⟨x, hx, xc.1, xd⟩ hf hb hr hl ?_)
  intro s1 vs keep le sg so perm
  have many : vs.length = n := by
    rw [perm.length_eq, List.length_map, Array.length_toList]
    exact cnt
  have hI : IntsAre vs (vs.map Builtin.Re.reRawOf) := by
    refine ints_of vs ?_
    intro v hv
    obtain ⟨e, he, rfl⟩ := List.mem_map.mp (perm.mem_iff.mp hv)
    obtain ⟨k, t, q, _⟩ := good e he
    exact ⟨k, t, q⟩
  have big : vs.length ≤ sizeLine := by
    rw [many, sizeLine_eq]
    omega
  refine wpAny_bind (wpAny_newList ?_ big)
  have at1 : (s1.heap.push (seqObj "list" vs.toArray 0)).get? s1.heap.objs.size = some (seqObj "list" vs.toArray 0) := Heap.get?_push_size s1.heap (o := seqObj "list" vs.toArray 0) rfl
  refine wpAny_bind (wpAny_holding ?_)
  refine wpAny_call_entry slot_list_sort ⟨_, at1, rfl⟩ entry_list_sort ?_ (args_list_sort _)
  refine SrtO.list_sort_ord SrtO.swo_int at1 big (fun h2 => SrtO.ints_sortable hI h2) ?_
  intro r o1 o2
  obtain ⟨i1, i2, i3⟩ := SrtO.ints_out hI o1 o2
  refine ⟨_, rfl, ?_⟩
  obtain ⟨c, hc⟩ := sortedHeap_at (vs := vs) (out := r.toArray) at1
  have all : (r.map SrtO.iv).Perm (es.toList.map keyOf) := by
    refine i2.trans ?_
    have z := perm.map Builtin.Re.reRawOf
    rwa [List.map_map] at z
  refine wpAny_pure ⟨_, rfl, ?_⟩
  refine fin _ _ r.toArray c (r.map SrtO.iv) le ⟨sg, so⟩ ?_ hc i1 ⟨?_, ?_, ?_⟩
  · intro b u e
    have lt := Heap.lt_size (keep b u e)
    rw [sortedHeap_old (Nat.ne_of_lt lt) (by
      rw [size_push']
      exact Nat.lt_succ_of_lt lt)]
    exact Heap.get?_push_of_some _ (keep b u e)
  · exact lt_of_le_nodup _ i3 (all.nodup_iff.mpr uniq)
  · intro k
    rw [all.mem_iff, ← mem k]
  · rw [all.length_eq, List.length_map, Array.length_toList]
    exact cnt
end
/-- sorted(found) -/
def rSrtSet (w : World) : List V → Hp → VK → Prop := fun vs H Q => ∃ (a : Addr) (S : Int → Bool) (n : Nat), vs = [.ref a] ∧ H a = some (SetO w a S n) ∧ n ≤ 4000 ∧
  ∀ (ks : List Int) (p : Addr), ks.Pairwise (· < ·) → (∀ k : Int, k ∈ ks ↔ S k = true) → H p = none → Q (.ref p) (upd H p (.lst (ks.map V.int)))
theorem cr_srtSet {X : Cx} (calm : X.calm = true) : CallR X (.builtin "sorted") (rSrtSet X.w) := by
  intro pins s σ H vs us Q I r h
  obtain ⟨a, S, n, rfl, ha, few, q⟩ := h
  rw [Vals.ref1 r]
  refine sorted_setI (setO_get I ha) (I.ok.hd calm) few ?_
  intro t p out c ks le eqs keep hp hI ⟨ord, mem, len⟩
  have free := I.hok.fresh le
  have fits : (ks.map V.int).length ≤ sizeLine := by
    rw [List.length_map, len, sizeLine_eq]
    omega
  obtain ⟨th, tg, td, tt, to⟩ := t
  obtain ⟨rfl, rfl⟩ : tg = s.gens ∧ to = s.os := eqs
  have J : L2.Inv X pins σ (upd H p (.lst (ks.map V.int))) { s with heap := th, drawn := td, toks := tt } := by
    refine I.call (ch := []) (Un.laid keep le free) ?_ ?_ (fun _ z => nomatch z)
    · exact I.hok.laid keep le ⟨fits, out.toList, c, vals_of_ints hI, hp⟩
    · exact I.bare
  exact ⟨.ref p, _, J, rfl, q ks p ord mem free⟩
end Lf

set_option Elab.async false
set_option linter.all false
set_option maxRecDepth 100000
set_option maxHeartbeats 8000000
namespace K69
open PySem PySem.Spec PyProof.Rows L2 Lf
theorem sorted_eq : ∀ {a b : List Int}, a.Pairwise (· < ·) → b.Pairwise (· < ·) → (∀ k, k ∈ a ↔ k ∈ b) → a = b
  | [], [], _, _, _ => rfl
  | [], y :: b, _, _, h => absurd ((h y).mpr List.mem_cons_self) (by simp)
  | x :: a, [], _, _, h => absurd ((h x).mp List.mem_cons_self) (by simp)
  | x :: a, y :: b, pa, pb, h => by
    obtain ⟨p1, p2⟩ := List.pairwise_cons.mp pa
    obtain ⟨q1, q2⟩ := List.pairwise_cons.mp pb
    have e : x = y := by
      rcases List.mem_cons.mp ((h x).mp List.mem_cons_self) with e | e
      · exact e
      · rcases List.mem_cons.mp ((h y).mpr List.mem_cons_self) with g | g
        · exact g.symm
        · have := q1 x e
          have := p1 y g
          omega
    subst e
    rw [sorted_eq p2 q2 fun k => ⟨fun hk => ?_, fun hk => ?_⟩]
    · rcases List.mem_cons.mp ((h k).mp (List.mem_cons_of_mem _ hk)) with e | e
      · have := p1 k hk
        omega
      · exact e
    · rcases List.mem_cons.mp ((h k).mpr (List.mem_cons_of_mem _ hk)) with e | e
      · have := q1 k hk
        omega
      · exact e
/-- in order, each once -/
def srt (n : Nat) (row : List Nat) : List Nat := (List.range n).filter fun x => decide (x ∈ row)
theorem srt_mem {n : Nat} {row : List Nat} (h : ∀ x ∈ row, x < n) {x : Nat} : x ∈ srt n row ↔ x ∈ row := by
  unfold srt
  rw [List.mem_filter, List.mem_range, decide_eq_true_eq]
  exact ⟨fun h => h.2, fun g => ⟨h x g, g⟩⟩
theorem srt_eq {n : Nat} {row : List Nat} {ns : List Int} (h : ∀ x ∈ row, x < n) (p : ns.Pairwise (· < ·)) (m : ∀ k : Int, k ∈ ns ↔ decide (k ∈ row.map fun x => ((x : Nat) : Int)) = true) : ns.map V.int = (srt n row).map nv := by
  have e : ns = (srt n row).map fun x => ((x : Nat) : Int) := by
    refine sorted_eq p ?_ fun k => ?_
    · rw [List.pairwise_map]
      refine List.Pairwise.filter _ ?_
      exact (List.pairwise_lt_range (n := n)).imp fun {a b} h => by omega
    · rw [m k, decide_eq_true_eq, List.mem_map, List.mem_map]
      exact ⟨fun ⟨x, hx, e⟩ => ⟨x, (srt_mem h).mpr hx, e⟩, fun ⟨x, hx, e⟩ => ⟨x, (srt_mem h).mp hx, e⟩⟩
  rw [e, List.map_map]
  rfl
def spRows (K : PySem.W.Frag) : Sp := fun vs H Q _ => ∃ r mv wd, vs = [.ref r] ∧ RowsL K H r mv ∧ FormM mv wd ∧ mv.length ≤ 40 ∧ ∀ H', Same H H' → Q (.bl true) H'
/-- an Automaton -/
structure Au (K : PySem.W.Frag) (H : Hp) (x : Addr) (mv : List (List Nat)) (first : Nat) (mk : List Nat) : Prop where
  ex : ∃ dx t u : Addr, H x = some (.ins (He.ga K "Automaton") dx [("rows", .ref t), ("start", nv first), ("accepted", .ref u)]) ∧ RowsT K H t mv ∧ SqT K H u ((srt mv.length mk).map nv)
theorem Au.same {K : PySem.W.Frag} {H H' : Hp} {x : Addr} {mv : List (List Nat)} {first : Nat} {mk : List Nat} (h : Au K H x mv first mk) (e : Same H H') : Au K H' x mv first mk := by
  obtain ⟨dx, t, u, a, b, c⟩ := h.ex
  exact ⟨dx, t, u, e _ _ a, b.same e, Lf.SqT.same e c⟩
def spAut (K : PySem.W.Frag) : Sp := fun vs H Q _ => ∃ p dx r pm mv wd first mk, vs = [.ref p, .ref r, nv first, .ref pm] ∧ H p = some (.ins (He.ga K "Automaton") dx []) ∧ RowsL K H r mv ∧ FormM mv wd ∧ mv.length ≤ 40 ∧ first < mv.length ∧ H pm = some (.lst (mk.map nv)) ∧ (∀ i ∈ mk, i < mv.length) ∧ mk.length ≤ 12 ∧
  ∀ H', But p H H' → Au K H' p mv first mk → Q .non H'
section
variable {P : Program} {w : World} {K : PySem.W.Frag} {mg : Str → Option Value} {base : Heap}
theorem scRows : FnScope ["rows", "row"] ["rows"] (defScope s_are_rows) := ⟨rfl, rfl, rfl, by decide +kernel, rfl, by decide +kernel, by decide +kernel⟩
theorem ok_rows {f : Addr} {fd : FuncData} {q : Str} (F : FunD K "_are_rows" q (defArgs s_are_rows) (defBody s_are_rows) (defScope s_are_rows) [] [] f fd) (T : Txt P w K mg base)
    (DS : Def P w K mg base CX0 1 "is_sequence" ["thing", "least", "most"] (spSeq K)) (DW : Def P w K mg base CX0 3 "wrong_place" ["thing", "many"] (spWrong K)) :
    FnOk P w K mg base CX0 4 f fd ["rows"] (spRows K) := by
  obtain ⟨tS, gS⟩ := T.it 48 "MOST_STATES" 40 rfl
  obtain ⟨tL, gL⟩ := T.it 47 "MOST_LETTERS" 4 rfl
  have zn : mg "len" = none := T.fr 59 "len" rfl
  refine F.ok scRows (fun vs H Q E h => ?_) (fun cdv A outer s H vs Q E hr h => ?_)
  · obtain ⟨r, mv, wd, rfl, _⟩ := h
    rfl
  · obtain ⟨r, mv, wd, rfl, R, FM, m9, k⟩ := h
    have r1 : Room 1 _ := hr.mono (by decide)
    refine ⟨_, PSs.nox (pss_cons (ps_if (pt_not (pt_val (pe_def DS r1 pass0 rfl (pa_cons (pv 0) (pa_cons pe_int (pa_cons (pe_gint rfl gS) pa_nil)))))) (pss_one ps_never) pss_nil)
      (pss_cons (ps_for PassesOwn.never rfl (pi_list (pv 0)) (pg_name (i := 1) scRows.nd rfl (.inl rfl))
        (pss_cons (ps_if (PW.pt (pw_or (pt_not (pt_val (pe_def DS r1 pass0 rfl (pa_cons (pv 1) (pa_cons pe_int (pa_cons (pe_gint rfl gL) pa_nil))))))
            (pw_or1 (pt_cmpR op_ne (pe_callB call_len_seq rfl zn boot_len (pa_cons (pv 1) pa_nil)) (pe_callB call_len_seq rfl zn boot_len (pa_cons (pe_ix ix_list (pv 0) pe_int (fun _ _ => rfl)) pa_nil)) (nomark _))))) (pss_one ps_never) pss_nil)
        (pss_one (ps_if (pt_cmpR op_notN (pe_def DW hr pass0 rfl (pa_cons (pv 1) (pa_cons (pe_callB call_len_seq rfl zn boot_len (pa_cons (pv 0) pa_nil)) pa_nil))) pe_non (nomark _)) (pss_one ps_never) pss_nil))))
      (pss_one (ps_ret pe_bl)))), ?_⟩
    obtain ⟨as, sr, la, srow⟩ := R.ex
    obtain ⟨f1, f2, f3, f4⟩ := FM
    have ln : (as.map V.ref).length = mv.length := by rw [List.length_map, la]
    refine ⟨_, rfl, r, as.map V.ref, 1, 40, rfl, .inl sr, fun H1 s1 => ⟨_, rfl, ?_⟩⟩
    rw [seq_dec (by omega) (by omega)]
    refine ifF rfl ?_
    refine ⟨_, rfl, r, rfl, ⟨_, L2.Same.seq s1 sr⟩, ?_⟩
    refine for_list (K := K) (a := r) (xs := as.map V.ref) (fun i σ H' => ∃ v1 : Option V, σ = [some (.ref r), v1] ∧ Same H H') ⟨none, rfl, s1⟩ (fun i σ H' _ ⟨_, _, s⟩ => L2.Same.seq s sr) ?_ ?_
    · rintro i y σ H' hy ⟨v1, rfl, s2⟩
      obtain ⟨a, ha, rfl⟩ := map_get hy
      obtain ⟨row, hrow⟩ := lt_get (show i < mv.length by have := get_lt ha; omega)
      have sa := srow i a row ha hrow
      obtain ⟨lw, ent⟩ := f4 row (List.mem_of_getElem? hrow)
      refine ⟨_, rfl, a, row.map nv, 1, 4, rfl, .inl (L2.Same.seq s2 sa), fun H3 s3 => ⟨_, rfl, ?_⟩⟩
      rw [List.length_map, seq_dec (by omega) (by omega)]
      refine ifF rfl ?_
      have s4 := s2.trans s3
      obtain ⟨a0, h0⟩ := lt_get (show 0 < as.length by omega)
      obtain ⟨row0, hrow0⟩ := lt_get (show 0 < mv.length by omega)
      have lw0 := (f4 row0 (List.mem_of_getElem? hrow0)).1
      refine ⟨_, rfl, a, row.map nv, rfl, .inl (L2.Same.seq s4 sa), _, rfl, r, as.map V.ref, 0, .ref a0, rfl, rfl, L2.Same.seq s4 sr, atI_nat (j := 0) (get_map h0), a0, row0.map nv, rfl, .inl (L2.Same.seq s4 (srow 0 a0 row0 h0 hrow0)), rfl, _, rfl, ?_⟩
      refine ifF (by simp [lw, lw0]) ?_
      refine ⟨_, rfl, _, rfl, r, as.map V.ref, rfl, .inl (L2.Same.seq s4 sr), a, row, mv.length, by rw [ln], .inl (L2.Same.seq s4 sa), ent, fun H5 s5 => ⟨rfl, _, rfl, ?_⟩⟩
      exact ifF rfl ⟨_, rfl, s4.trans s5⟩
    · rintro σ H' ⟨v1, rfl, s2⟩
      exact k _ s2
end
end K69

set_option Elab.async false
set_option linter.all false
set_option maxRecDepth 100000
set_option maxHeartbeats 2000000
/-! Tuples of numbers, and rows of them, as data: equal, in, index. -/
namespace Lf
open PySem PySem.Spec PyProof.Rows L2
def dN (i : Nat) : PyData := .int ((i : Nat) : Int)
def dI (x : List Nat) : PyData := .tuple (x.map dN)
theorem all_lay {k : Nat} : ∀ {ds : List PyData}, (∀ d ∈ ds, d.canLay0 = true ∧ d.depth ≤ k) → PyData.canLayAll0 ds = true ∧ PyData.depthAll ds ≤ k
  | [], _ => by simp [PyData.canLayAll0, PyData.depthAll]
  | d :: ds, h => by
    obtain ⟨a, b⟩ := all_lay fun e he => h e (List.mem_cons_of_mem _ he)
    obtain ⟨c, e⟩ := h d List.mem_cons_self
    refine ⟨by simp [PyData.canLayAll0, a, c], ?_⟩
    rw [PyData.depthAll]
    omega
theorem tup_lay {k : Nat} {ds : List PyData} (h : ∀ d ∈ ds, d.canLay0 = true ∧ d.depth ≤ k) : (PyData.tuple ds).canLay0 = true ∧ (PyData.tuple ds).depth ≤ k + 1 := by
  obtain ⟨a, b⟩ := all_lay h
  refine ⟨by rw [PyData.canLay0]; exact a, ?_⟩
  rw [PyData.depth]
  omega
theorem lst_lay {k : Nat} {ds : List PyData} (h : ∀ d ∈ ds, d.canLay0 = true ∧ d.depth ≤ k) : (PyData.list ds).canLay0 = true ∧ (PyData.list ds).depth ≤ k + 1 := by
  obtain ⟨a, b⟩ := all_lay h
  refine ⟨by rw [PyData.canLay0]; exact a, ?_⟩
  rw [PyData.depth]
  omega
theorem sh_lay {d : PyData} {k : Nat} (h : d.canLay0 = true ∧ d.depth ≤ k) (hk : k ≤ 64) : SeqAt.shaped d = true := by
  unfold SeqAt.shaped
  rw [h.1, decide_eq_true (by omega)]
  rfl
theorem dN_lay (i : Nat) : (dN i).canLay0 = true ∧ (dN i).depth ≤ 0 := by simp [dN, PyData.canLay0, PyData.depth]
theorem dI_lay (x : List Nat) : (dI x).canLay0 = true ∧ (dI x).depth ≤ 0 + 1 := tup_lay fun d hd => by
  obtain ⟨i, _, rfl⟩ := List.mem_map.mp hd
  exact dN_lay i
theorem dI_sh (x : List Nat) : SeqAt.shaped (dI x) = true := sh_lay (dI_lay x) (by decide)
theorem rows_sh (l : List (List Nat)) : SeqAt.shaped (.list (l.map dI)) = true := sh_lay (lst_lay fun d hd => by
  obtain ⟨i, _, rfl⟩ := List.mem_map.mp hd
  exact dI_lay i) (by decide)
theorem trows_sh (l : List (List Nat)) : SeqAt.shaped (.tuple (l.map dI)) = true := sh_lay (tup_lay fun d hd => by
  obtain ⟨i, _, rfl⟩ := List.mem_map.mp hd
  exact dI_lay i) (by decide)
theorem ints_sh (l : List Nat) : SeqAt.shaped (.list (l.map dN)) = true := sh_lay (lst_lay fun d hd => by
  obtain ⟨i, _, rfl⟩ := List.mem_map.mp hd
  exact dN_lay i) (by decide)
theorem dI_eqv (x y : List Nat) : PyData.eqv (dI x) (dI y) = decide (x = y) := by
  have e : ∀ l : List Nat, l.map dN = (l.map fun i => ((i : Nat) : Int)).map PyData.int := fun l => by rw [List.map_map]; rfl
  unfold dI
  rw [PyData.eqv, e, e, PySem.W.ked_eqvAll]
  refine decide_eq_decide.mpr ⟨fun h => ?_, fun h => by rw [h]⟩
  exact List.map_inj_right (fun a b h => by omega) |>.mp h
section
variable {K : PySem.W.Frag} {H : Hp}
theorem dpN : ∀ {x : List Nat}, DpAll K H (x.map fun i => V.int (i : Nat)) (x.map dN)
  | [] => .nil
  | i :: x => .cons (.int _) dpN
theorem dpI {a : Addr} {x : List Nat} (h : SqT K H a (x.map fun i => V.int (i : Nat))) : Dp K H (.ref a) (dI x) := .tup h dpN
theorem dpR : ∀ {as : List Addr} {rows : List (List Nat)}, as.length = rows.length → (∀ (j : Nat) a x, as[j]? = some a → rows[j]? = some x → SqT K H a (x.map fun i => V.int (i : Nat))) → DpAll K H (as.map V.ref) (rows.map dI)
  | [], [], _, _ => .nil
  | a :: as, x :: rows, l, h => .cons (dpI (h 0 a x rfl rfl)) (dpR (by simpa using l) fun j b y h1 h2 => h (j + 1) b y h1 h2)
theorem any_dI {l : List (List Nat)} {x : List Nat} : ((l.map dI).any fun z => PyData.eqv z (dI x)) = decide (x ∈ l) := by
  rw [List.any_map]
  by_cases h : x ∈ l
  · rw [decide_eq_true h, List.any_eq_true]
    exact ⟨x, h, by show PyData.eqv (dI x) (dI x) = true; rw [dI_eqv]; simp⟩
  · rw [decide_eq_false h, List.any_eq_false]
    intro y hy e
    have : PyData.eqv (dI y) (dI x) = true := e
    rw [dI_eqv] at this
    exact h (of_decide_eq_true this ▸ hy)
/-- for l.index(x): x stands at j and nowhere else -/
theorem index_pre {l : List (List Nat)} {x : List Nat} {j : Nat} (nd : l.Nodup) (hj : l[j]? = some x) : (l.map dI)[j]? = some (dI x) ∧ PyData.eqv (dI x) (dI x) = true ∧ ∀ (k : Nat) z, k < j → (l.map dI)[k]? = some z → PyData.eqv z (dI x) = false := by
  refine ⟨by rw [List.getElem?_map, hj]; rfl, by rw [dI_eqv]; simp, fun k z kj hz => ?_⟩
  rw [List.getElem?_map] at hz
  obtain ⟨y, hy, rfl⟩ := Option.map_eq_some_iff.mp hz
  rw [dI_eqv]
  refine decide_eq_false fun e => ?_
  subst e
  have := (List.getElem?_inj (List.getElem?_eq_some_iff.mp hy).1 nd).mp (hy.trans hj.symm)
  omega
theorem in_dI {p c : Addr} {l : List (List Nat)} {x : List Nat} {Q : VK} (hl : Dp K H (.ref p) (.list (l.map dI))) (hx : Dp K H (.ref c) (dI x)) (q : Q (.bl (decide (x ∈ l))) H) : rInD K (.ref c) (.ref p) H Q :=
  ⟨dI x, l.map dI, hx, hl, dI_sh x, rows_sh l, by rw [any_dI]; exact q⟩
theorem ne_dI {a b : V} {d : PyData} {Q : VK} (ha : Dp K H a d) (hb : Dp K H b d) (sh : SeqAt.shaped d = true) (q : Q (.bl false) H) : rNeD K a b H Q :=
  ⟨d, d, ha, hb, sh, sh, by rw [SeqAt.eqv_refl _ (SeqAt.canLay_of_shaped sh)]; exact q⟩
theorem eq_dI {a b : V} {d : PyData} {Q : VK} (ha : Dp K H a d) (hb : Dp K H b d) (sh : SeqAt.shaped d = true) (q : Q (.bl true) H) : rEqD K a b H Q :=
  ⟨d, d, ha, hb, sh, sh, by rw [SeqAt.eqv_refl _ (SeqAt.canLay_of_shaped sh)]; exact q⟩
end
end Lf

set_option Elab.async false
set_option linter.all false
set_option maxRecDepth 100000
set_option maxHeartbeats 8000000
namespace K69
open PySem PySem.Spec PyProof.Rows L2 Lf
structure OwnC (K : PySem.W.Frag) (x : Str) : Prop where
  ha : PySem.W.findIn K (.ref (He.ga K x)) "__class__" = some (some (.builtin "object.__class__"))
  hn : PySem.W.specialIn K (.builtin "object.__class__") "__get__" = some (some (.builtin "getset_descriptor.__get__"))
  tk : PySem.W.takesIn K (.builtin "object.__class__") = some true
  hm : PySem.W.mroIn K (He.ga K x) (.type "object") = some true
  no : ∀ b ∈ ["int", "bool", "str", "list", "tuple"], PySem.W.kitOne K (.ref (He.ga K x)) (.type b) = some false
  on : ∀ b ∈ ["NoneType", "int", "bool", "str", "list", "tuple", "dict"], PySem.W.kitOne K (.type b) (.ref (He.ga K x)) = some false
  is : ∀ y ∈ owns, PySem.W.kitOne K (.ref (He.ga K x)) (.ref (He.ga K y)) = some (decide (x = y))
theorem ownB_ok {K : PySem.W.Frag} {x : Str} (h : ownB K x = true) : OwnC K x := by
  unfold ownB at h
  simp only [Bool.and_eq_true, decide_eq_true_eq, List.all_eq_true] at h
  obtain ⟨a, b, c, d, e, f, g⟩ := h
  exact ⟨a, b, c, d, e, f, g⟩
abbrev cls (K : PySem.W.Frag) : List Addr := owns.map fun y => He.ga K y
section
variable {P : Program} {w : World} {K : PySem.W.Frag} {mg : Str → Option Value} {base : Heap}
theorem Txt.own (T : Txt P w K mg base) {x : Str} (h : x ∈ owns) : OwnC K x :=
  ownB_ok (List.all_eq_true.mp (He.ba (He.ba (He.ba T.m).2).2).1 x h)
theorem Txt.ops (T : Txt P w K mg base) {x : Str} (h : x ∈ opsl) : Ops K (cls K) (He.ga K x) :=
  ops_ok (List.all_eq_true.mp (He.ba (He.ba (He.ba T.m).2).2).2 x h)
/-- which of the own classes a type is -/
def IsOf (K : PySem.W.Frag) (t : Value) (c : Option Str) : Prop := ∀ y ∈ owns, PySem.W.kitOne K t (.ref (He.ga K y)) = some (decide (c = some y))
theorem OwnC.isOf {x : Str} (o : OwnC K x) : IsOf K (.ref (He.ga K x)) (some x) := fun y hy => by
  rw [o.is y hy]
  congr 1
  simp
theorem OwnC.ty {x : Str} {H : Hp} {a dx : Addr} {fs : List (Str × V)} (o : OwnC K x) (cl : L2.Cls K (He.ga K x)) (h : H a = some (.ins (He.ga K x) dx fs)) : TyX K H (.ref a) (.ref (He.ga K x)) := .base (.ins h cl o.ha o.hn o.tk o.hm)
end
theorem RowsT.dp {K : PySem.W.Frag} {H : Hp} {r : Addr} {rows : List (List Nat)} (h : RowsT K H r rows) : Dp K H (.ref r) (.tuple (rows.map dI)) := by
  obtain ⟨as, a, b, c⟩ := h.ex
  exact .tup a (dpR b c)
theorem seq_fld {K : PySem.W.Frag} {ta tv : TE} {f : Str} {u : TS} {Ds : Ends} {σ : L2.St} {H : Hp} (h : tv σ H fun y H1 => tSeq (sFld K ta (tC y) f) u Ds σ H1) : tSeq (sFld K ta tv f) u Ds σ H := h
theorem fld_k {K : PySem.W.Frag} {ta tv : TE} {f : Str} {Ds : Ends} {σ : L2.St} {H : Hp} (h : tv σ H fun y H1 => sFld K ta (tC y) f Ds σ H1) : sFld K ta tv f Ds σ H := h
/-- a tuple of tuples of a list of lists -/
theorem tups_e {K : PySem.W.Frag} {H : Hp} {r : Addr} {σ : L2.St} {ri j : Nat} {rows : List (List Nat)} {Q : VK} (hr : σ[ri]? = some (some (.ref r))) (R : RowsL K H r rows) (n1 : rows.length ≤ 4000)
    (wj : ∀ x, wipe (List.set (wipe σ [j]) j (some x)) [j] = wipe σ [j]) (hj : ∀ x, (List.set (wipe σ [j]) j (some x))[j]? = some (some x)) (fin : ∀ t H', Same H H' → H t = none → RowsT K H' t rows → Q (.ref t) H') :
    tCB (rTup K) (tCons (tLc (iList K (tVar ri)) (gName j) tYes (tCB (rTup K) (tCons (tVar j) tNil)) [j]) tNil) σ H Q := by
  obtain ⟨as, sr, la, srow⟩ := R.ex
  refine ⟨_, hr, r, rfl, ⟨_, sr⟩, fun D nD => ?_⟩
  refine lc_list (K := K) (a := r) (xs := as.map V.ref) (fun i Hc => But D H Hc ∧ ∃ us : List Addr, us.length = i ∧ Hc D = some (.lst (us.map V.ref)) ∧ ∀ (j : Nat) u row, us[j]? = some u → rows[j]? = some row → Hc u = some (.tup (row.map nv))) ⟨But.upd, [], rfl, upd_same, fun j u row h => by simp at h⟩ (fun i Hc _ ⟨bc, _⟩ => L2.Same.seq (Same.but (L2.Same.refl _) nD bc) sr) (fun i z Hc hz ⟨bc, us, lu, hD, pu⟩ => ?_) (fun Hc ⟨bc, us, lu, hD, pu⟩ => ?_)
  · obtain ⟨a, ha, rfl⟩ := map_get hz
    obtain ⟨row, hrow⟩ := lt_get (show i < rows.length by have := get_lt ha; omega)
    have sc := Same.but (L2.Same.refl _) nD bc
    refine ⟨wj _, yesT ?_⟩
    refine ⟨_, hj _, a, row.map nv, rfl, .inl ⟨L2.Same.seq sc (srow i a row ha hrow), fun u nu => ?_⟩⟩
    have u2 := same_upd (o := .tup (row.map nv)) nu
    have hu : L2.upd Hc u (.tup (row.map nv)) u = some (.tup (row.map nv)) := upd_same
    generalize L2.upd Hc u (.tup (row.map nv)) = H2 at u2 hu ⊢
    have hD2 := u2 _ _ hD
    have nuD : u ≠ D := fun z => by rw [z, hD2] at hu; cases hu
    refine ⟨_, hD2, by rw [List.length_map, lu]; have := get_lt hrow; show i < 16777216; omega, But.trans (bc.trans (But.of u2)) But.upd, us ++ [u], by simp [lu], by rw [upd_same]; simp, fun j v rw' h1 h2 => ?_⟩
    rcases Mon.snoc_cases h1 with h1 | ⟨rfl, rfl⟩
    · have z := u2 _ _ (pu j v rw' h1 h2)
      rw [upd_ne (fun y => by rw [y, hD2] at z; cases z)]
      exact z
    · rw [lu, hrow] at h2
      cases h2
      rw [upd_ne nuD]
      exact hu
  · have sc := Same.but (L2.Same.refl _) nD bc
    refine ⟨D, _, rfl, .inl ⟨SqL.of hD, fun t nt => ?_⟩⟩
    have u2 := same_upd (o := .tup (us.map V.ref)) nt
    refine fin t _ (sc.trans u2) (nil_of sc nt) ⟨us, SqT.of upd_same, by rw [lu, List.length_map, la], fun j u row h1 h2 => SqT.of (u2 _ _ (pu j u row h1 h2))⟩
abbrev teSort (K : PySem.W.Frag) (w : World) (i : Nat) : TE := tCB (rTup K) (tCons (tCB (rSrtSet w) (tCons (tCB (rSetI K w) (tCons (tVar i) tNil)) tNil)) tNil)
/-- tuple(sorted(set(xs))) -/
theorem sort_e {K : PySem.W.Frag} {w : World} {H : Hp} {a : Addr} {σ : L2.St} {i n : Nat} {xs : List Nat} {Q : VK} (hi : σ[i]? = some (some (.ref a))) (sa : SqL K H a (xs.map nv)) (few : xs.length ≤ 4000) (lt : ∀ x ∈ xs, x < n)
    (fin : ∀ u H', Same H H' → H u = none → SqT K H' u ((srt n xs).map nv) → Q (.ref u) H') : teSort K w i σ H Q := by
  have ez : xs.map nv = (xs.map fun x => ((x : Nat) : Int)).map V.int := by rw [List.map_map]; rfl
  rw [ez] at sa
  refine ⟨_, hi, a, xs.map (fun x => ((x : Nat) : Int)), rfl, .inl sa, by rw [List.length_map]; omega, fun e m lm ne => ?_⟩
  rw [List.length_map] at lm
  refine ⟨e, _, m, rfl, upd_same, by omega, fun ns p2 hs hm np2 => ?_⟩
  have se := same_upd (o := SetO w e (fun k => decide (k ∈ xs.map fun x => ((x : Nat) : Int))) m) ne
  have sp := se.trans (same_upd (o := .lst (ns.map V.int)) np2)
  refine ⟨p2, _, rfl, .inl ⟨SqL.of upd_same, fun u nu => ?_⟩⟩
  rw [srt_eq lt hs hm]
  rw [srt_eq lt hs hm] at sp nu
  exact fin u _ (sp.trans (same_upd nu)) (nil_of sp nu) (SqT.of upd_same)
section
variable {P : Program} {w : World} {K : PySem.W.Frag} {mg : Str → Option Value} {base : Heap}
theorem scAut : FnScope ["self", "rows", "start", "accepted", "row"] ["self", "rows", "start", "accepted"] (defScope s_Automaton_init) := ⟨rfl, rfl, rfl, by decide +kernel, rfl, by decide +kernel, by decide +kernel⟩
theorem ok_aut {f : Addr} {fd : FuncData} {q : Str} (F : FunD K "__init__" q (defArgs s_Automaton_init) (defBody s_Automaton_init) (defScope s_Automaton_init) [] [] f fd) (T : Txt P w K mg base)
    (DR : Def P w K mg base CX0 4 "_are_rows" ["rows"] (spRows K)) (DB : Def P w K mg base CX0 2 "is_between" ["thing", "least", "most"] spBtw) (DW : Def P w K mg base CX0 3 "wrong_place" ["thing", "many"] (spWrong K)) :
    FnOk P w K mg base CX0 5 f fd ["self", "rows", "start", "accepted"] (spAut K) := by
  have zn : mg "len" = none := T.fr 59 "len" rfl
  have zs : mg "set" = none := T.fr 64 "set" rfl
  have zo : mg "sorted" = none := T.fr 65 "sorted" rfl
  have zt : mg "tuple" = none := T.fr 66 "tuple" rfl
  have cl : L2.Cls K (He.ga K "Automaton") := He.cls_ok (T.d.fact 92 (f := .cls "Automaton") rfl)
  have n1 : NoAttr K (He.ga K "Automaton") "rows" := He.noat_ok (T.d.fact 95 (f := .noat "Automaton" "rows") rfl)
  have n2 : NoAttr K (He.ga K "Automaton") "start" := He.noat_ok (T.d.fact 96 (f := .noat "Automaton" "start") rfl)
  have n3 : NoAttr K (He.ga K "Automaton") "accepted" := He.noat_ok (T.d.fact 97 (f := .noat "Automaton" "accepted") rfl)
  refine F.ok scAut (fun vs H Q E h => ?_) (fun cdv A outer s H vs Q E hr h => ?_)
  · obtain ⟨p, dx, r, pm, mv, wd, first, mk, rfl, _⟩ := h
    rfl
  · obtain ⟨p, dx, r, pm, mv, wd, first, mk, rfl, hp, R, FM, m9, fl, sm, mkl, k9, k⟩ := h
    have r2 : Room 2 _ := hr.mono (by decide)
    have r3 : Room 3 _ := hr.mono (by decide)
    refine ⟨_, PSs.nox (pss_cons (ps_if (pt_not (pt_val (pe_def DR hr pass0 rfl (pa_cons (pv 1) pa_nil)))) (pss_one ps_never) pss_nil)
      (pss_cons (ps_if (pt_not (pt_val (pe_def DB r2 pass0 rfl (pa_cons (pv 2) (pa_cons pe_int (pa_cons (pe_op op_sub (pe_callB call_len_seq rfl zn boot_len (pa_cons (pv 1) pa_nil)) pe_int) pa_nil)))))) (pss_one ps_never) pss_nil)
      (pss_cons (ps_if (pt_cmpR op_notN (pe_def DW r3 pass0 rfl (pa_cons (pv 3) (pa_cons (pe_callB call_len_seq rfl zn boot_len (pa_cons (pv 1) pa_nil)) pa_nil))) pe_non (nomark _)) (pss_one ps_never) pss_nil)
      (pss_cons (ps_fld (pv 0) (pe_callTy call_tuple_of rfl zt PyProof.Rows.boot_tuple (pa_cons (pe_lc (own := [("row", 4)]) (g := gName 4) (te := tCB (rTup K) (tCons (tVar 4) tNil)) (by rfl) scAut.nd (pi_list (pv 1)) (blkOk_by (own := [("row", 4)]) (N := ["self", "rows", "start", "accepted", "row"]) (sc := defScope s_Automaton_init) (by decide +kernel)) (fun _ _ _ _ _ => pg_name (i := 4) scAut.nd rfl (Or.inl rfl)) (fun _ _ _ _ _ => pts_nil)
        (fun _ _ _ _ _ => by exact pe_callTy call_tuple_of rfl zt PyProof.Rows.boot_tuple (pa_cons (pv 4) pa_nil))) pa_nil)) rfl)
      (pss_cons (ps_fld (pv 0) (pv 2) rfl)
      (pss_one (ps_fld (pv 0) (pe_callTy call_tuple_of rfl zt PyProof.Rows.boot_tuple (pa_cons (pe_callB (cr_srtSet rfl) rfl zo (by decide +kernel) (pa_cons (pe_callTy (cr_setI rfl) rfl zs boot_set (pa_cons (pv 3) pa_nil)) pa_nil)) pa_nil)) rfl))))))), ?_⟩
    obtain ⟨as, sr, la, srow⟩ := R.ex
    have ln : (as.map V.ref).length = mv.length := by rw [List.length_map, la]
    refine ⟨_, rfl, r, mv, wd, rfl, R, FM, m9, fun H1 s1 => ⟨_, rfl, ifF rfl ?_⟩⟩
    refine ⟨_, rfl, _, rfl, r, as.map V.ref, rfl, .inl (L2.Same.seq s1 sr), _, 1, rfl, rfl, nv first, 0, _, rfl, True.intro, _, rfl, ?_⟩
    rw [ln, btw_nv fl]
    refine ifF rfl ?_
    refine ⟨_, rfl, _, rfl, r, as.map V.ref, rfl, .inl (L2.Same.seq s1 sr), pm, mk, mv.length, by rw [ln], .inl (SqL.of (s1 _ _ sm)), mkl, fun H2 s2 => ⟨rfl, _, rfl, ifF rfl ?_⟩⟩
    have s3 := s1.trans s2
    dsimp only
    refine seq_fld (tups_e (ri := 1) (j := 4) rfl (R.same s3) (by omega) (fun _ => rfl) (fun _ => rfl) fun t H4 s4 nt Rt => ?_)
    have npm : pm ≠ p := fun z => by rw [z, hp] at sm; cases sm
    have hp4 := (s3.trans s4) _ _ hp
    have sm4 := (s3.trans s4) _ _ sm
    refine ⟨_, rfl, p, _, dx, [], rfl, hp4, cl, n1, (by show 0 < 1000; decide), ?_⟩
    have b5 : But p H (L2.upd H4 p (.ins (He.ga K "Automaton") dx [("rows", V.ref t)])) := (But.of (s3.trans s4)).trans But.upd
    have Rt5 : RowsT K (L2.upd H4 p (.ins (He.ga K "Automaton") dx [("rows", V.ref t)])) t mv := RowsT.but hp4 But.upd Rt
    have sm5 : L2.upd H4 p (.ins (He.ga K "Automaton") dx [("rows", V.ref t)]) pm = some (.lst (mk.map nv)) := by rw [upd_ne npm]; exact sm4
    have hp5 : L2.upd H4 p (.ins (He.ga K "Automaton") dx [("rows", V.ref t)]) p = some (.ins (He.ga K "Automaton") dx [("rows", V.ref t)]) := upd_same
    show tSeq _ _ _ _ (L2.upd H4 p (.ins (He.ga K "Automaton") dx [("rows", V.ref t)]))
    generalize L2.upd H4 p (.ins (He.ga K "Automaton") dx [("rows", V.ref t)]) = H5 at b5 Rt5 sm5 hp5 ⊢
    clear sm4 hp4 Rt nt s4 s3
    refine ⟨_, rfl, _, rfl, p, _, dx, _, rfl, hp5, cl, n2, (by show 1 < 1000; decide), ?_⟩
    have b6 : But p H (L2.upd H5 p (.ins (He.ga K "Automaton") dx [("rows", V.ref t), ("start", nv first)])) := b5.trans But.upd
    have Rt6 : RowsT K (L2.upd H5 p (.ins (He.ga K "Automaton") dx [("rows", V.ref t), ("start", nv first)])) t mv := RowsT.but hp5 But.upd Rt5
    have sm6 : L2.upd H5 p (.ins (He.ga K "Automaton") dx [("rows", V.ref t), ("start", nv first)]) pm = some (.lst (mk.map nv)) := by rw [upd_ne npm]; exact sm5
    have hp6 : L2.upd H5 p (.ins (He.ga K "Automaton") dx [("rows", V.ref t), ("start", nv first)]) p = some (.ins (He.ga K "Automaton") dx [("rows", V.ref t), ("start", nv first)]) := upd_same
    dsimp only
    show sFld _ _ _ _ _ _ (L2.upd H5 p (.ins (He.ga K "Automaton") dx [("rows", V.ref t), ("start", nv first)]))
    generalize L2.upd H5 p (.ins (He.ga K "Automaton") dx [("rows", V.ref t), ("start", nv first)]) = H6 at b6 Rt6 sm6 hp6 ⊢
    refine fld_k (sort_e (K := K) (w := w) (i := 3) (n := mv.length) rfl (SqL.of sm6) (by omega) mkl fun u H7 s7 nu su => ?_)
    have hp7 := s7 _ _ hp6
    refine ⟨_, rfl, p, _, dx, _, rfl, hp7, cl, n3, (by show 2 < 1000; decide), ?_⟩
    exact k _ ((b6.trans (But.of s7)).trans But.upd) ⟨dx, t, u, upd_same, RowsT.but hp7 But.upd (Rt6.same s7), SqT.but hp7 But.upd su⟩
end
end K69

set_option Elab.async false
set_option linter.all false
set_option maxRecDepth 100000
set_option maxHeartbeats 8000000
namespace K69
open PySem PySem.Spec PyProof.Rows L2 Lf
structure DefM (P : Program) (w : World) (K : PySem.W.Frag) (mg : Str → Option Value) (base : Heap) (CX : CXT) (k : Nat) (m : Str) (ps : List Str) (sp : Sp) : Prop where
  ex : ∃ f fd, Meth K (He.ga K "Monoid") m f ∧ FnOk P w K mg base CX k f fd ps sp ∧ Binds K fd ps []
def spEqA (K : PySem.W.Frag) : Sp := fun vs H Q _ => ∃ a b mv first mk, vs = [.ref a, .ref b] ∧ Au K H a mv first mk ∧ Au K H b mv first mk ∧ Q (.bl true) H
def spCkM (K : PySem.W.Frag) : Sp := fun vs H Q _ => ∃ a rows m, vs = [.ref a] ∧ Mo K H a rows m ∧ Q .non H
def spSize (K : PySem.W.Frag) : Sp := fun vs H Q _ => ∃ p rows m, vs = [.ref p] ∧ Mo K H p rows m ∧ Q (.int (rows.length : Nat)) H
theorem Mo.put {K : PySem.W.Frag} {H H' : Hp} {x p C dx : Addr} {fs : List (Str × V)} {rows : List (List Nat)} {m : List (Nat × Nat)} (h : Mo K H x rows m) (hp : H p = some (.ins C dx fs)) (ne : x ≠ p) (b : But p H H') : Mo K H' x rows m := by
  obtain ⟨dy, t, u, v, a, r, q, l⟩ := h.ex
  exact ⟨dy, t, u, v, b _ _ ne a, RowsT.but hp b r, MadeT.but hp b q, RowsT.but hp b l⟩
/-- a Language: of a monoid's table and the marked elements -/
structure La (K : PySem.W.Frag) (H : Hp) (x : Addr) (rows : List (List Nat)) (mk : List Nat) : Prop where
  ex : ∃ (dx p u : Addr) (m : List (Nat × Nat)), H x = some (.ins (He.ga K "Language") dx [("monoid", .ref p), ("accepted", .ref u)]) ∧ Mo K H p rows m ∧ SqT K H u ((srt rows.length mk).map nv)
theorem La.same {K : PySem.W.Frag} {H H' : Hp} {x : Addr} {rows : List (List Nat)} {mk : List Nat} (h : La K H x rows mk) (e : Same H H') : La K H' x rows mk := by
  obtain ⟨dx, p, u, m, a, b, c⟩ := h.ex
  exact ⟨dx, p, u, m, e _ _ a, b.same e, Lf.SqT.same e c⟩
def spLan (K : PySem.W.Frag) : Sp := fun vs H Q _ => ∃ p dx mo pm rows m wd mk, vs = [.ref p, .ref mo, .ref pm] ∧ H p = some (.ins (He.ga K "Language") dx []) ∧ Mo K H mo rows m ∧ FormM rows wd ∧ rows.length ≤ 500 ∧ H pm = some (.lst (mk.map nv)) ∧ (∀ i ∈ mk, i < rows.length) ∧ mk.length ≤ 500 ∧
  ∀ H', But p H H' → La K H' p rows mk → Q .non H'
section
variable {P : Program} {w : World} {K : PySem.W.Frag} {mg : Str → Option Value} {base : Heap}
theorem scSize : FnScope ["self"] ["self"] (defScope s_Monoid_size) := ⟨rfl, rfl, rfl, by decide +kernel, rfl, by decide +kernel, by decide +kernel⟩
theorem ok_size {f : Addr} {fd : FuncData} {q : Str} (F : FunD K "size" q (defArgs s_Monoid_size) (defBody s_Monoid_size) (defScope s_Monoid_size) [] [] f fd) (T : Txt P w K mg base) :
    FnOk P w K mg base CX0 1 f fd ["self"] (spSize K) := by
  have zn : mg "len" = none := T.fr 59 "len" rfl
  have cl : L2.Cls K (He.ga K "Monoid") := He.cls_ok (T.d.fact 67 (f := .cls "Monoid") rfl)
  have n1 : NoAttr K (He.ga K "Monoid") "right" := He.noat_ok (T.d.fact 75 (f := .noat "Monoid" "right") rfl)
  refine F.ok scSize (fun vs H Q E h => ?_) (fun cdv A outer s H vs Q E hr h => ?_)
  · obtain ⟨p, rows, m, rfl, _⟩ := h
    rfl
  · obtain ⟨p, rows, m, rfl, ⟨dx, t, u, v, hp, Rt, _⟩, k⟩ := h
    obtain ⟨as, sr, la, _⟩ := Rt.ex
    refine ⟨_, PSs.nox (pss_one (ps_ret (pe_callB call_len_seq rfl zn boot_len (pa_cons (pe_fld (pv 0) rfl) pa_nil)))), ?_⟩
    refine ⟨_, rfl, p, _, dx, _, _, rfl, hp, cl, n1, rfl, t, as.map V.ref, rfl, .inr sr, ?_⟩
    rw [List.length_map, la]
    exact k
theorem scCkM : FnScope ["thing"] ["thing"] (defScope s_check_monoid) := ⟨rfl, rfl, rfl, by decide +kernel, rfl, by decide +kernel, by decide +kernel⟩
theorem ok_ckM {f : Addr} {fd : FuncData} {q : Str} (F : FunD K "check_monoid" q (defArgs s_check_monoid) (defBody s_check_monoid) (defScope s_check_monoid) [] [] f fd) (T : Txt P w K mg base) :
    FnOk P w K mg base CX0 1 f fd ["thing"] (spCkM K) := by
  have zI : mg "isinstance" = none := T.fr 58 "isinstance" rfl
  have g0 := T.gl 7 "Monoid" rfl
  have cl : L2.Cls K (He.ga K "Monoid") := He.cls_ok (T.d.fact 67 (f := .cls "Monoid") rfl)
  refine F.ok scCkM (fun vs H Q E h => ?_) (fun cdv A outer s H vs Q E hr h => ?_)
  · obtain ⟨a, rows, m, rfl, _⟩ := h
    rfl
  · obtain ⟨a, rows, m, rfl, ⟨dx, t, u, v, ha, qa, _⟩, k⟩ := h
    refine ⟨_, PSs.nox (pss_one (ps_if (pt_not (pt_val (pe_callB call_isi rfl zI PyProof.Rows.boot_isinstance (pa_cons (pv 0) (pa_cons (pe_cl rfl g0) pa_nil))))) (pss_one ps_never) pss_nil)), ?_⟩
    have ty := (T.own (x := "Monoid") (by decide)).ty cl ha
    have is := (T.own (x := "Monoid") (by decide)).is "Monoid" (by decide)
    refine ⟨_, rfl, _, .ref _, _, _, _, rfl, .own _, ty, is, _, rfl, ?_⟩
    exact ifF (by decide +kernel) k
theorem scEqA : FnScope ["self", "other"] ["self", "other"] (defScope s_Automaton_eq) := ⟨rfl, rfl, rfl, by decide +kernel, rfl, by decide +kernel, by decide +kernel⟩
theorem ok_eqA {f : Addr} {fd : FuncData} {q : Str} (F : FunD K "__eq__" q (defArgs s_Automaton_eq) (defBody s_Automaton_eq) (defScope s_Automaton_eq) [] [] f fd) (T : Txt P w K mg base) : FnOk P w K mg base CX0 1 f fd ["self", "other"] (spEqA K) := by
  have zI : mg "isinstance" = none := T.fr 58 "isinstance" rfl
  have g0 := T.gl 10 "Automaton" rfl
  have c0 : L2.Cls K (He.ga K "Automaton") := He.cls_ok (T.d.fact 92 (f := .cls "Automaton") rfl)
  have n0 : NoAttr K (He.ga K "Automaton") "rows" := He.noat_ok (T.d.fact 95 (f := .noat "Automaton" "rows") rfl)
  have m0 : NoAttr K (He.ga K "Automaton") "start" := He.noat_ok (T.d.fact 96 (f := .noat "Automaton" "start") rfl)
  have m1 : NoAttr K (He.ga K "Automaton") "accepted" := He.noat_ok (T.d.fact 97 (f := .noat "Automaton" "accepted") rfl)
  refine F.ok scEqA (fun vs H Q E h => ?_) (fun cdv A outer s H vs Q E hr h => ?_)
  · obtain ⟨a, b, mv, first, mk, rfl, _⟩ := h
    rfl
  · obtain ⟨a, b, mv, first, mk, rfl, ⟨dx, t, u, ha, qa, ua⟩, ⟨dy, t', u', hb, qb, ub⟩, k⟩ := h
    refine ⟨_, PSs.nox (pss_one (ps_ret (pe_and (pe_callB call_isi rfl zI PyProof.Rows.boot_isinstance (pa_cons (pv 1) (pa_cons (pe_cl rfl g0) pa_nil))) (pe_and (pe_cmpR (op_eqD hr.units) (pe_fld (pv 0) rfl) (pe_fld (pv 1) rfl) (nomark _)) (pe_and (pe_cmpR op_eq (pe_fld (pv 0) rfl) (pe_fld (pv 1) rfl) (nomark _)) (pe_one (pe_cmpR (op_eqD hr.units) (pe_fld (pv 0) rfl) (pe_fld (pv 1) rfl) (nomark _)))))))), ?_⟩
    have ty := (T.own (x := "Automaton") (by decide)).ty c0 hb
    have is := (T.own (x := "Automaton") (by decide)).is "Automaton" (by decide)
    refine ⟨_, rfl, _, .ref _, _, _, _, rfl, .own _, ty, is, _, rfl, ?_⟩
    refine ifT (by decide +kernel) ?_
    refine ⟨_, rfl, _, _, _, _, _, rfl, ha, c0, n0, rfl, _, rfl, _, _, _, _, _, rfl, hb, c0, n0, rfl, ?_⟩
    refine eq_dI qa.dp qb.dp (trows_sh _) ⟨_, rfl, ifT rfl ?_⟩
    refine ⟨_, rfl, _, _, _, _, _, rfl, ha, c0, m0, rfl, _, rfl, _, _, _, _, _, rfl, hb, c0, m0, rfl, rfl, ?_⟩
    refine ⟨_, rfl, ifT (by simp) ?_⟩
    refine ⟨_, rfl, _, _, _, _, _, rfl, ha, c0, m1, rfl, _, rfl, _, _, _, _, _, rfl, hb, c0, m1, rfl, ?_⟩
    exact eq_dI (dpI ua) (dpI ub) (dI_sh _) k
theorem scLan : FnScope ["self", "monoid", "accepted"] ["self", "monoid", "accepted"] (defScope s_Language_init) := ⟨rfl, rfl, rfl, by decide +kernel, rfl, by decide +kernel, by decide +kernel⟩
theorem ok_lan {f : Addr} {fd : FuncData} {q : Str} (F : FunD K "__init__" q (defArgs s_Language_init) (defBody s_Language_init) (defScope s_Language_init) [] [] f fd) (T : Txt P w K mg base)
    (DC : Def P w K mg base CX0 1 "check_monoid" ["thing"] (spCkM K)) (DS : DefM P w K mg base CX0 1 "size" ["self"] (spSize K)) (DW : Def P w K mg base CX0 3 "wrong_place" ["thing", "many"] (spWrong K)) :
    FnOk P w K mg base CX0 5 f fd ["self", "monoid", "accepted"] (spLan K) := by
  obtain ⟨tL, gL⟩ := T.it 47 "MOST_LETTERS" 4 rfl
  obtain ⟨tF, gF⟩ := T.it 49 "MOST_FOUND" 500 rfl
  have zn : mg "len" = none := T.fr 59 "len" rfl
  have zs : mg "set" = none := T.fr 64 "set" rfl
  have zo : mg "sorted" = none := T.fr 65 "sorted" rfl
  have zt : mg "tuple" = none := T.fr 66 "tuple" rfl
  have cm : L2.Cls K (He.ga K "Monoid") := He.cls_ok (T.d.fact 67 (f := .cls "Monoid") rfl)
  have r0 : NoAttr K (He.ga K "Monoid") "right" := He.noat_ok (T.d.fact 75 (f := .noat "Monoid" "right") rfl)
  have cl : L2.Cls K (He.ga K "Language") := He.cls_ok (T.d.fact 98 (f := .cls "Language") rfl)
  have n1 : NoAttr K (He.ga K "Language") "monoid" := He.noat_ok (T.d.fact 101 (f := .noat "Language" "monoid") rfl)
  have n2 : NoAttr K (He.ga K "Language") "accepted" := He.noat_ok (T.d.fact 102 (f := .noat "Language" "accepted") rfl)
  obtain ⟨fs, fds, ms, Fs, bs⟩ := DS.ex
  refine F.ok scLan (fun vs H Q E h => ?_) (fun cdv A outer s H vs Q E hr h => ?_)
  · obtain ⟨p, dx, mo, pm, rows, m, wd, mk, rfl, _⟩ := h
    rfl
  · obtain ⟨p, dx, mo, pm, rows, m, wd, mk, rfl, hp, M, FM, m5, sm, mkl, k5, k⟩ := h
    have r1 : Room 1 _ := hr.mono (by decide)
    have r3 : Room 3 _ := hr.mono (by decide)
    refine ⟨_, PSs.nox (pss_cons (ps_expr (pe_def DC r1 pass0 rfl (pa_cons (pv 1) pa_nil)))
      (pss_cons (ps_if (PW.pt (pw_or (pt_cmpR op_gt (pe_callB call_len_seq rfl zn boot_len (pa_cons (pe_ix ix_tup (pe_fld (pv 1) rfl) pe_int (fun _ _ => rfl)) pa_nil)) (pe_gint rfl gL) (nomark _))
          (pw_or1 (pt_cmpR op_notN (pe_def DW r3 pass0 rfl (pa_cons (pv 2) (pa_cons (pe_meth0 (pv 1) cm ms Fs r1 bs .nil pass0) pa_nil))) pe_non (nomark _))))) (pss_one ps_never) pss_nil)
      (pss_cons (ps_if (pt_cmpR op_gt (pe_meth0 (pv 1) cm ms Fs r1 bs .nil pass0) (pe_gint rfl gF) (nomark _)) (pss_one ps_never) pss_nil)
      (pss_cons (ps_fld (pv 0) (pv 1) rfl)
      (pss_one (ps_fld (pv 0) (pe_callTy call_tuple_of rfl zt PyProof.Rows.boot_tuple (pa_cons (pe_callB (cr_srtSet rfl) rfl zo (by decide +kernel) (pa_cons (pe_callTy (cr_setI rfl) rfl zs boot_set (pa_cons (pv 2) pa_nil)) pa_nil)) pa_nil)) rfl)))))), ?_⟩
    obtain ⟨f1, f2, f3, f4⟩ := FM
    obtain ⟨dy, t, u, v, hm, Rt, Mu, Lv⟩ := id M
    obtain ⟨as, sr, la, srow⟩ := Rt.ex
    obtain ⟨a0, h0⟩ := lt_get (show 0 < as.length by omega)
    obtain ⟨row0, hrow0⟩ := lt_get (show 0 < rows.length by omega)
    have lw0 := (f4 row0 (List.mem_of_getElem? hrow0)).1
    refine ⟨_, rfl, mo, rows, m, rfl, M, ?_⟩
    refine ⟨_, rfl, mo, _, dy, _, _, rfl, hm, cm, r0, rfl, t, as.map V.ref, 0, .ref a0, rfl, rfl, sr, atI_nat (j := 0) (get_map h0), a0, row0.map nv, rfl, .inr (srow 0 a0 row0 h0 hrow0), _, _, rfl, rfl, _, rfl, ?_⟩
    refine ifF (by rw [List.length_map, lw0]; exact decide_eq_false (by omega)) ?_
    refine ⟨_, rfl, _, rfl, mo, dy, _, rfl, hm, rfl, ⟨mo, rows, m, rfl, M, ?_⟩⟩
    refine ⟨pm, mk, rows.length, rfl, .inl (SqL.of sm), mkl, fun H1 s1 => ⟨rfl, _, rfl, ifF rfl ?_⟩⟩
    have M1 := M.same s1
    refine ⟨_, rfl, mo, dy, _, rfl, s1 _ _ hm, rfl, ⟨mo, rows, m, rfl, M1, ?_⟩⟩
    refine ⟨_, _, rfl, rfl, _, rfl, ifF (decide_eq_false (by omega)) ?_⟩
    have hp1 := s1 _ _ hp
    have npm : pm ≠ p := fun z => by rw [z, hp] at sm; cases sm
    have sm1 := s1 _ _ sm
    dsimp only
    refine ⟨_, rfl, _, rfl, p, _, dx, [], rfl, hp1, cl, n1, (by show 0 < 1000; decide), ?_⟩
    have b2 : But p H (L2.upd H1 p (.ins (He.ga K "Language") dx [("monoid", V.ref mo)])) := (But.of s1).trans But.upd
    have nem : mo ≠ p := fun z => by
      have h1 := s1 _ _ hm
      rw [z, hp1] at h1
      simp at h1
    have M2 : Mo K (L2.upd H1 p (.ins (He.ga K "Language") dx [("monoid", V.ref mo)])) mo rows m := M1.put hp1 nem But.upd
    have sm2 : L2.upd H1 p (.ins (He.ga K "Language") dx [("monoid", V.ref mo)]) pm = some (.lst (mk.map nv)) := by rw [upd_ne npm]; exact sm1
    have hp2 : L2.upd H1 p (.ins (He.ga K "Language") dx [("monoid", V.ref mo)]) p = some (.ins (He.ga K "Language") dx [("monoid", V.ref mo)]) := upd_same
    dsimp only
    show sFld _ _ _ _ _ _ (L2.upd H1 p (.ins (He.ga K "Language") dx [("monoid", V.ref mo)]))
    generalize L2.upd H1 p (.ins (He.ga K "Language") dx [("monoid", V.ref mo)]) = H2 at b2 M2 sm2 hp2 ⊢
    refine fld_k (sort_e (K := K) (w := w) (i := 2) (n := rows.length) rfl (SqL.of sm2) (by omega) mkl fun u H3 s3 nu su => ?_)
    have hp3 := s3 _ _ hp2
    refine ⟨_, rfl, p, _, dx, _, rfl, hp3, cl, n2, (by show 1 < 1000; decide), ?_⟩
    have M3 := M2.same s3
    refine k _ ((b2.trans (But.of s3)).trans But.upd) ⟨dx, mo, u, m, upd_same, M3.put hp3 nem But.upd, SqT.but hp3 But.upd su⟩
end
end K69

set_option Elab.async false
set_option linter.all false
set_option maxRecDepth 100000
set_option maxHeartbeats 8000000
namespace K69
open PySem PySem.Spec PyProof.Rows L2 Lf
/-- an Automaton or a Language: its table, where it starts, what is marked -/
def Thg (K : PySem.W.Frag) (H : Hp) (x : Addr) (rows : List (List Nat)) (start : Nat) (acc : List Nat) : Prop := Au K H x rows start acc ∨ (start = 0 ∧ La K H x rows acc)
theorem Thg.same {K : PySem.W.Frag} {H H' : Hp} {x : Addr} {rows : List (List Nat)} {start : Nat} {acc : List Nat} (h : Thg K H x rows start acc) (e : Same H H') : Thg K H' x rows start acc := h.imp (fun z => z.same e) fun z => ⟨z.1, z.2.same e⟩
/-- who is marked -/
def mks (n : Nat) (l : List Nat) : List V := (List.range n).map fun i => V.bl (decide (i ∈ l))
theorem mks_len {n : Nat} {l : List Nat} : (mks n l).length = n := by unfold mks; rw [List.length_map, List.length_range]
theorem mks_set {n k : Nat} {l : List Nat} (h : k < n) : (mks n l).set k (.bl true) = mks n (l ++ [k]) := by
  refine List.ext_getElem? fun i => ?_
  unfold mks
  rw [List.getElem?_set]
  by_cases e : k = i
  · subst e
    rw [if_pos rfl, List.length_map, List.length_range, if_pos h, List.getElem?_map, List.getElem?_range h]
    simp
  · rw [if_neg e, List.getElem?_map, List.getElem?_map]
    by_cases hi : i < n
    · rw [List.getElem?_range hi]
      simp [Ne.symm e]
    · rw [List.getElem?_eq_none (by rw [List.length_range]; omega)]
      rfl
theorem mks_congr {n : Nat} {l m : List Nat} (h : ∀ i, i < n → (i ∈ l ↔ i ∈ m)) : mks n l = mks n m := List.map_congr_left fun i hi => by
  rw [decide_eq_decide.mpr (h i (List.mem_range.mp hi))]
theorem mks_nil {n : Nat} : (List.replicate n [V.bl false]).flatten = mks n [] := by
  rw [rep2]
  refine List.ext_getElem? fun i => ?_
  unfold mks
  rw [List.getElem?_map]
  by_cases hi : i < n
  · rw [List.getElem?_range hi, List.getElem?_replicate, if_pos hi]
    rfl
  · rw [List.getElem?_eq_none (by rw [List.length_replicate]; omega), List.getElem?_eq_none (by rw [List.length_range]; omega)]
    rfl
def spCkT (K : PySem.W.Frag) : Sp := fun vs H Q _ => ∃ a rows st acc, vs = [.ref a] ∧ Thg K H a rows st acc ∧ Q .non H
def spSt (K : PySem.W.Frag) : Sp := fun vs H Q _ => ∃ a rows st acc, vs = [.ref a] ∧ Thg K H a rows st acc ∧ 1 ≤ rows.length ∧ rows.length ≤ 500 ∧ (∀ i ∈ acc, i < rows.length) ∧
  ∀ T t pm H', Same H H' → H' T = some (.tup [.ref t, nv st, .ref pm]) → RowsT K H' t rows → H' pm = some (.lst (mks rows.length acc)) → Q (.ref T) H'
section
variable {P : Program} {w : World} {K : PySem.W.Frag} {mg : Str → Option Value} {base : Heap}
theorem scCkT : FnScope ["thing"] ["thing"] (defScope s_check_thing) := ⟨rfl, rfl, rfl, by decide +kernel, rfl, by decide +kernel, by decide +kernel⟩
theorem ok_ckT {f : Addr} {fd : FuncData} {q : Str} (F : FunD K "check_thing" q (defArgs s_check_thing) (defBody s_check_thing) (defScope s_check_thing) [] [] f fd) (T : Txt P w K mg base) :
    FnOk P w K mg base CX0 1 f fd ["thing"] (spCkT K) := by
  have zI : mg "isinstance" = none := T.fr 58 "isinstance" rfl
  have g0 := T.gl 10 "Automaton" rfl
  have g1 := T.gl 11 "Language" rfl
  have c0 : L2.Cls K (He.ga K "Automaton") := He.cls_ok (T.d.fact 92 (f := .cls "Automaton") rfl)
  have c1 : L2.Cls K (He.ga K "Language") := He.cls_ok (T.d.fact 98 (f := .cls "Language") rfl)
  refine F.ok scCkT (fun vs H Q E h => ?_) (fun cdv A outer s H vs Q E hr h => ?_)
  · obtain ⟨a, rows, st, acc, rfl, _⟩ := h
    rfl
  · obtain ⟨a, rows, st, acc, rfl, TH, k⟩ := h
    refine ⟨_, PSs.nox (pss_one (ps_if (PW.pt (pw_and (pt_not (pt_val (pe_callB call_isi rfl zI PyProof.Rows.boot_isinstance (pa_cons (pv 0) (pa_cons (pe_cl rfl g0) pa_nil)))))
      (pw_and1 (pt_not (pt_val (pe_callB call_isi rfl zI PyProof.Rows.boot_isinstance (pa_cons (pv 0) (pa_cons (pe_cl rfl g1) pa_nil)))))))) (pss_one ps_never) pss_nil)), ?_⟩
    rcases TH with ⟨dx, t, u, ha, _, _⟩ | ⟨_, dx, p, u, m, ha, _, _⟩
    · have ty := (T.own (x := "Automaton") (by decide)).ty c0 ha
      have is := (T.own (x := "Automaton") (by decide)).is "Automaton" (by decide)
      refine ⟨_, rfl, _, .ref _, _, _, _, rfl, .own _, ty, is, _, rfl, ?_⟩
      exact ifF (by decide +kernel) k
    · have ty := (T.own (x := "Language") (by decide)).ty c1 ha
      have is := (T.own (x := "Language") (by decide)).is "Automaton" (by decide)
      have is1 := (T.own (x := "Language") (by decide)).is "Language" (by decide)
      refine ⟨_, rfl, _, .ref _, _, _, _, rfl, .own _, ty, is, _, rfl, ?_⟩
      refine ifT (by decide +kernel) ?_
      refine ⟨_, rfl, _, .ref _, _, _, _, rfl, .own _, ty, is1, _, rfl, ?_⟩
      exact ifF (by decide +kernel) k
theorem scSt : FnScope ["thing", "rows", "start", "marks", "state"] ["thing"] (defScope s_states_of) := ⟨rfl, rfl, rfl, by decide +kernel, rfl, by decide +kernel, by decide +kernel⟩
theorem ok_st {f : Addr} {fd : FuncData} {q : Str} (F : FunD K "_states_of" q (defArgs s_states_of) (defBody s_states_of) (defScope s_states_of) [] [] f fd) (T : Txt P w K mg base)
    (DC : Def P w K mg base CX0 1 "check_thing" ["thing"] (spCkT K)) :
    FnOk P w K mg base CX0 2 f fd ["thing"] (spSt K) := by
  have zI : mg "isinstance" = none := T.fr 58 "isinstance" rfl
  have zn : mg "len" = none := T.fr 59 "len" rfl
  have g0 := T.gl 10 "Automaton" rfl
  have c0 : L2.Cls K (He.ga K "Automaton") := He.cls_ok (T.d.fact 92 (f := .cls "Automaton") rfl)
  have c1 : L2.Cls K (He.ga K "Language") := He.cls_ok (T.d.fact 98 (f := .cls "Language") rfl)
  have cm : L2.Cls K (He.ga K "Monoid") := He.cls_ok (T.d.fact 67 (f := .cls "Monoid") rfl)
  have r0 : NoAttr K (He.ga K "Monoid") "right" := He.noat_ok (T.d.fact 75 (f := .noat "Monoid" "right") rfl)
  have a1 : NoAttr K (He.ga K "Automaton") "rows" := He.noat_ok (T.d.fact 95 (f := .noat "Automaton" "rows") rfl)
  have a2 : NoAttr K (He.ga K "Automaton") "start" := He.noat_ok (T.d.fact 96 (f := .noat "Automaton" "start") rfl)
  have a3 : NoAttr K (He.ga K "Automaton") "accepted" := He.noat_ok (T.d.fact 97 (f := .noat "Automaton" "accepted") rfl)
  have l1 : NoAttr K (He.ga K "Language") "monoid" := He.noat_ok (T.d.fact 101 (f := .noat "Language" "monoid") rfl)
  have l2 : NoAttr K (He.ga K "Language") "accepted" := He.noat_ok (T.d.fact 102 (f := .noat "Language" "accepted") rfl)
  refine F.ok scSt (fun vs H Q E h => ?_) (fun cdv A outer s H vs Q E hr h => ?_)
  · obtain ⟨a, rows, st, acc, rfl, _⟩ := h
    rfl
  · obtain ⟨a, rows, st, acc, rfl, TH, n1, n5, al, k⟩ := h
    refine ⟨_, PSs.nox (pss_cons (ps_expr (pe_def DC hr pass0 rfl (pa_cons (pv 0) pa_nil)))
      (pss_cons (ps_if (pt_val (pe_callB call_isi rfl zI PyProof.Rows.boot_isinstance (pa_cons (pv 0) (pa_cons (pe_cl rfl g0) pa_nil))))
        (pss_one (ps_par (i := 1) (j := 2) rfl scSt.nd rfl rfl (by decide) rfl rfl (pa_cons (pe_fld (pv 0) rfl) (pa_cons (pe_fld (pv 0) rfl) pa_nil)) (by rfl)))
        (pss_one (ps_par (i := 1) (j := 2) rfl scSt.nd rfl rfl (by decide) rfl rfl (pa_cons (pe_fld (pe_fld (pv 0) rfl) rfl) (pa_cons pe_int pa_nil)) (by rfl))))
      (pss_cons (ps_set (i := 3) scSt.nd rfl (.inl rfl) (pe_op op_rep (pe_lst (pa_cons pe_bl pa_nil)) (pe_callB call_len_seq rfl zn boot_len (pa_cons (pv 1) pa_nil))))
      (pss_cons (ps_for PassesOwn.never rfl (pi_tup (pe_fld (pv 0) rfl)) (pg_name (i := 4) scSt.nd rfl (.inl rfl))
        (pss_one (ps_asg pe_bl (pg_sub (pv 3) (pv 4) set_list))))
      (pss_one (ps_ret (pe_tup (pa_cons (pv 1) (pa_cons (pv 2) (pa_cons (pv 3) pa_nil)))))))))), ?_⟩
    refine ⟨_, rfl, a, rows, st, acc, rfl, TH, ?_⟩
    obtain ⟨u, C, dx, fs, ha, cC, nC, lk, su⟩ : ∃ (u C dx : Addr) (fs : List (Str × V)), H a = some (.ins C dx fs) ∧ L2.Cls K C ∧ NoAttr K C "accepted" ∧ fs.lookup ("accepted" : Str) = some (.ref u) ∧ SqT K H u ((srt rows.length acc).map nv) := by
      rcases TH with ⟨dx, t, u, ha, _, su⟩ | ⟨_, dx, p, u, m, ha, _, su⟩
      · exact ⟨u, _, dx, _, ha, c0, a3, rfl, su⟩
      · exact ⟨u, _, dx, _, ha, c1, l2, rfl, su⟩
    dsimp only
    refine seq_join (fun σ' H' => ∃ t : Addr, σ' = [some (.ref a), some (.ref t), some (nv st), none, none] ∧ H' = H ∧ RowsT K H t rows) ?_ ?_
    · rintro σ' H' ⟨t, rfl, rfl, Rt⟩
      obtain ⟨as, sr, la, srow⟩ := id Rt
      refine ⟨(by show 1 ≤ sizeLine; decide), fun p0 np0 => ⟨_, rfl, t, as.map V.ref, rfl, .inr (Lf.SqT.same (same_upd np0) sr), p0, _, _, rfl, rfl, upd_same, by omega, by rw [List.length_map, la]; omega, by rw [List.length_map, la, Int.toNat_natCast]; show 1 * rows.length ≤ 16777216; omega, fun pm npm => ?_⟩⟩
      rw [List.length_map, la, Int.toNat_natCast, mks_nil]
      have s2 := (same_upd (o := .lst [V.bl false]) np0).trans (same_upd (o := .lst (mks rows.length [])) npm)
      have hm2 : L2.upd (L2.upd H' p0 (.lst [V.bl false])) pm (.lst (mks rows.length [])) pm = some (.lst (mks rows.length [])) := upd_same
      have npm0 : H' pm = none := nil_of (same_upd np0) npm
      generalize L2.upd (L2.upd H' p0 (.lst [V.bl false])) pm (.lst (mks rows.length [])) = H2 at s2 hm2 ⊢
      refine ⟨_, rfl, a, C, dx, fs, _, rfl, s2 _ _ ha, cC, nC, lk, u, rfl, ⟨_, Lf.SqT.same s2 su⟩, ?_⟩
      refine for_tup (K := K) (a := u) (xs := (srt rows.length acc).map nv) (fun i σ H3 => ∃ v4 : Option V, σ = [some (.ref a), some (.ref t), some (nv st), some (.ref pm), v4] ∧ Same H' H3 ∧ H3 pm = some (.lst (mks rows.length ((srt rows.length acc).take i)))) ⟨none, rfl, s2, hm2⟩ (fun i σ H3 _ ⟨_, _, s, _⟩ => Lf.SqT.same s su) ?_ ?_
      · rintro i y σ H3 hy ⟨v4, rfl, s3, hm3⟩
        obtain ⟨x, hx, rfl⟩ := map_get hy
        have xl : x < rows.length := al x ((srt_mem al).mp (List.mem_of_getElem? hx))
        refine ⟨_, rfl, _, rfl, pm, _, (x : Nat), x, rfl, rfl, hm3, ?_, some (nv x), rfl, fun b o e => ?_, ?_⟩
        · unfold ixN
          rw [mks_len, if_pos (by omega), if_pos (by omega)]
          rfl
        · rw [upd_ne (ne_of_none e npm0)]
          exact s3 b o e
        · rw [upd_same, mks_set xl, take_snoc hx]
      · rintro σ H3 ⟨v4, rfl, s3, hm3⟩
        rw [List.length_map, List.take_length, mks_congr (m := acc) fun i _ => srt_mem al] at hm3
        refine ⟨_, rfl, _, rfl, _, rfl, (by show 3 ≤ sizeLine; decide), fun T nT => ?_⟩
        have sT := same_upd (o := .tup [.ref t, nv st, .ref pm]) nT
        exact k T t pm _ (s3.trans sT) upd_same ((Rt.same s3).same sT) (sT _ _ hm3)
    · intro nx hnx
      rcases TH with ⟨dx, t, u, ha, Rt, _⟩ | ⟨rfl, dx, p, u, m, ha, M, _⟩
      · have ty := (T.own (x := "Automaton") (by decide)).ty c0 ha
        have is := (T.own (x := "Automaton") (by decide)).is "Automaton" (by decide)
        refine ⟨_, rfl, _, .ref _, _, _, _, rfl, .own _, ty, is, _, rfl, ?_⟩
        refine ifT (by decide +kernel) ?_
        exact ⟨_, rfl, a, _, dx, _, _, rfl, ha, c0, a1, rfl, _, rfl, a, _, dx, _, _, rfl, ha, c0, a2, rfl, _, _, rfl, hnx _ _ ⟨t, rfl, rfl, Rt⟩⟩
      · have ty := (T.own (x := "Language") (by decide)).ty c1 ha
        have is := (T.own (x := "Language") (by decide)).is "Automaton" (by decide)
        obtain ⟨dy, t, u', v', hm, Rt, _, _⟩ := M
        refine ⟨_, rfl, _, .ref _, _, _, _, rfl, .own _, ty, is, _, rfl, ?_⟩
        refine ifF (by decide +kernel) ?_
        exact ⟨_, rfl, a, _, dx, _, _, rfl, ha, c1, l1, rfl, p, _, dy, _, _, rfl, hm, cm, r0, rfl, _, _, rfl, hnx _ _ ⟨t, rfl, rfl, Rt⟩⟩
end
end K69

set_option Elab.async false
set_option linter.all false
set_option maxRecDepth 100000
set_option maxHeartbeats 4000000
/-! Numbers in classes, each told by its least one: what the list of tops says. Pure. -/
namespace Uf
structure Uf (tops : List Nat) (cls : Nat → Nat) : Prop where
  le : ∀ (i t : Nat), tops[i]? = some t → t ≤ i
  cl : ∀ (i t : Nat), tops[i]? = some t → cls t = cls i
  rt : ∀ (i : Nat), tops[i]? = some i → cls i = i
  ro : ∀ (i : Nat), i < tops.length → tops[cls i]? = some (cls i)
theorem start {n : Nat} : Uf (List.range n) id where
  le := fun i t h => by
    have := (List.getElem?_eq_some_iff.mp h).1
    rw [List.length_range] at this
    rw [List.getElem?_range this] at h
    cases h
    exact Nat.le_refl _
  cl := fun i t h => by
    have := (List.getElem?_eq_some_iff.mp h).1
    rw [List.length_range] at this
    rw [List.getElem?_range this] at h
    cases h
    rfl
  rt := fun i _ => rfl
  ro := fun i h => by
    rw [List.length_range] at h
    exact List.getElem?_range h
theorem set_cases {l : List Nat} {i j v t : Nat} (h : (l.set i v)[j]? = some t) : (j = i ∧ t = v ∧ i < l.length) ∨ (j ≠ i ∧ l[j]? = some t) := by
  rw [List.getElem?_set] at h
  split at h
  · rename_i e
    subst e
    split at h
    · rename_i hl
      cases h
      exact .inl ⟨rfl, rfl, hl⟩
    · cases h
  · rename_i e
    exact .inr ⟨fun z => e z.symm, h⟩
theorem sum_set : ∀ {l : List Nat} {i v t : Nat}, l[i]? = some t → (l.set i v).sum + t = l.sum + v
  | [], _, _, _, h => by simp at h
  | a :: l, 0, v, t, h => by
    cases h
    show (v :: l).sum + a = (a :: l).sum + v
    rw [List.sum_cons, List.sum_cons]
    omega
  | a :: l, i + 1, v, t, h => by
    have := sum_set (v := v) (show l[i]? = some t from h)
    show (a :: l.set i v).sum + t = (a :: l).sum + v
    rw [List.sum_cons, List.sum_cons]
    omega
section
variable {tops : List Nat} {cls : Nat → Nat}
/-- a path made shorter -/
theorem Uf.short (U : Uf tops cls) {i t t2 : Nat} (h : tops[i]? = some t) (h2 : tops[t]? = some t2) (ne : t ≠ i) : Uf (tops.set i t2) cls ∧ (tops.set i t2).sum ≤ tops.sum ∧ t2 < i ∧ cls t2 = cls i := by
  have l1 := U.le _ _ h
  have l2 := U.le _ _ h2
  have c : cls t2 = cls i := (U.cl _ _ h2).trans (U.cl _ _ h)
  refine ⟨⟨fun j u hj => ?_, fun j u hj => ?_, fun j hj => ?_, fun j hj => ?_⟩, ?_, by omega, c⟩
  · rcases set_cases hj with ⟨rfl, rfl, _⟩ | ⟨_, hj⟩
    · omega
    · exact U.le _ _ hj
  · rcases set_cases hj with ⟨rfl, rfl, _⟩ | ⟨_, hj⟩
    · exact c
    · exact U.cl _ _ hj
  · rcases set_cases hj with ⟨rfl, rfl, _⟩ | ⟨_, hj⟩
    · omega
    · exact U.rt _ hj
  · rw [List.length_set] at hj
    have r := U.ro j hj
    rw [List.getElem?_set_ne, r]
    intro z
    rw [← z, h] at r
    exact ne (Option.some.inj r)
  · have := sum_set (v := t2) h
    omega
/-- two classes put together -/
def both (cls : Nat → Nat) (a b : Nat) : Nat → Nat := fun x => if cls x = max a b then min a b else cls x
theorem Uf.unite (U : Uf tops cls) {a b : Nat} (ha : tops[a]? = some a) (hb : tops[b]? = some b) (ne : a ≠ b) : Uf (tops.set (max a b) (min a b)) (both cls a b) ∧ (tops.set (max a b) (min a b)).sum + 1 ≤ tops.sum := by
  have ca := U.rt _ ha
  have cb := U.rt _ hb
  have hm : tops[max a b]? = some (max a b) := by
    rcases Nat.le_total a b with z | z
    · rw [Nat.max_eq_right z]; exact hb
    · rw [Nat.max_eq_left z]; exact ha
  have cm := U.rt _ hm
  have cn : cls (min a b) = min a b := by
    rcases Nat.le_total a b with z | z
    · rw [Nat.min_eq_left z]; exact ca
    · rw [Nat.min_eq_right z]; exact cb
  refine ⟨⟨fun j u hj => ?_, fun j u hj => ?_, fun j hj => ?_, fun j hj => ?_⟩, ?_⟩
  · rcases set_cases hj with ⟨rfl, rfl, _⟩ | ⟨_, hj⟩
    · omega
    · exact U.le _ _ hj
  · rcases set_cases hj with ⟨rfl, rfl, _⟩ | ⟨_, hj⟩
    · unfold both
      rw [cm, if_pos rfl, cn, if_neg (by omega)]
    · unfold both
      rw [U.cl _ _ hj]
  · rcases set_cases hj with ⟨rfl, e, _⟩ | ⟨nj, hj⟩
    · omega
    · unfold both
      rw [U.rt _ hj, if_neg nj]
  · rw [List.length_set] at hj
    unfold both
    by_cases z : cls j = max a b
    · rw [if_pos z, List.getElem?_set_ne (by omega)]
      rcases Nat.le_total a b with y | y
      · rw [Nat.min_eq_left y]; exact ha
      · rw [Nat.min_eq_right y]; exact hb
    · rw [if_neg z, List.getElem?_set_ne (fun y => z y.symm)]
      exact U.ro j hj
  · have := sum_set (v := min a b) hm
    omega
theorem both_of {cls : Nat → Nat} {a b x y : Nat} (h : both cls a b x = both cls a b y) : cls x = cls y ∨ (cls x = a ∧ cls y = b) ∨ (cls x = b ∧ cls y = a) := by
  unfold both at h
  split at h <;> split at h <;> omega
theorem range_sum {n : Nat} : (List.range n).sum ≤ n * n := by
  induction n with
  | zero => simp
  | succ n ih =>
    rw [List.range_succ, List.sum_append, List.sum_singleton, Nat.succ_mul, Nat.mul_succ]
    omega
end
end Uf

set_option Elab.async false
set_option linter.all false
set_option maxRecDepth 100000
set_option maxHeartbeats 8000000
namespace K69
open PySem PySem.Spec PyProof.Rows L2 Lf
structure DefC (P : Program) (w : World) (K : PySem.W.Frag) (mg : Str → Option Value) (base : Heap) (CX : CXT) (k : Nat) (C m : Str) (ps : List Str) (sp : Sp) : Prop where
  ex : ∃ f fd, Meth K (He.ga K C) m f ∧ FnOk P w K mg base CX k f fd ps sp ∧ Binds K fd ps []
/-- a Unions: its tops lie in the list l -/
def Un (K : PySem.W.Frag) (H : Hp) (x l : Addr) (tops : List Nat) : Prop := ∃ (dx : Addr) (cc : Int), H x = some (.ins (He.ga K "Unions") dx [("class_count", .int cc), ("_tops", .ref l)]) ∧ H l = some (.lst (tops.map nv))
theorem Un.same {K : PySem.W.Frag} {H H' : Hp} {x l : Addr} {tops : List Nat} (h : Un K H x l tops) (e : Same H H') : Un K H' x l tops := by
  obtain ⟨dx, cc, a, b⟩ := h
  exact ⟨dx, cc, e _ _ a, e _ _ b⟩
theorem Un.ne {K : PySem.W.Frag} {H : Hp} {x l : Addr} {tops : List Nat} (h : Un K H x l tops) : x ≠ l := fun z => by
  obtain ⟨dx, cc, a, b⟩ := h
  rw [z, b] at a
  cases a
theorem But2.refl {a b : Addr} {H : Hp} : But2 a b H H := fun _ _ _ _ h => h
theorem But2.of {a b : Addr} {H H' : Hp} (e : Same H H') : But2 a b H H' := fun c o _ _ h => e c o h
theorem set_mapnv {l : List Nat} {i v : Nat} : (l.map nv).set i (nv v) = (l.set i v).map nv := by rw [List.map_set]
theorem ixN_nat {n i : Nat} (h : i < n) : ixN n (i : Int) = some i := by
  unfold ixN
  rw [if_pos (by omega), if_pos (by omega)]
  rfl
theorem nvNe {t j : Nat} : (!decide (nv t = nv j)) = true ↔ t ≠ j := by
  rw [Bool.not_eq_true', decide_eq_false_iff_not]
  exact ⟨fun h e => h (by rw [e]), fun h e => h (by have := V.int.inj e; omega)⟩
def spUi (K : PySem.W.Frag) : Sp := fun vs H Q _ => ∃ (p dx : Addr) (n : Nat), vs = [.ref p, nv n] ∧ H p = some (.ins (He.ga K "Unions") dx []) ∧ n ≤ 2000 ∧
  ∀ l H', But p H H' → H l = none → Un K H' p l (List.range n) → Q .non H'
def spTop (K : PySem.W.Frag) : Sp := fun vs H Q _ => ∃ (x l : Addr) (tops : List Nat) (cls : Nat → Nat) (i : Nat), vs = [.ref x, nv i] ∧ Un K H x l tops ∧ Uf.Uf tops cls ∧ i < tops.length ∧
  ∀ H' tops', But l H H' → Un K H' x l tops' → Uf.Uf tops' cls → tops'.length = tops.length → tops'.sum ≤ tops.sum → tops'[cls i]? = some (cls i) → Q (nv (cls i)) H'
def spUnite (K : PySem.W.Frag) : Sp := fun vs H Q _ => ∃ (x l : Addr) (tops : List Nat) (cls : Nat → Nat) (a b : Nat), vs = [.ref x, nv a, nv b] ∧ Un K H x l tops ∧ Uf.Uf tops cls ∧ a < tops.length ∧ b < tops.length ∧
  ∀ H' tops', But2 x l H H' → Un K H' x l tops' → tops'.length = tops.length → (cls a = cls b → tops'.sum ≤ tops.sum ∧ Uf.Uf tops' cls) → (cls a ≠ cls b → tops'.sum + 1 ≤ tops.sum ∧ Uf.Uf tops' (Uf.both cls (cls a) (cls b))) → Q (.bl (decide (cls a ≠ cls b))) H'
section
variable {P : Program} {w : World} {K : PySem.W.Frag} {mg : Str → Option Value} {base : Heap}
theorem scUi : FnScope ["self", "size"] ["self", "size"] (defScope s_Unions_init) := ⟨rfl, rfl, rfl, by decide +kernel, rfl, by decide +kernel, by decide +kernel⟩
theorem ok_ui {f : Addr} {fd : FuncData} {q : Str} (F : FunD K "__init__" q (defArgs s_Unions_init) (defBody s_Unions_init) (defScope s_Unions_init) [] [] f fd) (T : Txt P w K mg base) :
    FnOk P w K mg base CX0 1 f fd ["self", "size"] (spUi K) := by
  have zl : mg "list" = none := T.fr 60 "list" rfl
  have zr : mg "range" = none := T.fr 63 "range" rfl
  have cu : L2.Cls K (He.ga K "Unions") := He.cls_ok (T.d.fact 86 (f := .cls "Unions") rfl)
  have n1 : NoAttr K (He.ga K "Unions") "class_count" := He.noat_ok (T.d.fact 90 (f := .noat "Unions" "class_count") rfl)
  have n2 : NoAttr K (He.ga K "Unions") "_tops" := He.noat_ok (T.d.fact 91 (f := .noat "Unions" "_tops") rfl)
  refine F.ok scUi (fun vs H Q E h => ?_) (fun cdv A outer s H vs Q E hr h => ?_)
  · obtain ⟨p, dx, n, rfl, _⟩ := h
    rfl
  · obtain ⟨p, dx, n, rfl, hp, n2k, k⟩ := h
    refine ⟨_, PSs.nox (pss_cons (ps_fld (pv 0) (pv 1) rfl)
      (pss_one (ps_fld (pv 0) (pe_listRg rfl rfl zl (prg_1 rfl zr (pv 1))) rfl))), ?_⟩
    dsimp only
    refine ⟨_, rfl, _, rfl, p, _, dx, [], rfl, hp, cu, n1, (by show 0 < 1000; decide), ?_⟩
    dsimp only
    refine ⟨_, rfl, (n : Nat), rfl, ⟨by decide, by decide, by omega, by omega, by omega⟩, fun l nl => ?_⟩
    have npl : p ≠ l := fun z => by rw [← z, upd_same] at nl; cases nl
    have nl0 : H l = none := by rw [upd_ne npl.symm] at nl; exact nl
    refine ⟨_, rfl, p, _, dx, _, rfl, by rw [upd_ne npl]; exact upd_same, cu, n2, (by show 1 < 1000; decide), ?_⟩
    refine k l _ (fun b o h1 h2 => ?_) nl0 ⟨dx, _, upd_same, ?_⟩
    · rw [upd_ne h1, upd_ne (ne_of_none h2 nl0), upd_ne h1]
      exact h2
    · rw [upd_ne npl.symm, upd_same, rgV_nv]
      rfl
theorem scTop : FnScope ["self", "number", "tops"] ["self", "number"] (defScope s_Unions_top) := ⟨rfl, rfl, rfl, by decide +kernel, rfl, by decide +kernel, by decide +kernel⟩
theorem ok_top {f : Addr} {fd : FuncData} {q : Str} (F : FunD K "top" q (defArgs s_Unions_top) (defBody s_Unions_top) (defScope s_Unions_top) [] [] f fd) (T : Txt P w K mg base) :
    FnOk P w K mg base CX0 1 f fd ["self", "number"] (spTop K) := by
  have cu : L2.Cls K (He.ga K "Unions") := He.cls_ok (T.d.fact 86 (f := .cls "Unions") rfl)
  have n2 : NoAttr K (He.ga K "Unions") "_tops" := He.noat_ok (T.d.fact 91 (f := .noat "Unions" "_tops") rfl)
  refine F.ok scTop (fun vs H Q E h => ?_) (fun cdv A outer s H vs Q E hr h => ?_)
  · obtain ⟨x, l, tops, cls, i, rfl, _⟩ := h
    rfl
  · obtain ⟨x, l, tops, cls, i, rfl, U, uf, il, k⟩ := h
    refine ⟨_, PSs.nox (pss_cons (ps_set (i := 2) scTop.nd rfl (.inl rfl) (pe_fld (pv 0) rfl))
      (pss_cons (ps_while PassesOwn.never (pt_cmpR op_ne (pe_ix ix_list (pv 2) (pv 1) (fun _ _ => rfl)) (pv 1) (nomark _))
        (pss_cons (ps_asg (pe_ix ix_list (pv 2) (pe_ix ix_list (pv 2) (pv 1) (fun _ _ => rfl)) (fun _ _ => rfl)) (pg_sub (pv 2) (pv 1) set_list))
        (pss_one (ps_set (i := 1) scTop.nd rfl (.inl rfl) (pe_ix ix_list (pv 2) (pv 1) (fun _ _ => rfl))))))
      (pss_one (ps_ret (pv 1))))), ?_⟩
    obtain ⟨dx, cc, hx, hl⟩ := id U
    refine ⟨_, rfl, x, _, dx, _, _, rfl, hx, cu, n2, rfl, ?_⟩
    refine ⟨fun j σ Hn => ∃ tn : List Nat, σ = [some (.ref x), some (nv j), some (.ref l)] ∧ But l H Hn ∧ Hn l = some (.lst (tn.map nv)) ∧ Uf.Uf tn cls ∧ tn.length = tops.length ∧ tn.sum ≤ tops.sum ∧ j < tops.length ∧ cls j = cls i,
      ⟨i, tops, rfl, But.refl, hl, uf, rfl, Nat.le_refl _, il, rfl⟩, ?_⟩
    rintro j σ Hn ⟨tn, rfl, bn, hn, un, ln, sn, jl, cj⟩
    obtain ⟨t, ht⟩ := lt_get (show j < tn.length by omega)
    refine ⟨_, rfl, _, rfl, l, _, _, nv t, rfl, rfl, SqL.of hn, atI_nat (get_map ht), _, rfl, rfl, _, rfl, ?_⟩
    refine ite2 (fun e0 => ?_) (fun e0 => ?_)
    rotate_left
    · have e : t = j := Decidable.byContradiction fun z => e0 (nvNe.mpr z)
      subst e
      have ct := un.rt _ ht
      rw [cj] at ct
      refine ⟨_, rfl, ?_⟩
      rw [← ct]
      have nxl : x ≠ l := U.ne
      exact k Hn tn bn ⟨dx, cc, bn _ _ nxl hx, hn⟩ un ln sn (by rw [ct]; exact ht)
    · have e : t ≠ j := nvNe.mp e0
      have tl := un.le _ _ ht
      obtain ⟨t2, ht2⟩ := lt_get (show t < tn.length by omega)
      obtain ⟨u2, s2, l2, c2⟩ := un.short ht ht2 e
      refine ⟨fun σ' H' => ∃ j', j' < j ∧ ∃ tn : List Nat, σ' = [some (.ref x), some (nv j'), some (.ref l)] ∧ But l H H' ∧ H' l = some (.lst (tn.map nv)) ∧ Uf.Uf tn cls ∧ tn.length = tops.length ∧ tn.sum ≤ tops.sum ∧ j' < tops.length ∧ cls j' = cls i, fun σ' H' z => z, ?_⟩
      refine ⟨_, rfl, _, rfl, _, rfl, l, _, _, nv t, rfl, rfl, SqL.of hn, atI_nat (get_map ht), l, _, _, nv t2, rfl, rfl, SqL.of hn, atI_nat (get_map ht2), _, rfl, _, rfl, l, _, _, j, rfl, rfl, hn, by rw [List.length_map]; exact ixN_nat (by omega), ?_⟩
      rw [set_mapnv]
      dsimp only
      refine ⟨_, rfl, _, rfl, l, _, _, nv t2, rfl, rfl, SqL.of upd_same, atI_nat (get_map (by rw [List.getElem?_set_self (by omega)])), ?_⟩
      exact ⟨t2, by omega, _, rfl, bn.trans But.upd, upd_same, u2, by rw [List.length_set]; exact ln, by omega, by omega, by rw [c2]; exact cj⟩
theorem scUnite : FnScope ["self", "one", "other", "first", "second"] ["self", "one", "other"] (defScope s_Unions_unite) := ⟨rfl, rfl, rfl, by decide +kernel, rfl, by decide +kernel, by decide +kernel⟩
theorem ok_unite {f : Addr} {fd : FuncData} {q : Str} (F : FunD K "unite" q (defArgs s_Unions_unite) (defBody s_Unions_unite) (defScope s_Unions_unite) [] [] f fd) (T : Txt P w K mg base)
    (DT : DefC P w K mg base CX0 1 "Unions" "top" ["self", "number"] (spTop K)) :
    FnOk P w K mg base CX0 2 f fd ["self", "one", "other"] (spUnite K) := by
  have zx : mg "max" = none := T.fr 61 "max" rfl
  have zm : mg "min" = none := T.fr 62 "min" rfl
  have cu : L2.Cls K (He.ga K "Unions") := He.cls_ok (T.d.fact 86 (f := .cls "Unions") rfl)
  have n1 : NoAttr K (He.ga K "Unions") "class_count" := He.noat_ok (T.d.fact 90 (f := .noat "Unions" "class_count") rfl)
  have n2 : NoAttr K (He.ga K "Unions") "_tops" := He.noat_ok (T.d.fact 91 (f := .noat "Unions" "_tops") rfl)
  obtain ⟨ft, fdt, mt, Ft, bt⟩ := DT.ex
  refine F.ok scUnite (fun vs H Q E h => ?_) (fun cdv A outer s H vs Q E hr h => ?_)
  · obtain ⟨x, l, tops, cls, a, b, rfl, _⟩ := h
    rfl
  · obtain ⟨x, l, tops, cls, a, b, rfl, U, uf, al, bl, k⟩ := h
    obtain ⟨dx, cc, hx, hl⟩ := id U
    have r1 : Room 1 _ := hr.mono (by decide)
    refine ⟨_, PSs.nox (pss_cons (ps_set (i := 3) scUnite.nd rfl (.inl rfl) (pe_meth (pv 0) cu mt Ft r1 bt .nil pass0 (pa_cons (pv 1) pa_nil)))
      (pss_cons (ps_set (i := 4) scUnite.nd rfl (.inl rfl) (pe_meth (pv 0) cu mt Ft r1 bt .nil pass0 (pa_cons (pv 2) pa_nil)))
      (pss_cons (ps_if (pt_cmpR op_eq (pv 3) (pv 4) (nomark _)) (pss_one (ps_ret pe_bl)) pss_nil)
      (pss_cons (ps_asg (pe_callB (call_min2 rfl) rfl zm (by decide +kernel) (pa_cons (pv 3) (pa_cons (pv 4) pa_nil))) (pg_sub (pe_fld (pv 0) rfl) (pe_callB (call_max2 rfl) rfl zx boot_max (pa_cons (pv 3) (pa_cons (pv 4) pa_nil))) set_list))
      (pss_cons (ps_fldaug (pv 0) pe_int in_sub)
      (pss_one (ps_ret pe_bl))))))), ?_⟩
    have nxl : x ≠ l := U.ne
    refine ⟨_, rfl, x, dx, _, rfl, hx, rfl, _, rfl, ⟨x, l, tops, cls, a, rfl, U, uf, al, fun H1 t1 b1 U1 uf1 ln1 sm1 rt1 => ?_⟩⟩
    dsimp only
    have hx1 := b1 _ _ nxl hx
    refine ⟨_, rfl, x, dx, _, rfl, hx1, rfl, _, rfl, ⟨x, l, t1, cls, b, rfl, U1, uf1, by omega, fun H2 t2 b2 U2 uf2 ln2 sm2 rt2 => ?_⟩⟩
    have hx2 := b2 _ _ nxl hx1
    have b12 : But2 x l H H2 := But2.ofD (b1.trans b2)
    have hl2 : H2 l = some (.lst (t2.map nv)) := U2.choose_spec.choose_spec.2
    refine ⟨_, rfl, _, rfl, rfl, _, rfl, ?_⟩
    refine ite2 (fun e0 => ?_) (fun e0 => ?_)
    · have e : cls a = cls b := Decidable.byContradiction fun z => by
        have := nvNe.mpr z
        rw [Bool.not_eq_true', decide_eq_false_iff_not] at this
        exact this (of_decide_eq_true e0)
      have r := k H2 t2 b12 U2 (by omega) (fun _ => ⟨by omega, uf2⟩) (fun z => (z e).elim)
      rw [decide_eq_false (fun z => z e)] at r
      exact r
    · have e : cls a ≠ cls b := fun z => e0 (decide_eq_true (by rw [z]))
      have ra := uf2.ro a (by omega)
      have rb := uf2.ro b (by omega)
      have la := (List.getElem?_eq_some_iff.mp ra).1
      have lb := (List.getElem?_eq_some_iff.mp rb).1
      obtain ⟨uf3, sm3⟩ := uf2.unite ra rb e
      have mn : (if ((cls b : Nat) : Int) < ((cls a : Nat) : Int) then ((cls b : Nat) : Int) else ((cls a : Nat) : Int)) = ((min (cls a) (cls b) : Nat) : Int) := by split <;> omega
      have mx : (if ((cls b : Nat) : Int) > ((cls a : Nat) : Int) then ((cls b : Nat) : Int) else ((cls a : Nat) : Int)) = ((max (cls a) (cls b) : Nat) : Int) := by split <;> omega
      refine ⟨_, rfl, _, rfl, _, _, rfl, _, rfl, x, _, dx, _, _, rfl, hx2, cu, n2, rfl, _, rfl, _, rfl, _, _, rfl, ?_⟩
      rw [mn, mx]
      refine ⟨l, _, _, max (cls a) (cls b), rfl, rfl, hl2, by rw [List.length_map]; exact ixN_nat (by omega), ?_⟩
      rw [set_mapnv]
      dsimp only
      have hx3 : L2.upd H2 l (.lst ((t2.set (max (cls a) (cls b)) (min (cls a) (cls b))).map nv)) x = some (.ins (He.ga K "Unions") dx [("class_count", .int cc), ("_tops", .ref l)]) := by rw [upd_ne nxl]; exact hx2
      refine ⟨_, rfl, x, _, dx, _, _, rfl, hx3, cu, n1, rfl, _, _, rfl, rfl, dx, _, hx3, (by show 2 < 1000; decide), ?_⟩
      have r := k (L2.upd (L2.upd H2 l (.lst ((t2.set (max (cls a) (cls b)) (min (cls a) (cls b))).map nv))) x (.ins (He.ga K "Unions") dx [("class_count", .int (cc - 1)), ("_tops", .ref l)])) _ (fun c o h1 h2 h3 => by rw [upd_ne h1, upd_ne h2]; exact b12 c o h1 h2 h3) ⟨dx, cc - 1, upd_same, by rw [upd_ne nxl.symm]; exact upd_same⟩ (by rw [List.length_set]; omega) (fun z => (e z).elim) (fun _ => ⟨by omega, uf3⟩)
      rw [decide_eq_true e] at r
      exact r
end
end K69

set_option Elab.async false
set_option linter.all false
set_option maxRecDepth 100000
set_option maxHeartbeats 4000000
/-! Blocks of states, split until letters lead alike: pure. -/
namespace Hop
/-- what waits answers for all that is led apart, but for what one block tells by letters from k on -/
def Stab (n wd : Nat) (d : Nat → Nat → Nat) (f : Nat → Nat) (wait : List Nat) (E : Nat → Prop) (k : Nat) : Prop :=
  ∀ s t c, s < n → t < n → c < wd → f s = f t → f (d s c) ≠ f (d t c) → f (d s c) ∈ wait ∨ f (d t c) ∈ wait ∨ (k ≤ c ∧ (E (d s c) ↔ ¬ E (d t c)))
theorem Stab.split {n wd : Nat} {d : Nat → Nat → Nat} {f f' : Nat → Nat} {wait wait' : List Nat} {E : Nat → Prop} {k old new : Nat} (S : Stab n wd d f wait E k)
    (h1 : ∀ s t, s < n → t < n → f' s = f' t → f s = f t) (h2 : ∀ u, f u ≠ old → f' u = f u) (h3 : ∀ u, f u = old → f' u = old ∨ f' u = new)
    (w1 : ∀ b ∈ wait, b ∈ wait') (w2 : old ∈ wait → new ∈ wait') (w3 : new ∈ wait' ∨ old ∈ wait') : Stab n wd d f' wait' E k := by
  intro s t c hs ht hc e ne
  have up : ∀ u, f u ∈ wait → f' u ∈ wait' := fun u hu => by
    by_cases z : f u = old
    · rw [z] at hu
      rcases h3 u z with y | y
      · rw [y]; exact w1 _ hu
      · rw [y]; exact w2 hu
    · rw [h2 u z]; exact w1 _ hu
  by_cases z : f (d s c) = f (d t c)
  · have a : f (d s c) = old := Decidable.byContradiction fun y => ne (by rw [h2 _ y, h2 _ (by rw [← z]; exact y), z])
    have b : f (d t c) = old := by rw [← z]; exact a
    rcases h3 _ a with x | x <;> rcases h3 _ b with y | y
    · exact (ne (by rw [x, y])).elim
    · rw [x, y]
      exact w3.elim (fun q => .inr (.inl q)) .inl
    · rw [x, y]
      exact w3.elim .inl fun q => .inr (.inl q)
    · exact (ne (by rw [x, y])).elim
  · rcases S s t c hs ht hc (h1 s t hs ht e) z with q | q | q
    · exact .inl (up _ q)
    · exact .inr (.inl (up _ q))
    · exact .inr (.inr q)
/-- a block is taken -/
theorem Stab.take {n wd : Nat} {d : Nat → Nat → Nat} {f : Nat → Nat} {wait : List Nat} {E : Nat → Prop} {X : Nat} (S : Stab n wd d f (wait ++ [X]) E wd) : Stab n wd d f wait (fun u => f u = X) 0 := by
  intro s t c hs ht hc e ne
  have key : f (d s c) = X ∨ f (d t c) = X → (f (d s c) = X ↔ ¬ f (d t c) = X) := fun o => by
    rcases o with o | o
    · exact ⟨fun _ z => ne (by rw [o, z]), fun _ => o⟩
    · exact ⟨fun z _ => ne (by rw [o, z]), fun z => (z o).elim⟩
  rcases S s t c hs ht hc e ne with q | q | q
  · rcases List.mem_append.mp q with q | q
    · exact .inl q
    · exact .inr (.inr ⟨Nat.zero_le _, key (.inl (List.mem_singleton.mp q))⟩)
  · rcases List.mem_append.mp q with q | q
    · exact .inr (.inl q)
    · exact .inr (.inr ⟨Nat.zero_le _, key (.inr (List.mem_singleton.mp q))⟩)
  · omega
/-- one letter is done -/
theorem Stab.next {n wd : Nat} {d : Nat → Nat → Nat} {f : Nat → Nat} {wait : List Nat} {E : Nat → Prop} {k : Nat} (S : Stab n wd d f wait E k) (u : ∀ s t, s < n → t < n → f s = f t → E (d s k) → E (d t k)) : Stab n wd d f wait E (k + 1) := by
  intro s t c hs ht hc e ne
  rcases S s t c hs ht hc e ne with q | q | ⟨q, r⟩
  · exact .inl q
  · exact .inr (.inl q)
  · by_cases z : c = k
    · subst z
      by_cases y : E (d s c)
      · exact (r.mp y (u s t hs ht e y)).elim
      · exact (y (u t s ht hs e.symm (Classical.byContradiction fun x => y (r.mpr x)))).elim
    · exact .inr (.inr ⟨by omega, r⟩)
/-- the blocks, by lists -/
structure Bk (n : Nat) (blk : List Nat) (mem : List (List Nat)) (wait : List Nat) (isw : List Bool) : Prop where
  len : blk.length = n
  mb : ∀ (b : Nat) L, mem[b]? = some L → L ≠ [] ∧ L.Nodup ∧ ∀ s, s ∈ L ↔ blk[s]? = some b
  lt : ∀ (s b : Nat), blk[s]? = some b → b < mem.length
  isl : isw.length = mem.length
  isw : ∀ b, isw[b]? = some true ↔ b ∈ wait
  nd : wait.Nodup
section
variable {n : Nat} {blk : List Nat} {mem : List (List Nat)} {wait : List Nat} {isw : List Bool}
abbrev bo (blk : List Nat) (s : Nat) : Nat := blk.getD s 0
theorem bo_at {s b : Nat} (h : blk[s]? = some b) : bo blk s = b := by
  show blk.getD s 0 = b
  rw [List.getD, h]
  rfl
theorem at_bo {s : Nat} (h : s < blk.length) : blk[s]? = some (bo blk s) := by
  show _ = some (blk.getD s 0)
  rw [List.getD, List.getElem?_eq_getElem h]
  rfl
/-- no more blocks than states -/
theorem Bk.few (B : Bk n blk mem wait isw) : mem.length ≤ n := by
  have h : ∀ k, k ≤ mem.length → ∃ R : List Nat, R.length = k ∧ R.Nodup ∧ ∀ s ∈ R, ∃ b, b < k ∧ blk[s]? = some b := by
    intro k
    induction k with
    | zero => exact fun _ => ⟨[], rfl, List.nodup_nil, fun s h => nomatch h⟩
    | succ k ih =>
      intro hk
      obtain ⟨R, r1, r2, r3⟩ := ih (by omega)
      have hm : mem[k]? = some (mem[k]'(by omega)) := List.getElem?_eq_getElem (by omega)
      obtain ⟨m1, m2, m3⟩ := B.mb k _ hm
      obtain ⟨s, hs⟩ := List.exists_mem_of_ne_nil _ m1
      have hb := (m3 s).mp hs
      refine ⟨s :: R, by rw [List.length_cons, r1], List.nodup_cons.mpr ⟨fun z => ?_, r2⟩, fun t ht => ?_⟩
      · obtain ⟨b, b1, b2⟩ := r3 s z
        rw [hb] at b2
        cases b2
        omega
      · rcases List.mem_cons.mp ht with rfl | ht
        · exact ⟨k, by omega, hb⟩
        · obtain ⟨b, b1, b2⟩ := r3 t ht
          exact ⟨b, by omega, b2⟩
  obtain ⟨R, r1, r2, r3⟩ := h mem.length (Nat.le_refl _)
  rw [← r1]
  refine Mon.nodup_lt n R r2 fun s hs => ?_
  obtain ⟨b, _, b2⟩ := r3 s hs
  rw [← B.len]
  exact (List.getElem?_eq_some_iff.mp b2).1
/-- the members of a block without some -/
def rest (L T : List Nat) : List Nat := L.filter fun s => decide (s ∉ T)
theorem rest_mem {L T : List Nat} {s : Nat} : s ∈ rest L T ↔ s ∈ L ∧ s ∉ T := by
  unfold rest
  rw [List.mem_filter, decide_eq_true_iff]
theorem rest_len {L T : List Nat} (nl : L.Nodup) (nt : T.Nodup) (h : ∀ s ∈ T, s ∈ L) : (rest L T).length + T.length = L.length := by
  have e : (L.filter fun s => decide (s ∈ T)).length = T.length := by
    refine Nat.le_antisymm ?_ ?_
    · have : ∀ (l : List Nat) (m : List Nat), l.Nodup → (∀ x ∈ l, x ∈ m) → l.length ≤ m.length := by
        intro l
        induction l with
        | nil => exact fun m _ _ => Nat.zero_le _
        | cons a l ih =>
          intro m nd hm
          obtain ⟨h1, h2⟩ := List.nodup_cons.mp nd
          have ha := hm a List.mem_cons_self
          have := ih (m.erase a) h2 fun x hx => (List.mem_erase_of_ne (fun z => h1 (by rw [← z]; exact hx))).mpr (hm x (List.mem_cons_of_mem _ hx))
          rw [List.length_erase_of_mem ha] at this
          have hp := List.length_pos_of_mem ha
          rw [List.length_cons]
          omega
      exact this _ _ (nl.filter _) fun x hx => of_decide_eq_true (List.mem_filter.mp hx).2
    · have : ∀ (l : List Nat) (m : List Nat), l.Nodup → (∀ x ∈ l, x ∈ m) → l.length ≤ m.length := by
        intro l
        induction l with
        | nil => exact fun m _ _ => Nat.zero_le _
        | cons a l ih =>
          intro m nd hm
          obtain ⟨h1, h2⟩ := List.nodup_cons.mp nd
          have ha := hm a List.mem_cons_self
          have := ih (m.erase a) h2 fun x hx => (List.mem_erase_of_ne (fun z => h1 (by rw [← z]; exact hx))).mpr (hm x (List.mem_cons_of_mem _ hx))
          rw [List.length_erase_of_mem ha] at this
          have hp := List.length_pos_of_mem ha
          rw [List.length_cons]
          omega
      exact this _ _ nt fun x hx => List.mem_filter.mpr ⟨h x hx, decide_eq_true hx⟩
  have p : ∀ l : List Nat, (rest l T).length + (l.filter fun s => decide (s ∈ T)).length = l.length := by
    intro l
    induction l with
    | nil => rfl
    | cons a l ih =>
      unfold rest at ih ⊢
      rw [List.filter_cons, List.filter_cons]
      by_cases z : a ∈ T
      · rw [if_neg (by simp [z]), if_pos (by simp [z]), List.length_cons, List.length_cons]
        omega
      · rw [if_pos (by simp [z]), if_neg (by simp [z]), List.length_cons, List.length_cons]
        omega
  rw [← e]
  exact p L
/-- all states of T in the block new -/
def move (blk T : List Nat) (new : Nat) : List Nat := T.foldl (fun l s => l.set s new) blk
theorem move_len {T : List Nat} {new : Nat} : ∀ {blk : List Nat}, (move blk T new).length = blk.length := by
  unfold move
  induction T with
  | nil => intro blk; rfl
  | cons s T ih => intro blk; rw [List.foldl_cons, ih, List.length_set]
theorem move_at {new : Nat} : ∀ {T blk : List Nat} {s : Nat}, (move blk T new)[s]? = if s ∈ T ∧ s < blk.length then some new else blk[s]? := by
  unfold move
  intro T
  induction T with
  | nil => intro blk s; simp
  | cons a T ih =>
    intro blk s
    rw [List.foldl_cons, ih, List.length_set, List.getElem?_set]
    by_cases z : a = s
    · subst z
      by_cases y : a ∈ T <;> by_cases x : a < blk.length <;> simp [y, x]
    · have z2 : ¬ s = a := fun y => z y.symm
      by_cases y : s ∈ T <;> by_cases x : s < blk.length <;> simp [y, x, z, z2]
/-- .. as set_apart has it -/
theorem Bk.split (B : Bk n blk mem wait isw) {T L : List Nat} {old least : Nat} (hL : mem[old]? = some L) (nt : T.Nodup) (tn : T ≠ []) (hT : ∀ s ∈ T, s ∈ L) (ne : T.length ≠ L.length)
    (hl : least = mem.length ∨ (least = old ∧ isw[old]? ≠ some true)) :
    Bk n (move blk T mem.length) (mem.set old (rest L T) ++ [T]) (wait ++ [least]) ((isw ++ [false]).set least true) := by
  obtain ⟨m1, m2, m3⟩ := B.mb old L hL
  have ol := (List.getElem?_eq_some_iff.mp hL).1
  have rl := rest_len m2 nt hT
  have tb : ∀ s ∈ T, blk[s]? = some old := fun s hs => (m3 s).mp (hT s hs)
  have tl : ∀ s ∈ T, s < blk.length := fun s hs => (List.getElem?_eq_some_iff.mp (tb s hs)).1
  have mv : ∀ s, (move blk T mem.length)[s]? = if s ∈ T then some mem.length else blk[s]? := fun s => by
    rw [move_at]
    by_cases z : s ∈ T
    · rw [if_pos ⟨z, tl s z⟩, if_pos z]
    · rw [if_neg (fun y => z y.1), if_neg z]
  have il := B.isl
  have nlw : ¬ least ∈ wait := by
    intro z
    have := (B.isw least).mpr z
    rcases hl with rfl | ⟨rfl, h⟩
    · have := (List.getElem?_eq_some_iff.mp this).1
      omega
    · exact h this
  refine ⟨by rw [move_len, B.len], fun b M hb => ?_, fun s b hs => ?_, by rw [List.length_set, List.length_append, List.length_append, List.length_set, il]; rfl, fun b => ?_, ?_⟩
  · by_cases hbl : b < mem.length
    · rw [List.getElem?_append_left (by rw [List.length_set]; exact hbl), List.getElem?_set] at hb
      by_cases e : old = b
      · subst e
        rw [if_pos rfl, if_pos hbl] at hb
        cases hb
        refine ⟨fun z => ?_, m2.filter _, fun s => ?_⟩
        · rw [z] at rl
          simp at rl
          exact ne rl
        · rw [rest_mem, mv]
          by_cases z : s ∈ T
          · rw [if_pos z]
            constructor
            · exact fun y => (y.2 z).elim
            · intro y
              have := Option.some.inj y
              omega
          · rw [if_neg z, m3 s]
            exact ⟨fun y => y.1, fun y => ⟨y, z⟩⟩
      · rw [if_neg e] at hb
        obtain ⟨q1, q2, q3⟩ := B.mb b M hb
        refine ⟨q1, q2, fun s => ?_⟩
        rw [q3, mv]
        by_cases z : s ∈ T
        · rw [if_pos z, tb s z]
          constructor
          · intro y
            exact (e (Option.some.inj y)).elim
          · intro y
            have := Option.some.inj y
            omega
        · rw [if_neg z]
    · have hb2 := (List.getElem?_eq_some_iff.mp hb).1
      rw [List.length_append, List.length_set, List.length_singleton] at hb2
      have e : b = mem.length := by omega
      subst e
      rw [List.getElem?_append_right (by rw [List.length_set]; exact Nat.le_refl _), List.length_set, Nat.sub_self] at hb
      cases hb
      refine ⟨tn, nt, fun s => ?_⟩
      rw [mv]
      by_cases z : s ∈ T
      · rw [if_pos z]
        exact ⟨fun _ => rfl, fun _ => z⟩
      · rw [if_neg z]
        refine ⟨fun y => (z y).elim, fun y => ?_⟩
        have := B.lt s _ y
        omega
  · rw [List.length_append, List.length_set, List.length_singleton]
    rw [mv] at hs
    split at hs
    · cases hs
      omega
    · have := B.lt s b hs
      omega
  · rw [List.getElem?_set, List.mem_append, List.mem_singleton, List.length_append, List.length_singleton, il]
    by_cases e : least = b
    · subst e
      rw [if_pos rfl, if_pos (by rcases hl with rfl | ⟨rfl, _⟩ <;> omega)]
      exact ⟨fun _ => .inr rfl, fun _ => rfl⟩
    · rw [if_neg e]
      by_cases hbl : b < mem.length
      · rw [List.getElem?_append_left (by omega), B.isw]
        exact ⟨.inl, fun y => y.elim id fun y => (e y.symm).elim⟩
      · constructor
        · intro y
          rw [List.getElem?_append_right (by omega)] at y
          by_cases z : b - isw.length = 0
          · rw [z] at y
            cases y
          · rw [List.getElem?_eq_none (by simp; omega)] at y
            cases y
        · intro y
          rcases y with y | y
          · have := (B.isw b).mpr y
            have := (List.getElem?_eq_some_iff.mp this).1
            omega
          · exact (e y.symm).elim
  · rw [List.nodup_append]
    refine ⟨B.nd, by simp, fun x hx y hy => ?_⟩
    rw [List.mem_singleton.mp hy]
    exact fun z => nlw (by rw [← z]; exact hx)
theorem bo_move (B : Bk n blk mem wait isw) {T L : List Nat} {old : Nat} (hL : mem[old]? = some L) (hT : ∀ s ∈ T, s ∈ L) (u : Nat) : bo (move blk T mem.length) u = if u ∈ T then mem.length else bo blk u := by
  obtain ⟨m1, m2, m3⟩ := B.mb old L hL
  show (move blk T mem.length).getD u 0 = _
  rw [List.getD, move_at]
  by_cases z : u ∈ T
  · rw [if_pos ⟨z, (List.getElem?_eq_some_iff.mp ((m3 u).mp (hT u z))).1⟩, if_pos z]
    rfl
  · rw [if_neg (fun y => z y.1), if_neg z]
    rfl
/-- what is in one block behind it was so before -/
theorem finer (B : Bk n blk mem wait isw) {T L : List Nat} {old : Nat} (hL : mem[old]? = some L) (hT : ∀ s ∈ T, s ∈ L) {s t : Nat} (hs : s < n) (ht : t < n) (e : bo (move blk T mem.length) s = bo (move blk T mem.length) t) : bo blk s = bo blk t := by
  obtain ⟨m1, m2, m3⟩ := B.mb old L hL
  rw [bo_move B hL hT, bo_move B hL hT] at e
  have lt : ∀ u, u < n → bo blk u < mem.length := fun u hu => B.lt u _ (at_bo (by rw [B.len]; exact hu))
  split at e <;> split at e
  · rename_i h1 h2
    rw [bo_at ((m3 s).mp (hT s h1)), bo_at ((m3 t).mp (hT t h2))]
  · have := lt t ht
    omega
  · have := lt s hs
    omega
  · exact e
theorem stab_split (B : Bk n blk mem wait isw) {wd : Nat} {d : Nat → Nat → Nat} {E : Nat → Prop} {k : Nat} {T L : List Nat} {old least : Nat} (S : Stab n wd d (bo blk) wait E k) (hL : mem[old]? = some L) (hT : ∀ s ∈ T, s ∈ L)
    (hl : least = mem.length ∨ (least = old ∧ isw[old]? ≠ some true)) : Stab n wd d (bo (move blk T mem.length)) (wait ++ [least]) E k := by
  obtain ⟨m1, m2, m3⟩ := B.mb old L hL
  refine S.split (old := old) (new := mem.length) (fun s t hs ht e => finer B hL hT hs ht e) (fun u hu => ?_) (fun u hu => ?_) (fun b hb => List.mem_append_left _ hb) (fun h => ?_) ?_
  · rw [bo_move B hL hT, if_neg]
    exact fun z => hu (bo_at ((m3 u).mp (hT u z)))
  · rw [bo_move B hL hT]
    split
    · exact .inr rfl
    · exact .inl hu
  · rcases hl with rfl | ⟨rfl, h2⟩
    · simp
    · exact (h2 ((B.isw _).mpr h)).elim
  · rcases hl with rfl | ⟨rfl, h2⟩ <;> simp
/-- states by their blocks, as they come -/
structure Grp (f : Nat → Nat) (P : Nat → Prop) (G : List (Nat × List Nat)) : Prop where
  nd : (G.map (·.1)).Nodup
  gm : ∀ (j : Nat) e, G[j]? = some e → e.2 ≠ [] ∧ e.2.Nodup ∧ ∀ s, s ∈ e.2 ↔ P s ∧ f s = e.1
  gc : ∀ s, P s → ∃ (j : Nat) (e : Nat × List Nat), G[j]? = some e ∧ e.1 = f s
theorem Grp.nil {f : Nat → Nat} : Grp f (fun _ => False) [] := ⟨List.nodup_nil, fun j e h => by simp at h, fun s h => h.elim⟩
theorem Grp.congr {f : Nat → Nat} {P P' : Nat → Prop} {G : List (Nat × List Nat)} (h : Grp f P G) (e : ∀ s, P s ↔ P' s) : Grp f P' G :=
  ⟨h.nd, fun j x hx => ⟨(h.gm j x hx).1, (h.gm j x hx).2.1, fun s => by rw [(h.gm j x hx).2.2, e]⟩, fun s hs => h.gc s ((e s).mpr hs)⟩
theorem Grp.key {f : Nat → Nat} {P : Nat → Prop} {G : List (Nat × List Nat)} (h : Grp f P G) {i j : Nat} {e e' : Nat × List Nat} (h1 : G[i]? = some e) (h2 : G[j]? = some e') (z : e.1 = e'.1) : i = j :=
  Mon.nodup_at h.nd (x := e.1) (by rw [List.getElem?_map, h1]; rfl) (by rw [List.getElem?_map, h2, z]; rfl)
theorem Grp.old {f : Nat → Nat} {P : Nat → Prop} {G : List (Nat × List Nat)} (h : Grp f P G) {s j : Nat} {L : List Nat} (hj : G[j]? = some (f s, L)) (hs : ¬ P s) : Grp f (fun x => P x ∨ x = s) (G.set j (f s, L ++ [s])) := by
  have jl := (List.getElem?_eq_some_iff.mp hj).1
  obtain ⟨a1, a2, a3⟩ := h.gm j _ hj
  dsimp only at a1 a2 a3
  refine ⟨?_, fun i e he => ?_, fun x hx => ?_⟩
  · have : (G.set j (f s, L ++ [s])).map (·.1) = G.map (·.1) := by
      refine List.ext_getElem? fun i => ?_
      rw [List.getElem?_map, List.getElem?_map, List.getElem?_set]
      by_cases z : j = i
      · subst z
        rw [if_pos rfl, if_pos jl, hj]
        rfl
      · rw [if_neg z]
    rw [this]
    exact h.nd
  · rw [List.getElem?_set] at he
    by_cases z : j = i
    · subst z
      rw [if_pos rfl, if_pos jl] at he
      cases he
      refine ⟨by simp, ?_, fun x => ?_⟩
      · rw [List.nodup_append]
        refine ⟨a2, by simp, fun x hx y hy => ?_⟩
        rw [List.mem_singleton.mp hy]
        intro z
        subst z
        exact hs ((a3 x).mp hx).1
      · show x ∈ L ++ [s] ↔ (P x ∨ x = s) ∧ f x = f s
        rw [List.mem_append, List.mem_singleton, a3]
        constructor
        · rintro (y | rfl)
          · exact ⟨.inl y.1, y.2⟩
          · exact ⟨.inr rfl, rfl⟩
        · rintro ⟨y | rfl, y2⟩
          · exact .inl ⟨y, y2⟩
          · exact .inr rfl
    · rw [if_neg z] at he
      obtain ⟨b1, b2, b3⟩ := h.gm i e he
      refine ⟨b1, b2, fun x => ?_⟩
      rw [b3]
      constructor
      · exact fun y => ⟨.inl y.1, y.2⟩
      · rintro ⟨y | rfl, y2⟩
        · exact ⟨y, y2⟩
        · exact (z (h.key hj he y2)).elim
  · rcases hx with hx | rfl
    · obtain ⟨i, e, h1, h2⟩ := h.gc x hx
      by_cases z : j = i
      · subst z
        rw [hj] at h1
        cases h1
        exact ⟨j, (f s, L ++ [s]), by rw [List.getElem?_set_self jl], h2⟩
      · exact ⟨i, e, by rw [List.getElem?_set_ne z]; exact h1, h2⟩
    · exact ⟨j, (f x, L ++ [x]), by rw [List.getElem?_set_self jl], rfl⟩
theorem Grp.new {f : Nat → Nat} {P : Nat → Prop} {G : List (Nat × List Nat)} (h : Grp f P G) {s : Nat} (hn : ∀ (j : Nat) e, G[j]? = some e → e.1 ≠ f s) : Grp f (fun x => P x ∨ x = s) (G ++ [(f s, [s])]) := by
  have nos : ¬ P s := fun z => by
    obtain ⟨j, e, h1, h2⟩ := h.gc s z
    exact hn j e h1 h2
  have cs : ∀ {i : Nat} {e : Nat × List Nat}, (G ++ [(f s, [s])])[i]? = some e → G[i]? = some e ∨ e = (f s, [s]) := fun {i e} he => by
    by_cases z : i < G.length
    · rw [List.getElem?_append_left z] at he
      exact .inl he
    · rw [List.getElem?_append_right (by omega)] at he
      cases hh : i - G.length with
      | zero => rw [hh] at he; cases he; exact .inr rfl
      | succ k => rw [hh] at he; cases he
  refine ⟨?_, fun i e he => ?_, fun x hx => ?_⟩
  · rw [List.map_append, List.nodup_append]
    refine ⟨h.nd, by simp, fun x hx y hy => ?_⟩
    rw [List.map_cons, List.map_nil, List.mem_singleton] at hy
    obtain ⟨e, he, rfl⟩ := List.mem_map.mp hx
    obtain ⟨j, hj⟩ := List.getElem?_of_mem he
    rw [hy]
    exact hn j e hj
  · rcases cs he with he2 | rfl
    · obtain ⟨b1, b2, b3⟩ := h.gm i e he2
      refine ⟨b1, b2, fun x => ?_⟩
      rw [b3]
      constructor
      · exact fun y => ⟨.inl y.1, y.2⟩
      · rintro ⟨y | y, y2⟩
        · exact ⟨y, y2⟩
        · subst y
          exact (hn i e he2 y2.symm).elim
    · refine ⟨by simp, by simp, fun x => ?_⟩
      show x ∈ [s] ↔ (P x ∨ x = s) ∧ f x = f s
      rw [List.mem_singleton]
      constructor
      · rintro rfl
        exact ⟨.inr rfl, rfl⟩
      · rintro ⟨y | rfl, y2⟩
        · obtain ⟨j, e, h1, h2⟩ := h.gc x y
          exact (hn j e h1 (by rw [h2, y2])).elim
        · rfl
  · rcases hx with hx | rfl
    · obtain ⟨i, e, h1, h2⟩ := h.gc x hx
      exact ⟨i, e, by rw [List.getElem?_append_left (List.getElem?_eq_some_iff.mp h1).1]; exact h1, h2⟩
    · exact ⟨G.length, (f x, [x]), by rw [List.getElem?_append_right (Nat.le_refl _), Nat.sub_self]; rfl, rfl⟩
/-- what is left to be set apart: the groups from i on are those of the blocks as they stand, and only they mix -/
structure Left (n : Nat) (f : Nat → Nat) (m : Nat) (P : Nat → Prop) (G : List (Nat × List Nat)) (i : Nat) : Prop where
  lt : ∀ (j : Nat) e, i ≤ j → G[j]? = some e → e.1 < m
  gm : ∀ (j : Nat) e, i ≤ j → G[j]? = some e → ∀ s, s ∈ e.2 ↔ P s ∧ f s = e.1
  mix : ∀ s t, s < n → t < n → f s = f t → P s → ¬ P t → ∃ (j : Nat) (e : Nat × List Nat), i ≤ j ∧ G[j]? = some e ∧ f s = e.1
theorem Left.whole (B : Bk n blk mem wait isw) {P : Nat → Prop} {G : List (Nat × List Nat)} {i old : Nat} {T L : List Nat} (Lf : Left n (bo blk) mem.length P G i) (hG : G[i]? = some (old, T)) (hL : mem[old]? = some L) (nt : T.Nodup) (hT : ∀ s ∈ T, s ∈ L) (e : T.length = L.length) : Left n (bo blk) mem.length P G (i + 1) := by
  obtain ⟨m1, m2, m3⟩ := B.mb old L hL
  refine ⟨fun j e h => Lf.lt j e (by omega), fun j e h => Lf.gm j e (by omega), fun s t hs ht ef ps pt => ?_⟩
  obtain ⟨j, x, h1, h2, h3⟩ := Lf.mix s t hs ht ef ps pt
  by_cases z : j = i
  · subst z
    rw [hG] at h2
    cases h2
    exfalso
    have r := rest_len m2 nt hT
    have r0 : rest L T = [] := List.length_eq_zero_iff.mp (by omega)
    have tb : t ∈ L := (m3 t).mpr (by rw [at_bo (by rw [B.len]; exact ht), ← ef, h3])
    have : t ∈ T := Decidable.byContradiction fun y => by
      have := rest_mem.mpr ⟨tb, y⟩
      rw [r0] at this
      cases this
    exact pt (((Lf.gm j _ (Nat.le_refl _) hG t).mp this).1)
  · exact ⟨j, x, by omega, h2, h3⟩
theorem Left.split (B : Bk n blk mem wait isw) {P : Nat → Prop} {G : List (Nat × List Nat)} {i old : Nat} {T L : List Nat} (Lf : Left n (bo blk) mem.length P G i) (nd : (G.map (·.1)).Nodup) (hG : G[i]? = some (old, T)) (hL : mem[old]? = some L) (hT : ∀ s ∈ T, s ∈ L) :
    Left n (bo (move blk T mem.length)) (mem.length + 1) P G (i + 1) := by
  obtain ⟨m1, m2, m3⟩ := B.mb old L hL
  have gi := Lf.gm i _ (Nat.le_refl _) hG
  dsimp only at gi
  have other : ∀ (j : Nat) (e : Nat × List Nat), i + 1 ≤ j → G[j]? = some e → e.1 ≠ old := fun j e h he z => by
    have := Mon.nodup_at nd (i := i) (j := j) (x := old) (by rw [List.getElem?_map, hG]; rfl) (by rw [List.getElem?_map, he, ← z]; rfl)
    omega
  refine ⟨fun j e h he => by have := Lf.lt j e (by omega) he; omega, fun j e h he s => ?_, fun s t hs ht ef ps pt => ?_⟩
  · rw [Lf.gm j e (by omega) he, bo_move B hL hT]
    have no := other j e h he
    have el := Lf.lt j e (by omega) he
    split
    · rename_i z
      have := ((gi s).mp z).2
      constructor
      · rintro ⟨_, y⟩; exact (no (by rw [← y, this])).elim
      · rintro ⟨_, y⟩; omega
    · exact Iff.rfl
  · have ef0 := finer B hL hT hs ht ef
    obtain ⟨j, x, h1, h2, h3⟩ := Lf.mix s t hs ht ef0 ps pt
    have ntT : t ∉ T := fun z => pt ((gi t).mp z).1
    have nsT : s ∉ T := fun z => by
      rw [bo_move B hL hT, bo_move B hL hT, if_pos z, if_neg ntT] at ef
      have := B.lt t _ (at_bo (by rw [B.len]; exact ht))
      omega
    by_cases z : j = i
    · subst z
      rw [hG] at h2
      cases h2
      exact (nsT ((gi s).mpr ⟨ps, h3⟩)).elim
    · exact ⟨j, x, by omega, h2, by rw [bo_move B hL hT, if_neg nsT]; exact h3⟩
end
theorem Bk.take {n : Nat} {blk : List Nat} {mem : List (List Nat)} {W : List Nat} {X : Nat} {isw : List Bool} (B : Bk n blk mem (W ++ [X]) isw) : Bk n blk mem W (isw.set X false) := by
  have nd := List.nodup_append.mp B.nd
  have nX : X ∉ W := fun z => nd.2.2 X z X (by simp) rfl
  have xl : X < isw.length := (List.getElem?_eq_some_iff.mp ((B.isw X).mpr (by simp))).1
  refine ⟨B.len, B.mb, B.lt, by rw [List.length_set]; exact B.isl, fun b => ?_, nd.1⟩
  rw [List.getElem?_set]
  by_cases z : X = b
  · subst z
    rw [if_pos rfl, if_pos xl]
    exact ⟨fun y => (by cases y), fun y => (nX y).elim⟩
  · rw [if_neg z, B.isw, List.mem_append, List.mem_singleton]
    exact ⟨fun y => y.elim id fun y => (z y.symm).elim, .inl⟩
/-- where a letter leads to a state from -/
def beg (n : Nat) (d : Nat → Nat → Nat) (c e : Nat) : List Nat := (List.range n).filter fun s => decide (d s c = e)
theorem beg_mem {n : Nat} {d : Nat → Nat → Nat} {c e s : Nat} : s ∈ beg n d c e ↔ s < n ∧ d s c = e := by
  unfold beg
  rw [List.mem_filter, List.mem_range, decide_eq_true_iff]
theorem beg_nd {n : Nat} {d : Nat → Nat → Nat} {c e : Nat} : (beg n d c e).Nodup := List.nodup_range.filter _
end Hop

set_option Elab.async false
set_option linter.all false
set_option maxRecDepth 100000
set_option maxHeartbeats 4000000
/-! dicts whose keys are True and False: {}, d.setdefault(b, z), len(d), for b in d. -/
namespace Lf
open PySem PySem.Spec PyProof.Rows L2
/-- a dict by truth values -/
def DB (P : Program) (w : World) (a : Addr) (kvs : List (Bool × V)) : HO := .ext fun h => kvs.length ≤ sizeLine ∧ (a == sysModules) = false ∧ ∃ vs, KV kvs vs ∧ h.DictOf (PpSet.boolK P w) a vs
theorem dictOf_at {P : Program} {w : World} {h h' : Heap} {a : Addr} {vs : List (Bool × Value)} (D : h.DictOf (PpSet.boolK P w) a vs) (k : ∀ o, h.get? a = some o → h'.get? a = some o) : h'.DictOf (PpSet.boolK P w) a vs := by
  obtain ⟨o, es, ep, ho, r⟩ := D
  exact ⟨o, es, ep, k o ho, r⟩
theorem db_new {P : Program} {w : World} {H : Hp} {h : Heap} {a : Addr} {kvs : List (Bool × V)} {vs : List (Bool × Value)} (z : kvs.length ≤ sizeLine) (hd : (a == sysModules) = false) (rel : KV kvs vs) (dd : h.DictOf (PpSet.boolK P w) a vs) : ObjOk P w H h a (DB P w a kvs) := by
  have ⟨o, _, _, ho, _⟩ := dd
  exact ⟨⟨z, hd, vs, rel, dd⟩, ⟨o, ho⟩, fun h1 h2 p k => ⟨p.1, p.2.1, p.2.2.choose, p.2.2.choose_spec.1, dictOf_at p.2.2.choose_spec.2 k⟩⟩
section
variable {X : Cx} {pins : List (Addr × Obj)} {σ : L2.St} {H : Hp} {s : Shared} {a : Addr} {kvs : List (Bool × V)}
theorem db_get (I : Inv X pins σ H s) (e : H a = some (DB X.prog X.w a kvs)) : kvs.length ≤ sizeLine ∧ (a == sysModules) = false ∧ ∃ vs, KV kvs vs ∧ s.heap.DictOf (PpSet.boolK X.prog X.w) a vs := (I.hok a _ e).1
/-- {} -/
theorem pe_dnewB {pos : Pos} : PE X (.Dict [] [] pos) (fun _ H Q => ∀ p, H p = none → Q (.ref p) (L2.upd H p (DB X.prog X.w p []))) := ⟨fun pins s σ H Q I h =>
  wpAny_Dict_empty ⟨.ref s.heap.objs.size, _, I.laid (a := s.heap.objs.size) (o := DB X.prog X.w s.heap.objs.size []) (t' := s.toks) (fun _ _ q => Heap.get?_push_of_some _ q) (Nat.le_refl _)
    (db_new (Nat.zero_le _) (beq_eq_false_iff_ne.mpr (Ne.symm (Nat.ne_of_lt I.big))) .nil (Heap.DictOf.new s.heap)), rfl, h _ (I.hok.fresh (Nat.le_refl _))⟩⟩
/-- d.setdefault(b, z) -/
def tDSetdB (P : Program) (w : World) (td ty tx : TE) : TE := fun σ H Q => td σ H fun x H1 => (∃ a kvs, x = .ref a ∧ H1 a = some (DB P w a kvs)) ∧ ty σ H1 fun y H2 => tx σ H2 fun z H3 => ∃ (a : Addr) (kvs : List (Bool × V)) (k : Bool), x = .ref a ∧ H3 a = some (DB P w a kvs) ∧ y = .bl k ∧ kvs.length < sizeLine ∧
  (∀ v, valV kvs k = some v → Q v H3) ∧ (valV kvs k = none → Q z (L2.upd H3 a (DB P w a (putK kvs k z))))
theorem pe_dsetdB {o e f : Expr} {td ty tx : TE} {apos cpos : Pos} (ho : PE X o td) (he : PE X e ty) (hf : PE X f tx) (m : M2 X o "setdefault" apos e f cpos) : PE X (.Call (.Attribute o "setdefault" apos) [e, f] [] cpos) (tDSetdB X.prog X.w td ty tx) := by
  refine ⟨fun pins s σ H Q I h => ?_⟩
  refine wpAny_Call_method m.base m.few m.line PySem.F.plainAttrs_dict PySem.F.slot_dict_setdefault PySem.F.type_dict_setdefault (thn (ho.run pins s σ H _ I h) fun u s1 ⟨x, H1, I1, rx, ⟨a, kv1, ex, e1⟩, q1⟩ => ?_)
  subst ex
  obtain rfl : u = Value.ref a := rx
  obtain ⟨_, hd1, vs1, _, dd1⟩ := db_get I1 e1
  refine ⟨dd1.typeIs, fun b q => ?_, ?_⟩
  · cases q
    obtain ⟨ob, _, _, h1, h2, _⟩ := dd1
    exact ⟨ob, h1, h2.2.1⟩
  rw [m.trees]
  refine Calls.callWith_builtin rfl (Calls.evalArgs_plain (Calls.spliced_cons (thn (he.run pins s1 σ H1 _ I1 q1) fun iv s2 ⟨y, H2, I2, ry, q2⟩ =>
    Calls.spliced_cons (thn (hf.run pins s2 σ H2 _ I2 q2) fun fv s3 ⟨z, H3, I3, rz, a', kvs, k, ex, ea, ey, hl, q3, q4⟩ => Calls.spliced_nil ?_))))
  cases ex
  subst ey
  obtain rfl : iv = Value.bool k := ry
  obtain ⟨zl, hd, vs, rel, dd⟩ := db_get I3 ea
  have hz : vs.length ≤ sizeLine := by rw [← rel.length]; exact zl
  refine call_meetsIn PySem.F.slot_dict_setdefault dd.typeIs PySem.F.entry_dict_setdefault (PySem.F.args_dict_setdefault_3 _ _ _) (kt_meets_setdefault (PpSet.boolK X.prog X.w) a (PpSet.boolK_is X.prog X.w k) hd fv) ⟨vs, dd, hz, fun v hv => ?_, fun hn h' dd' hs => ?_⟩
  · have q := rel.val k
    rw [hv] at q
    cases q0 : valV kvs k with
    | none =>
      rw [q0] at q
      exact (show False from q).elim
    | some v0 =>
      rw [q0] at q
      exact ⟨v0, _, I3.tok _, q, q3 v0 q0⟩
  · have q := rel.val k
    rw [hn] at q
    cases q0 : valV kvs k with
    | some v0 =>
      rw [q0] at q
      exact (show False from q).elim
    | none =>
      have hl2 : (putK kvs k z).length ≤ sizeLine := by
        have := length_putK kvs k z
        omega
      have he2 : ∃ q, h'.get? a = some q := let ⟨q, _, _, hq, _⟩ := dd'; ⟨q, hq⟩
      exact ⟨z, _, d_write (t' := s3.toks + 1) I3 (by rw [ea]; exact True.intro) hs he2 (db_new hl2 hd (rel.put k rz) dd'), rz, q4 q0⟩
/-- len(d) -/
theorem cr_lenB : CallR X (.builtin "len") (fun xs H Q => ∃ a kvs, xs = [V.ref a] ∧ H a = some (DB X.prog X.w a kvs) ∧ Q (.int kvs.length) H) := by
  intro pins s σ H xs us Q I r h
  obtain ⟨a, kvs, rfl, ea, q⟩ := h
  obtain ⟨u, rfl, rx⟩ := vals1 r
  cases rx
  obtain ⟨z, hd, vs, rel, dd⟩ := db_get I ea
  refine call_len_dict hd dd (by rw [← rel.length]; rw [sizeLine_eq] at z; omega) ?_
  rw [← rel.length]
  exact ⟨.int kvs.length, _, I.tok _, ⟨_, rfl⟩, q⟩
/-- for b in d -/
def ItB (P : Program) (w : World) (d : Addr) (o : Obj) (kvs : List (Bool × V)) : It :=
  ⟨fun i H => H d = some (.frz o (DB P w d kvs)) ∧ i < kvs.length, fun i H x H' => H' = H ∧ ∃ k v, kvs[i]? = some (k, v) ∧ x = .bl k, fun i H => H d = some (.frz o (DB P w d kvs)) ∧ kvs.length ≤ i⟩
theorem frzB {d : Addr} {o : Obj} {pins : List (Addr × Obj)} {σ : L2.St} (I : Inv X pins σ H s) (h : H d = some (.frz o (DB X.prog X.w d kvs))) :
    (d == sysModules) = false ∧ s.heap.get? d = some o ∧ o.ExactDict ∧ ∃ (es : Array DictEntry) (ep : Nat) (vs : List (Bool × Value)), o.data = .dict es ep ∧ es.size = kvs.length ∧ KV kvs vs ∧ s.heap.DictAt (PpSet.boolK X.prog X.w) d vs ep := by
  obtain ⟨hd, ⟨z, hs, vs, kv, o', es, ep, ho, hx, hdt, r⟩, _⟩ := I.hok d _ h
  rw [hd] at ho
  cases ho
  refine ⟨hs, hd, hx, es, ep, vs, hdt, ?_, kv, o, es, hd, hx, hdt, r⟩
  have l1 := r.2.1.length
  have l2 : kvs.length = vs.length := Paired.length kv
  rw [Array.length_toList] at l1
  omega
end
theorem kvB_get {kvs : List (Bool × V)} {vs : List (Bool × Value)} (r : KV kvs vs) : ∀ {i : Nat} {k : Bool} {v : V}, kvs[i]? = some (k, v) → ∃ u, vs[i]? = some (k, u) ∧ RelV v u := by
  induction r with
  | nil => intro i k v h; simp at h
  | cons h t ih =>
    intro i k v hi
    cases i with
    | zero =>
      cases hi
      rename_i b _ _
      obtain ⟨h1, h2⟩ := h
      obtain ⟨b1, b2⟩ := b
      dsimp only at h1 h2
      subst h1
      exact ⟨b2, rfl, h2⟩
    | succ i => exact ih hi
theorem turn_keysB {P : Program} {w : World} {K : PySem.W.Frag} {tg : Expr} {d : Addr} {o : Obj} {es : Array DictEntry} {ep : Nat} {kvs : List (Bool × V)} (it : Addr) (hod : o.data = .dict es ep) : Turn P w K tg (ItB P w d o kvs) [it] it (fun i h => h.IsKeyIter it d i kvs.length ep) where
  mem := by simp
  obj := fun i h st b hb => by
    have e : b = it := by simpa using hb
    subst e
    obtain ⟨oi, e, c, dd⟩ := st
    exact ⟨oi, e, fun v z => by rw [dd] at z; cases z⟩
  keep := fun i h h' st k => st.at fun oi e => k it (by simp) oi e
  item := by
    intro X hP hw hK hc i pins s σ H E I hf st hg
    subst hP hw hK
    obtain ⟨hd, hi⟩ := hg
    obtain ⟨f0, f1, f2, f3, f4, f5⟩ := hf it (by simp)
    obtain ⟨hs, hgd, hx, es', ep', vs, hdt, hsz, kv, hm⟩ := frzB I hd
    obtain ⟨rfl, rfl⟩ := dict_ep hod hdt
    obtain ⟨⟨k, v⟩, hkv⟩ : ∃ p, kvs[i]? = some p := ⟨kvs[i], List.getElem?_eq_getElem hi⟩
    obtain ⟨u, hu, ru⟩ := kvB_get kv hkv
    have hl : kvs.length = vs.length := Paired.length kv
    rw [hl] at st
    refine wpAny_pyNext_dict_item st hm hu fun key h' hkey st' sb => ?_
    have I1 : Inv X pins σ H { s with heap := h' } := I.turned (t' := s.toks) (fun b ob hb e => (sb.2 b hb).trans e) f0 f1 f3 f4 f5
    obtain ⟨oi, e, c, dd⟩ := id st'
    refine ⟨key, rfl, go_of (s := { s with heap := h' }) e c dd (by decide) ⟨.bl k, H, I1, PpSet.isB_shape hkey, ⟨rfl, k, v, hkv, rfl⟩, ?_, fun b hb => (hf b hb).1⟩⟩
    show h'.IsKeyIter it d (i + 1) kvs.length _
    rw [hl]
    exact st'
  done := by
    intro X hP hw hK hc i pins s σ H E I hf st hg
    subst hP hw hK
    obtain ⟨hd, hi⟩ := hg
    obtain ⟨f0, f1, f2, f3, f4, f5⟩ := hf it (by simp)
    obtain ⟨hs, hgd, hx, es', ep', vs, hdt, hsz, kv, hm⟩ := frzB I hd
    obtain ⟨rfl, rfl⟩ := dict_ep hod hdt
    exact next_key_end (I.ok.hd hc) st hgd hdt hsz hi fun h' eb => ⟨rfl, I.turned (t' := s.toks) (fun b ob hb e => eb b ob hb e) f0 f1 f3 f4 f5⟩
  self := fun A i s Q E st h => wpAny_pyIter_keyiter st h
def iKeysB (P : Program) (w : World) (td : TE) : TI := fun σ H R => td σ H fun x H1 => ∃ d o kvs, x = .ref d ∧ H1 d = some (.frz o (DB P w d kvs)) ∧ R (ItB P w d o kvs) H1
theorem pi_keysB {X : Cx} {tg e : Expr} {td : TE} (he : PE X e td) : PI X tg e (iKeysB X.prog X.w td) := by
  refine ⟨fun pins s σ H R I h => ?_⟩
  refine thn (he.run pins s σ H _ I h) fun u s1 ⟨x, H1, I1, rx, d, o, kvs, ex, hd, q⟩ => ?_
  subst ex
  obtain rfl : u = Value.ref d := rx
  obtain ⟨hs, hgd, hx, es, ep, vs, hdt, hsz, kv, hm⟩ := frzB I1 hd
  refine iter_keys hs hgd hx hdt (pi_one (tk := s1.toks) I1 _ (turn_keysB _ hdt) ⟨_, Heap.get?_push_size _ rfl, rfl, ?_⟩ q)
  rw [hsz] <;> rfl
theorem walk_keysB {P : Program} {w : World} {d : Addr} {o : Obj} {kvs : List (Bool × V)} : Walk (ItB P w d o kvs) kvs.length (fun H => H d = some (.frz o (DB P w d kvs))) (fun i H x H' => H' = H ∧ ∃ k v, kvs[i]? = some (k, v) ∧ x = .bl k) :=
  ⟨fun _ _ hi q => ⟨q, hi⟩, fun _ q => ⟨q, Nat.le_refl _⟩, fun _ _ _ _ _ _ y => y⟩
end Lf

set_option Elab.async false
set_option linter.all false
set_option maxRecDepth 100000
set_option maxHeartbeats 2000000
/-! A dict that tells the place of a number. -/
namespace Lf
open PySem PySem.Spec PyProof.Rows L2
def ik (x : Nat) : Key := Sum.inl ((x : Nat) : Int)
theorem ik_inj {x y : Nat} (h : ik x = ik y) : x = y := by
  have : ((x : Nat) : Int) = (y : Nat) := Sum.inl.inj h
  omega
def idF : Nat → List Nat → List (Key × V)
  | _, [] => []
  | k, x :: r => (ik x, .int (k : Nat)) :: idF (k + 1) r
abbrev idT (f : List Nat) : List (Key × V) := idF 0 f
theorem idF_len : ∀ {f : List Nat} {k : Nat}, (idF k f).length = f.length
  | [], _ => rfl
  | x :: r, k => by rw [idF, List.length_cons, idF_len, List.length_cons]
theorem idF_snoc {x : Nat} : ∀ {f : List Nat} {k : Nat}, idF k (f ++ [x]) = idF k f ++ [(ik x, .int (k + f.length : Nat))]
  | [], k => rfl
  | y :: r, k => by
    rw [List.cons_append, idF, idF, idF_snoc, List.cons_append, List.length_cons, show k + 1 + r.length = k + (r.length + 1) by omega]
theorem idF_none {x : Nat} : ∀ {f : List Nat} {k : Nat}, x ∉ f → valV (idF k f) (ik x) = none
  | [], _, _ => rfl
  | y :: r, k, h => by
    have hy : ¬ ik y = ik x := fun z => h (by rw [ik_inj z]; exact List.mem_cons_self)
    rw [idF, valV_neg (p := (ik y, V.int (k : Nat))) hy]
    exact idF_none fun z => h (List.mem_cons_of_mem _ z)
theorem idF_some {x : Nat} : ∀ {f : List Nat} {k i : Nat}, f.Nodup → f[i]? = some x → valV (idF k f) (ik x) = some (.int (k + i : Nat))
  | [], _, _, _, h => by simp at h
  | y :: r, k, 0, _, h => by
    cases h
    rw [idF, valV_pos (p := (ik x, V.int (k : Nat))) rfl]
    rfl
  | y :: r, k, i + 1, nd, h => by
    have hm : r[i]? = some x := h
    obtain ⟨h1, h2⟩ := List.nodup_cons.mp nd
    have hy : ¬ ik y = ik x := fun z => h1 (by rw [ik_inj z]; exact List.mem_of_getElem? hm)
    rw [idF, valV_neg (p := (ik y, V.int (k : Nat))) hy, idF_some h2 hm, show k + 1 + i = k + (i + 1) by omega]
theorem idT_put {x : Nat} {f : List Nat} (h : x ∉ f) : putK (idT f) (ik x) (.int (f.length : Nat)) = idT (f ++ [x]) := by
  rw [putK_new _ (idF_none h), idT, idF_snoc, Nat.zero_add]
end Lf

set_option Elab.async false
set_option linter.all false
set_option maxRecDepth 100000
set_option maxHeartbeats 8000000
namespace K69
open PySem PySem.Spec PyProof.Rows L2 Lf Hop
abbrev dkT (L : List Nat) : List (Key × V) := L.map fun s => (ik s, V.bl true)
theorem dkT_none {x : Nat} : ∀ {L : List Nat}, x ∉ L → valV (dkT L) (ik x) = none
  | [], _ => rfl
  | y :: r, h => by
    show valV ((ik y, V.bl true) :: dkT r) _ = none
    rw [valV_neg fun z => h (by rw [ik_inj z]; exact List.mem_cons_self)]
    exact dkT_none fun z => h (List.mem_cons_of_mem _ z)
theorem dkT_some {x : Nat} : ∀ {L : List Nat}, x ∈ L → valV (dkT L) (ik x) = some (.bl true)
  | [], h => nomatch h
  | y :: r, h => by
    show valV ((ik y, V.bl true) :: dkT r) _ = _
    by_cases e : y = x
    · subst e
      exact valV_pos (p := (ik y, V.bl true)) rfl
    · rw [valV_neg fun z => e (ik_inj z)]
      exact dkT_some ((List.mem_cons.mp h).resolve_left fun z => e z.symm)
theorem dkT_put {x : Nat} {L : List Nat} (h : x ∉ L) : putK (dkT L) (ik x) (.bl true) = dkT (L ++ [x]) := by
  rw [putK_new _ (dkT_none h)]
  show _ = (L ++ [x]).map _
  rw [List.map_append]
  rfl
theorem dkT_drop {x : Nat} {L : List Nat} : dropK (dkT L) (ik x) = dkT (L.filter fun s => decide (s ≠ x)) := by
  unfold dropK dkT
  induction L with
  | nil => rfl
  | cons a L ih =>
    rw [List.map_cons, List.filter_cons, List.filter_cons]
    by_cases z : a = x
    · subst z
      rw [if_neg (by simp), if_neg (by simp)]
      exact ih
    · rw [if_pos (by simp; exact fun y => z (ik_inj y)), if_pos (by simp [z]), List.map_cons, ih]
/-- the Blocks at x -/
structure BkO (K : PySem.W.Frag) (H : Hp) (x pb pm pw pi : Addr) (ds : List Addr) (blk : List Nat) (mem : List (List Nat)) (wait : List Nat) (isw : List Bool) : Prop where
  ob : ∃ dx, H x = some (.ins (He.ga K "Blocks") dx [("block_of", .ref pb), ("members", .ref pm), ("waiting", .ref pw), ("_is_waiting", .ref pi)])
  b : H pb = some (.lst (blk.map nv))
  m : H pm = some (.lst (ds.map V.ref))
  ml : ds.length = mem.length
  md : ∀ (j : Nat) d L, ds[j]? = some d → mem[j]? = some L → H d = some (.dK (dkT L))
  nd : ds.Nodup
  w : H pw = some (.lst (wait.map nv))
  i : H pi = some (.lst (isw.map V.bl))
  n1 : pb ≠ pm
  n2 : pb ≠ pw
  n3 : pb ≠ pi
  n4 : pm ≠ pw
  n5 : pm ≠ pi
  n6 : pw ≠ pi
/-- truth values by their place -/
def bF : Nat → List Bool → List (Bool × V)
  | _, [] => []
  | k, x :: r => (x, nv k) :: bF (k + 1) r
theorem bF_len : ∀ {f : List Bool} {k : Nat}, (bF k f).length = f.length
  | [], _ => rfl
  | x :: r, k => by rw [bF, List.length_cons, bF_len, List.length_cons]
theorem bF_snoc {x : Bool} : ∀ {f : List Bool} {k : Nat}, bF k (f ++ [x]) = bF k f ++ [(x, nv (k + f.length))]
  | [], k => rfl
  | y :: r, k => by rw [List.cons_append, bF, bF, bF_snoc, List.cons_append, List.length_cons, show k + 1 + r.length = k + (r.length + 1) by omega]
theorem bF_none {x : Bool} : ∀ {f : List Bool} {k : Nat}, x ∉ f → valV (bF k f) x = none
  | [], _, _ => rfl
  | y :: r, k, h => by
    have hy : ¬ y = x := fun z => h (by rw [z]; exact List.mem_cons_self)
    rw [bF, valV_neg (p := (y, nv k)) hy]
    exact bF_none fun z => h (List.mem_cons_of_mem _ z)
theorem bF_some {x : Bool} : ∀ {f : List Bool} {k i : Nat}, f.Nodup → f[i]? = some x → valV (bF k f) x = some (nv (k + i))
  | [], _, _, _, h => by simp at h
  | y :: r, k, 0, _, h => by
    cases h
    rw [bF, valV_pos (p := (x, nv k)) rfl]
    rfl
  | y :: r, k, i + 1, nd, h => by
    have hm : r[i]? = some x := h
    obtain ⟨h1, h2⟩ := List.nodup_cons.mp nd
    have hy : ¬ y = x := fun z => h1 (by rw [z]; exact List.mem_of_getElem? hm)
    rw [bF, valV_neg (p := (y, nv k)) hy, bF_some h2 hm, show k + 1 + i = k + (i + 1) by omega]
/-- marks numbered as they come -/
structure Num (ms bs : List Bool) (blk : List Nat) : Prop where
  nd : bs.Nodup
  len : blk.length = ms.length
  at_ : ∀ (s : Nat) m, ms[s]? = some m → ∃ j : Nat, blk[s]? = some j ∧ bs[j]? = some m
  on : ∀ j : Nat, j < bs.length → ∃ s : Nat, blk[s]? = some j
  few : bs.length ≤ ms.length
theorem Num.old {ms bs : List Bool} {blk : List Nat} (N : Num ms bs blk) {m : Bool} {j : Nat} (hj : bs[j]? = some m) : Num (ms ++ [m]) bs (blk ++ [j]) where
  nd := N.nd
  len := by rw [List.length_append, List.length_append, N.len]; rfl
  at_ := fun s x h => by
    by_cases z : s < ms.length
    · rw [List.getElem?_append_left z] at h
      rw [List.getElem?_append_left (by rw [N.len]; exact z)]
      exact N.at_ s x h
    · have := (List.getElem?_eq_some_iff.mp h).1
      rw [List.length_append, List.length_singleton] at this
      have e : s = ms.length := by omega
      subst e
      rw [List.getElem?_append_right (Nat.le_refl _), Nat.sub_self] at h
      cases h
      exact ⟨j, by rw [← N.len, List.getElem?_append_right (Nat.le_refl _), Nat.sub_self]; rfl, hj⟩
  on := fun i hi => by
    obtain ⟨s, hs⟩ := N.on i hi
    exact ⟨s, by rw [List.getElem?_append_left (List.getElem?_eq_some_iff.mp hs).1]; exact hs⟩
  few := by rw [List.length_append]; have := N.few; omega
theorem Num.new {ms bs : List Bool} {blk : List Nat} (N : Num ms bs blk) {m : Bool} (hm : m ∉ bs) : Num (ms ++ [m]) (bs ++ [m]) (blk ++ [bs.length]) where
  nd := by
    rw [List.nodup_append]
    refine ⟨N.nd, by simp, fun x hx y hy => ?_⟩
    rw [List.mem_singleton.mp hy]
    exact fun z => hm (by rw [← z]; exact hx)
  len := by rw [List.length_append, List.length_append, N.len]; rfl
  at_ := fun s x h => by
    by_cases z : s < ms.length
    · rw [List.getElem?_append_left z] at h
      rw [List.getElem?_append_left (by rw [N.len]; exact z)]
      obtain ⟨j, h1, h2⟩ := N.at_ s x h
      exact ⟨j, h1, by rw [List.getElem?_append_left (List.getElem?_eq_some_iff.mp h2).1]; exact h2⟩
    · have := (List.getElem?_eq_some_iff.mp h).1
      rw [List.length_append, List.length_singleton] at this
      have e : s = ms.length := by omega
      subst e
      rw [List.getElem?_append_right (Nat.le_refl _), Nat.sub_self] at h
      cases h
      exact ⟨bs.length, by rw [← N.len, List.getElem?_append_right (Nat.le_refl _), Nat.sub_self]; rfl, by rw [List.getElem?_append_right (Nat.le_refl _), Nat.sub_self]; rfl⟩
  on := fun i hi => by
    rw [List.length_append, List.length_singleton] at hi
    by_cases z : i < bs.length
    · obtain ⟨s, hs⟩ := N.on i z
      exact ⟨s, by rw [List.getElem?_append_left (List.getElem?_eq_some_iff.mp hs).1]; exact hs⟩
    · exact ⟨blk.length, by rw [List.getElem?_append_right (Nat.le_refl _), Nat.sub_self]; show some _ = some _; congr 1; omega⟩
  few := by rw [List.length_append, List.length_append]; have := N.few; simp; omega
/-- the members of block j among the first i states -/
def mem0 (blk : List Nat) (i j : Nat) : List Nat := (List.range i).filter fun s => decide (bo blk s = j)
theorem mem0_step {blk : List Nat} {i j : Nat} : mem0 blk (i + 1) j = if bo blk i = j then mem0 blk i j ++ [i] else mem0 blk i j := by
  unfold mem0
  rw [List.range_succ, List.filter_append, List.filter_cons]
  by_cases z : bo blk i = j
  · rw [if_pos (decide_eq_true z), if_pos z]
    rfl
  · rw [if_neg (by rw [decide_eq_true_iff]; exact z), if_neg z]
    simp
theorem mem0_lt {blk : List Nat} {i j : Nat} : i ∉ mem0 blk i j := fun z => by
  have := List.mem_range.mp (List.mem_filter.mp z).1
  omega
theorem Num.bk {ms bs : List Bool} {blk : List Nat} (N : Num ms bs blk) : Bk ms.length blk ((List.range bs.length).map (mem0 blk ms.length)) (List.range bs.length) (List.replicate bs.length true) := by
  have lt : ∀ (s b : Nat), blk[s]? = some b → b < bs.length := fun s b h => by
    have sl := (List.getElem?_eq_some_iff.mp h).1
    obtain ⟨m, hm⟩ := lt_get (show s < ms.length by rw [← N.len]; exact sl)
    obtain ⟨j, h1, h2⟩ := N.at_ s m hm
    rw [h] at h1
    cases h1
    exact (List.getElem?_eq_some_iff.mp h2).1
  refine ⟨N.len, fun b L hb => ?_, fun s b h => by rw [List.length_map, List.length_range]; exact lt s b h, by rw [List.length_replicate, List.length_map, List.length_range], fun b => ?_, List.nodup_range⟩
  · have bl : b < bs.length := by
      have := (List.getElem?_eq_some_iff.mp hb).1
      rw [List.length_map, List.length_range] at this
      exact this
    rw [List.getElem?_map, List.getElem?_range bl] at hb
    cases hb
    have key : ∀ s, s ∈ mem0 blk ms.length b ↔ blk[s]? = some b := fun s => by
      unfold mem0
      rw [List.mem_filter, List.mem_range, decide_eq_true_iff]
      constructor
      · rintro ⟨h1, h2⟩
        rw [at_bo (by rw [N.len]; exact h1), h2]
      · intro h
        exact ⟨by rw [← N.len]; exact (List.getElem?_eq_some_iff.mp h).1, bo_at h⟩
    refine ⟨fun z => ?_, List.nodup_range.filter _, key⟩
    obtain ⟨s, hs⟩ := N.on b bl
    have := (key s).mpr hs
    rw [z] at this
    cases this
  · rw [List.getElem?_replicate, List.mem_range]
    constructor
    · intro h
      split at h
      · assumption
      · cases h
    · intro h
      rw [if_pos h]
theorem Num.marks {ms bs : List Bool} {blk : List Nat} (N : Num ms bs blk) {s t : Nat} {m m' : Bool} (hs : ms[s]? = some m) (ht : ms[t]? = some m') : bo blk s = bo blk t ↔ m = m' := by
  obtain ⟨i, a1, a2⟩ := N.at_ s m hs
  obtain ⟨j, b1, b2⟩ := N.at_ t m' ht
  rw [bo_at a1, bo_at b1]
  constructor
  · rintro rfl
    rw [a2] at b2
    exact Option.some.inj b2
  · rintro rfl
    exact Mon.nodup_at N.nd a2 b2
/-- of a heap one list alone -/
def onlyL (p : Addr) (xs : List V) : Hp := fun b => if b = p then some (.lst xs) else none
theorem onlyL_at {p : Addr} {xs : List V} : onlyL p xs p = some (.lst xs) := if_pos rfl
theorem onlyL_same {p : Addr} {xs : List V} {H : Hp} (h : H p = some (.lst xs)) : Same (onlyL p xs) H := fun b o e => by
  unfold onlyL at e
  by_cases z : b = p
  · subst z
    rw [if_pos rfl] at e
    cases e
    exact h
  · rw [if_neg z] at e
    cases e
theorem mem0_few {blk : List Nat} {i j : Nat} : (mem0 blk i j).length ≤ i := by
  unfold mem0
  have := List.length_filter_le (fun s => decide (bo blk s = j)) (List.range i)
  rw [List.length_range] at this
  exact this
def spBi (K : PySem.W.Frag) : Sp := fun vs H Q _ => ∃ (p a dx : Addr) (ms : List Bool), vs = [.ref p, .ref a] ∧ H p = some (.ins (He.ga K "Blocks") dx []) ∧ H a = some (.lst (ms.map V.bl)) ∧ ms.length ≤ 600 ∧
  ∀ pb pm pw pi ds blk bs H', But p H H' → (H pb = none ∧ H pm = none ∧ H pw = none ∧ H pi = none ∧ ∀ d ∈ ds, H d = none) → Num ms bs blk → BkO K H' p pb pm pw pi ds blk ((List.range bs.length).map (mem0 blk ms.length)) (List.range bs.length) (List.replicate bs.length true) → Q .non H'
abbrev NBi : List Str := ["self", "marks", "numbers", "mark", "state", "block", "_"]
section
variable {P : Program} {w : World} {K : PySem.W.Frag} {mg : Str → Option Value} {base : Heap}
theorem scBi : FnScope NBi ["self", "marks"] (defScope s_Blocks_init) := ⟨rfl, rfl, rfl, by decide +kernel, rfl, by decide +kernel, by decide +kernel⟩
theorem ok_bi {f : Addr} {fd : FuncData} {q : Str} (F : FunD K "__init__" q (defArgs s_Blocks_init) (defBody s_Blocks_init) (defScope s_Blocks_init) [] [] f fd) (T : Txt P w K mg base) :
    FnOk P w K mg base CX0 1 f fd ["self", "marks"] (spBi K) := by
  have zE : mg "enumerate" = none := T.fr 56 "enumerate" rfl
  have zn : mg "len" = none := T.fr 59 "len" rfl
  have zl : mg "list" = none := T.fr 60 "list" rfl
  have zr : mg "range" = none := T.fr 63 "range" rfl
  have cb : L2.Cls K (He.ga K "Blocks") := He.cls_ok (T.d.fact 78 (f := .cls "Blocks") rfl)
  have n1 : NoAttr K (He.ga K "Blocks") "block_of" := He.noat_ok (T.d.fact 82 (f := .noat "Blocks" "block_of") rfl)
  have n2 : NoAttr K (He.ga K "Blocks") "members" := He.noat_ok (T.d.fact 83 (f := .noat "Blocks" "members") rfl)
  have n3 : NoAttr K (He.ga K "Blocks") "waiting" := He.noat_ok (T.d.fact 84 (f := .noat "Blocks" "waiting") rfl)
  have n4 : NoAttr K (He.ga K "Blocks") "_is_waiting" := He.noat_ok (T.d.fact 85 (f := .noat "Blocks" "_is_waiting") rfl)
  refine F.ok scBi (fun vs H Q E h => ?_) (fun cdv A outer s H vs Q E hr h => ?_)
  · obtain ⟨p, a, dx, ms, rfl, _⟩ := h
    rfl
  · obtain ⟨p, a, dx, ms, rfl, hp, ha, l6, k⟩ := h
    have hu : (A.deeper (envOfC q (defScope s_Blocks_init) s.heap.objs.size f cdv)).units + 1 < cLine := by have := hr.units; omega
    refine ⟨_, PSs.nox (pss_cons (ps_set (i := 2) scBi.nd rfl (.inl rfl) pe_dnewB)
      (pss_cons (ps_fld (pv 0) (pe_lst pa_nil) rfl)
      (pss_cons (ps_for PassesOwn.never rfl (pi_list (pv 1)) (pg_name (i := 3) scBi.nd rfl (.inl rfl))
        (pss_one (ps_expr (pe_bm PySem.F.plainAttrs_list PySem.F.slot_list_append PySem.F.type_list_append mt_append (pe_fld (pv 0) rfl) (pa_cons (pe_dsetdB (pv 2) (pv 3) (pe_callB cr_lenB rfl zn boot_len (pa_cons (pv 2) pa_nil)) ⟨rfl, rfl, rfl, rfl⟩) pa_nil)))))
      (pss_cons (ps_fld (pv 0) (pe_lock (pe_lc (own := [("_", 6)]) (g := gName 6) (te := tDNewK) (by rfl) scBi.nd (pi_keysB (pv 2)) (blkOk_by (own := [("_", 6)]) (N := NBi) (sc := defScope s_Blocks_init) (by decide +kernel)) (fun _ _ _ _ _ => pg_name (i := 6) scBi.nd rfl (Or.inl rfl)) (fun _ _ _ _ _ => pts_nil) (fun _ _ _ _ _ => pe_dnewK))) rfl)
      (pss_cons (ps_for PassesOwn.never rfl (pi_enumA rfl zE (pe_fld (pv 0) rfl)) (pg_tup rfl (pgs_cons (pg_name (i := 4) scBi.nd rfl (.inl rfl)) (pgs_cons (pg_name (i := 5) scBi.nd rfl (.inl rfl)) pgs_nil)))
        (pss_one (ps_dput hu (pe_ix ix_list (pe_fld (pv 0) rfl) (pv 5) (fun _ _ => rfl)) (pv 4) pe_bl rfl)))
      (pss_cons (ps_fld (pv 0) (pe_listRg rfl rfl zl (prg_1 rfl zr (pe_callB cr_lenB rfl zn boot_len (pa_cons (pv 2) pa_nil)))) rfl)
      (pss_one (ps_fld (pv 0) (pe_op op_rep (pe_lst (pa_cons pe_bl pa_nil)) (pe_callB cr_lenB rfl zn boot_len (pa_cons (pv 2) pa_nil))) rfl)))))))), ?_⟩
    intro pn npn
    have pnp : pn ≠ p := fun z => by rw [z, hp] at npn; cases npn
    have s1 := same_upd (o := DB P w pn []) npn
    have hn1 : L2.upd H pn (DB P w pn []) pn = some (DB P w pn []) := upd_same
    show tSeq _ _ _ _ (L2.upd H pn (DB P w pn []))
    generalize L2.upd H pn (DB P w pn []) = H1 at s1 hn1 ⊢
    dsimp only
    refine ⟨(by show 0 ≤ sizeLine; decide), fun pb npb => ⟨_, rfl, p, _, dx, [], rfl, ?_, cb, n1, (by show 0 < 1000; decide), ?_⟩⟩
    · exact same_upd npb _ _ (s1 _ _ hp)
    have npbH : H pb = none := nil_of s1 npb
    have pbp : pb ≠ p := fun z => by rw [z, s1 _ _ hp] at npb; cases npb
    have pbn : pb ≠ pn := fun z => by rw [z, hn1] at npb; cases npb
    have hp3 : L2.upd (L2.upd H1 pb (.lst [])) p (.ins (He.ga K "Blocks") dx [("block_of", .ref pb)]) p = some (.ins (He.ga K "Blocks") dx [("block_of", .ref pb)]) := upd_same
    have hb3 : L2.upd (L2.upd H1 pb (.lst [])) p (.ins (He.ga K "Blocks") dx [("block_of", .ref pb)]) pb = some (.lst (([] : List Nat).map nv)) := by rw [upd_ne pbp, upd_same]; rfl
    have hn3 : L2.upd (L2.upd H1 pb (.lst [])) p (.ins (He.ga K "Blocks") dx [("block_of", .ref pb)]) pn = some (DB P w pn (bF 0 [])) := by rw [upd_ne pnp, upd_ne pbn.symm]; exact hn1
    have b3 : But p H (L2.upd (L2.upd H1 pb (.lst [])) p (.ins (He.ga K "Blocks") dx [("block_of", .ref pb)])) := fun c o h1 h2 => by rw [upd_ne h1, upd_ne (ne_of_none h2 npbH)]; exact s1 _ _ h2
    dsimp only
    show tSeq _ _ _ _ (L2.upd (L2.upd H1 pb (.lst [])) p (.ins (He.ga K "Blocks") dx [("block_of", .ref pb)]))
    generalize L2.upd (L2.upd H1 pb (.lst [])) p (.ins (He.ga K "Blocks") dx [("block_of", .ref pb)]) = H3 at hp3 hb3 hn3 b3 ⊢
    clear npb hn1 s1
    have anp : a ≠ p := fun z => by rw [z, hp] at ha; cases ha
    refine ⟨_, rfl, a, rfl, ⟨_, SqL.of (b3 _ _ anp ha)⟩, ?_⟩
    refine for_list (K := K) (a := a) (xs := ms.map V.bl) (fun i σ H' => ∃ (v3 : Option V) (bs : List Bool) (blk : List Nat), σ = [some (.ref p), some (.ref a), some (.ref pn), v3, none, none, none] ∧ But p H H' ∧ H' p = some (.ins (He.ga K "Blocks") dx [("block_of", .ref pb)]) ∧ H' pb = some (.lst (blk.map nv)) ∧ H' pn = some (DB P w pn (bF 0 bs)) ∧ Num (ms.take i) bs blk)
      ⟨none, [], [], rfl, b3, hp3, hb3, hn3, ⟨List.nodup_nil, by simp, fun s m h => by simp at h, fun j h => by simp at h, Nat.zero_le _⟩⟩ (fun i σ H' _ ⟨_, _, _, _, b, _⟩ => SqL.of (b _ _ anp ha)) ?_ ?_
    · rintro i y σ H' hy ⟨v3, bs, blk, rfl, b', hp', hb', hn', N⟩
      obtain ⟨m, hm, rfl⟩ := map_get hy
      have il := get_lt hm
      have lb := N.len
      rw [List.length_take] at lb
      have fw := N.few
      rw [List.length_take] at fw
      have tk1 : ms.take (i + 1) = ms.take i ++ [m] := take_snoc hm
      refine ⟨_, rfl, p, _, dx, _, _, rfl, hp', cb, n1, rfl, .inl ⟨rfl, _, SqL.of hb'⟩, _, rfl, ⟨pn, _, rfl, hn'⟩, _, rfl, _, rfl, pn, _, rfl, hn', pn, bF 0 bs, m, rfl, hn', rfl, by rw [bF_len]; show bs.length < 16777216; omega, fun v hv => ?_, fun hnone => ?_⟩
      · have mb : m ∈ bs := Decidable.byContradiction fun z => by rw [bF_none z] at hv; cases hv
        obtain ⟨j, hj⟩ := List.getElem?_of_mem mb
        rw [bF_some N.nd hj, Nat.zero_add] at hv
        cases hv
        refine ⟨pb, _, _, rfl, rfl, hb', by rw [List.length_map]; show blk.length < 16777216; omega, ?_⟩
        refine ⟨_, bs, blk ++ [j], rfl, fun c o h1 h2 => by rw [upd_ne (ne_of_none h2 npbH)]; exact b' _ _ h1 h2, by rw [upd_ne pbp.symm]; exact hp', by rw [upd_same, List.map_append]; rfl, by rw [upd_ne pbn.symm]; exact hn', by rw [tk1]; exact N.old hj⟩
      · have mb : m ∉ bs := fun z => by
          obtain ⟨j, hj⟩ := List.getElem?_of_mem z
          rw [bF_some N.nd hj] at hnone
          cases hnone
        rw [putK_new _ hnone, bF_len]
        refine ⟨pb, _, _, rfl, rfl, by rw [upd_ne pbn]; exact hb', by rw [List.length_map]; show blk.length < 16777216; omega, ?_⟩
        refine ⟨_, bs ++ [m], blk ++ [bs.length], rfl, fun c o h1 h2 => by rw [upd_ne (ne_of_none h2 npbH), upd_ne (ne_of_none h2 npn)]; exact b' _ _ h1 h2, by rw [upd_ne pbp.symm, upd_ne pnp.symm]; exact hp', by rw [upd_same, List.map_append]; rfl, by rw [upd_ne pbn.symm, upd_same, bF_snoc, Nat.zero_add]; rfl, by rw [tk1]; exact N.new mb⟩
    · rintro σ H4 ⟨v3, bs, blk, rfl, b4, hp4, hb4, hn4, N⟩
      rw [List.length_map, List.take_length] at N
      have fw := N.few
      refine ⟨pn, _, hn4, True.intro, fun od => ?_⟩
      refine ⟨_, rfl, pn, od, bF 0 bs, rfl, upd_same, fun D nD => ?_⟩
      have Dn : D ≠ pn := fun z => by rw [z, upd_same] at nD; cases nD
      have nD4 : H4 D = none := by rw [upd_ne Dn] at nD; exact nD
      have Dp : D ≠ p := fun z => by rw [z, hp4] at nD4; cases nD4
      have Db : D ≠ pb := fun z => by rw [z, hb4] at nD4; cases nD4
      refine lc_it walk_keysB (fun i Hc => Hc pn = some (.frz od (DB P w pn (bF 0 bs))) ∧ (∀ b o, b ≠ D → b ≠ pn → H4 b = some o → Hc b = some o) ∧ ∃ ds : List Addr, ds.length = i ∧ Hc D = some (.lst (ds.map V.ref)) ∧ ds.Nodup ∧ ∀ d ∈ ds, Hc d = some (.dK []) ∧ H4 d = none)
        ⟨by rw [upd_ne Dn.symm]; exact upd_same, fun b o h1 h2 h3 => by rw [upd_ne h1, upd_ne h2]; exact h3, [], rfl, upd_same, List.nodup_nil, fun d h => nomatch h⟩ (fun i Hc _ h => h.1) ?_ ?_
      · rintro i x Hc H' hi ⟨g1, g2, ds, g3, g4, g5, g6⟩ ⟨rfl, kk, vv, hk, rfl⟩
        rw [bF_len] at hi
        refine ⟨rfl, yesT ?_⟩
        intro d nd0
        have dD : d ≠ D := fun z => by rw [z, g4] at nd0; cases nd0
        have dn : d ≠ pn := fun z => by rw [z, g1] at nd0; cases nd0
        have d4 : H4 d = none := by
          cases e : H4 d with
          | none => rfl
          | some o => rw [g2 _ _ dD dn e] at nd0; cases nd0
        refine ⟨_, by rw [upd_ne dD.symm]; exact g4, by rw [List.length_map, g3]; show i < 16777216; omega, by rw [upd_ne Dn.symm, upd_ne dn.symm]; exact g1, fun b o h1 h2 h3 => by rw [upd_ne h1, upd_ne (ne_of_none h3 d4)]; exact g2 b o h1 h2 h3, ds ++ [d], by rw [List.length_append, g3]; rfl, by rw [upd_same, List.map_append]; rfl, ?_, fun e he => ?_⟩
        · rw [List.nodup_append]
          refine ⟨g5, by simp, fun x hx y hy => ?_⟩
          rw [List.mem_singleton.mp hy]
          intro z
          have := (g6 x hx).1
          rw [z, nd0] at this
          cases this
        · rcases List.mem_append.mp he with he | he
          · obtain ⟨q1, q2⟩ := g6 e he
            refine ⟨?_, q2⟩
            rw [upd_ne (fun z => by rw [z, g4] at q1; cases q1), upd_ne (fun z => by rw [z, nd0] at q1; cases q1)]
            exact q1
          · rw [List.mem_singleton.mp he]
            exact ⟨by rw [upd_ne dD, upd_same], d4⟩
      · rintro Hc ⟨g1, g2, ds, g3, g4, g5, g6⟩
        rw [bF_len] at g3
        refine ⟨g1, ?_⟩
        have hp5 : L2.upd Hc pn (DB P w pn (bF 0 bs)) p = some (.ins (He.ga K "Blocks") dx [("block_of", .ref pb)]) := by rw [upd_ne pnp.symm]; exact g2 _ _ Dp.symm pnp.symm hp4
        have hb5 : L2.upd Hc pn (DB P w pn (bF 0 bs)) pb = some (.lst (blk.map nv)) := by rw [upd_ne pbn]; exact g2 _ _ Db.symm pbn hb4
        have hn5 : L2.upd Hc pn (DB P w pn (bF 0 bs)) pn = some (DB P w pn (bF 0 bs)) := upd_same
        have hm5 : L2.upd Hc pn (DB P w pn (bF 0 bs)) D = some (.lst (ds.map V.ref)) := by rw [upd_ne Dn]; exact g4
        have hd5 : ∀ d ∈ ds, L2.upd Hc pn (DB P w pn (bF 0 bs)) d = some (.dK []) := fun d hd => by rw [upd_ne (fun z => by have := (g6 d hd).1; rw [z, g1] at this; cases this)]; exact (g6 d hd).1
        have DH : H D = none := by
          cases e : H D with
          | none => rfl
          | some o => rw [b4 _ _ Dp e] at nD4; cases nD4
        have dH : ∀ d ∈ ds, H d = none := fun d hd => by
          have h4 := (g6 d hd).2
          cases e : H d with
          | none => rfl
          | some o => rw [b4 _ _ (fun z => by rw [z, hp4] at h4; cases h4) e] at h4; cases h4
        have b5 : But p H (L2.upd Hc pn (DB P w pn (bF 0 bs))) := fun c o h1 h2 => by
          rw [upd_ne (ne_of_none h2 npn)]
          exact g2 _ _ (ne_of_none h2 DH) (ne_of_none h2 npn) (b4 _ _ h1 h2)
        generalize L2.upd Hc pn (DB P w pn (bF 0 bs)) = H5 at hp5 hb5 hn5 hm5 hd5 b5 ⊢
        clear g1 g2 g4 nD nD4 hp4 hb4 hn4 b4 g6
        refine ⟨_, rfl, p, _, dx, _, rfl, hp5, cb, n2, (by show 1 < 1000; decide), ?_⟩
        have dp : ∀ d ∈ ds, d ≠ p := fun d hd z => by have := hd5 d hd; rw [z, hp5] at this; cases this
        have dD : ∀ d ∈ ds, d ≠ D := fun d hd z => by have := hd5 d hd; rw [z, hm5] at this; cases this
        have dpb : ∀ d ∈ ds, d ≠ pb := fun d hd z => by have := hd5 d hd; rw [z, hb5] at this; cases this
        have dpn : ∀ d ∈ ds, d ≠ pn := fun d hd z => by have := hd5 d hd; rw [z, hn5] at this; cases this
        have hp6 : L2.upd H5 p (.ins (He.ga K "Blocks") dx [("block_of", .ref pb), ("members", .ref D)]) p = some (.ins (He.ga K "Blocks") dx [("block_of", .ref pb), ("members", .ref D)]) := upd_same
        have hb6 : L2.upd H5 p (.ins (He.ga K "Blocks") dx [("block_of", .ref pb), ("members", .ref D)]) pb = some (.lst (blk.map nv)) := by rw [upd_ne pbp]; exact hb5
        have hn6 : L2.upd H5 p (.ins (He.ga K "Blocks") dx [("block_of", .ref pb), ("members", .ref D)]) pn = some (DB P w pn (bF 0 bs)) := by rw [upd_ne pnp]; exact hn5
        have hm6 : L2.upd H5 p (.ins (He.ga K "Blocks") dx [("block_of", .ref pb), ("members", .ref D)]) D = some (.lst (ds.map V.ref)) := by rw [upd_ne Dp]; exact hm5
        have hd6 : ∀ d ∈ ds, L2.upd H5 p (.ins (He.ga K "Blocks") dx [("block_of", .ref pb), ("members", .ref D)]) d = some (.dK []) := fun d hd => by rw [upd_ne (dp d hd)]; exact hd5 d hd
        have b6 : But p H (L2.upd H5 p (.ins (He.ga K "Blocks") dx [("block_of", .ref pb), ("members", .ref D)])) := b5.trans But.upd
        dsimp only
        show tSeq _ _ _ _ (L2.upd H5 p (.ins (He.ga K "Blocks") dx [("block_of", .ref pb), ("members", .ref D)]))
        generalize L2.upd H5 p (.ins (He.ga K "Blocks") dx [("block_of", .ref pb), ("members", .ref D)]) = H6 at hp6 hb6 hn6 hm6 hd6 b6 ⊢
        clear hp5 hb5 hn5 hm5 hd5 b5
        refine ⟨_, rfl, p, _, dx, _, _, rfl, hp6, cb, n1, rfl, pb, blk.map nv, rfl, ?_⟩
        have lblk : blk.length = ms.length := N.len
        have blt : ∀ (i b : Nat), blk[i]? = some b → b < ds.length := fun i b h => by
          have il := (List.getElem?_eq_some_iff.mp h).1
          obtain ⟨m, hm⟩ := lt_get (show i < ms.length by omega)
          obtain ⟨j, h1, h2⟩ := N.at_ i m hm
          rw [h] at h1
          cases h1
          rw [g3]
          exact (List.getElem?_eq_some_iff.mp h2).1
        refine for_enum (K := K) (H0 := onlyL pb (blk.map nv)) (.inl (SqL.of onlyL_at)) (fun i σ' H' => ∃ v4 v5 : Option V, σ' = [some (.ref p), some (.ref a), some (.ref pn), v3, v4, v5, none] ∧ But p H H' ∧ H' p = some (.ins (He.ga K "Blocks") dx [("block_of", .ref pb), ("members", .ref D)]) ∧ H' pb = some (.lst (blk.map nv)) ∧ H' pn = some (DB P w pn (bF 0 bs)) ∧ H' D = some (.lst (ds.map V.ref)) ∧
          ∀ (j : Nat) d, ds[j]? = some d → H' d = some (.dK (dkT (mem0 blk i j)))) ⟨none, none, rfl, b6, hp6, hb6, hn6, hm6, fun j d h => hd6 d (List.mem_of_getElem? h)⟩ (fun i σ' H' _ ⟨_, _, _, _, _, h, _⟩ => onlyL_same h) ?_ ?_
        · rintro i y σ' H' ⟨v4, v5, rfl, b', hp', hb', hn', hm', hd'⟩ hy T0 nT0
          obtain ⟨j, hj, rfl⟩ := map_get hy
          obtain ⟨d, hdj⟩ := lt_get (blt i j hj)
          have il := get_lt hj
          refine ⟨T0, _, rfl, SqT.of upd_same, rfl, _, _, rfl, _, _, rfl, rfl, ?_⟩
          have u4 := same_upd (o := .tup [.int (i : Nat), nv j]) nT0
          have b7 := b'.trans (But.of u4)
          have hp7 := u4 _ _ hp'
          have hb7 := u4 _ _ hb'
          have hn7 := u4 _ _ hn'
          have hm7 := u4 _ _ hm'
          have hd7 : ∀ (j : Nat) d, ds[j]? = some d → L2.upd H' T0 (.tup [.int (i : Nat), nv (blk.getD i 0)]) d = some (.dK (dkT (mem0 blk i j))) := fun j' d' h => by
            have := hd' j' d' h
            rw [upd_ne (fun z => by rw [z, nT0] at this; cases this)]
            exact this
          rw [show blk.getD i 0 = j by rw [List.getD, hj]; rfl] at hd7
          generalize L2.upd H' T0 (.tup [.int (i : Nat), nv j]) = H7 at b7 hp7 hb7 hn7 hm7 hd7 ⊢
          clear b' hp' hb' hn' hm' hd' u4 nT0
          dsimp only
          have hdd := hd7 j d hdj
          have dm := List.mem_of_getElem? hdj
          refine ⟨_, rfl, p, _, dx, _, _, rfl, hp7, cb, n2, rfl, _, rfl, D, _, _, .ref d, rfl, rfl, SqL.of hm7, atI_nat (get_map hdj), _, rfl, d, _, rfl, DPut.k (k := ik i) hdd (by rw [List.length_map]; have := mem0_few (blk := blk) (i := i) (j := j); show (mem0 blk i j).length < 16777216; omega), ?_⟩
          rw [dkT_put mem0_lt]
          refine ⟨_, _, rfl, fun c o h1 h2 => by rw [upd_ne (ne_of_none h2 (dH d dm))]; exact b7 _ _ h1 h2, by rw [upd_ne (dp d dm).symm]; exact hp7, by rw [upd_ne (dpb d dm).symm]; exact hb7, by rw [upd_ne (dpn d dm).symm]; exact hn7, by rw [upd_ne (dD d dm).symm]; exact hm7, fun j' d' h => ?_⟩
          rw [mem0_step, bo_at hj]
          by_cases z : j = j'
          · subst z
            rw [hdj] at h
            cases h
            rw [if_pos rfl, upd_same]
          · rw [if_neg z, upd_ne (fun y => z (Mon.nodup_at g5 hdj (by rw [← y]; exact h)))]
            exact hd7 j' d' h
        · rintro σ' H7 ⟨v4, v5, rfl, b7, hp7, hb7, hn7, hm7, hd7⟩
          rw [List.length_map, lblk] at hd7
          have fbs : bs.length ≤ 600 := by omega
          refine ⟨_, rfl, pn, _, rfl, hn7, (bs.length : Nat), by rw [bF_len], ⟨by decide, by decide, by omega, by omega, by omega⟩, fun pw npw => ?_⟩
          rw [rgV_nv, show Mon.idm bs.length = List.range bs.length from rfl]
          have pwp : pw ≠ p := fun z => by rw [z, hp7] at npw; cases npw
          have pwb : pw ≠ pb := fun z => by rw [z, hb7] at npw; cases npw
          have pwD : pw ≠ D := fun z => by rw [z, hm7] at npw; cases npw
          have pwn : pw ≠ pn := fun z => by rw [z, hn7] at npw; cases npw
          have pwH : H pw = none := by
            cases e : H pw with
            | none => rfl
            | some o => rw [b7 _ _ pwp e] at npw; cases npw
          have u8 := same_upd (o := .lst ((List.range bs.length).map nv)) npw
          have hw8 : L2.upd H7 pw (.lst ((List.range bs.length).map nv)) pw = some (.lst ((List.range bs.length).map nv)) := upd_same
          have b8 := b7.trans (But.of u8)
          have hp8 := u8 _ _ hp7
          have hb8 := u8 _ _ hb7
          have hn8 := u8 _ _ hn7
          have hm8 := u8 _ _ hm7
          have hd8 : ∀ (j : Nat) d, ds[j]? = some d → L2.upd H7 pw (.lst ((List.range bs.length).map nv)) d = some (.dK (dkT (mem0 blk ms.length j))) := fun j d h => u8 _ _ (hd7 j d h)
          generalize L2.upd H7 pw (.lst ((List.range bs.length).map nv)) = H8 at hw8 b8 hp8 hb8 hn8 hm8 hd8 ⊢
          clear u8 npw b7 hp7 hb7 hn7 hm7 hd7
          have dpw : ∀ (j : Nat) d, ds[j]? = some d → d ≠ pw := fun j d h z => by
            have jl : j < bs.length := by rw [← g3]; exact get_lt h
            have := hd8 j d h
            rw [z, hw8] at this
            cases this
          refine ⟨_, rfl, p, _, dx, _, rfl, hp8, cb, n3, (by show 2 < 1000; decide), ?_⟩
          have hp9 : L2.upd H8 p (.ins (He.ga K "Blocks") dx [("block_of", .ref pb), ("members", .ref D), ("waiting", .ref pw)]) p = some (.ins (He.ga K "Blocks") dx [("block_of", .ref pb), ("members", .ref D), ("waiting", .ref pw)]) := upd_same
          have hb9 : L2.upd H8 p (.ins (He.ga K "Blocks") dx [("block_of", .ref pb), ("members", .ref D), ("waiting", .ref pw)]) pb = some (.lst (blk.map nv)) := by rw [upd_ne pbp]; exact hb8
          have hn9 : L2.upd H8 p (.ins (He.ga K "Blocks") dx [("block_of", .ref pb), ("members", .ref D), ("waiting", .ref pw)]) pn = some (DB P w pn (bF 0 bs)) := by rw [upd_ne pnp]; exact hn8
          have hm9 : L2.upd H8 p (.ins (He.ga K "Blocks") dx [("block_of", .ref pb), ("members", .ref D), ("waiting", .ref pw)]) D = some (.lst (ds.map V.ref)) := by rw [upd_ne Dp]; exact hm8
          have hw9 : L2.upd H8 p (.ins (He.ga K "Blocks") dx [("block_of", .ref pb), ("members", .ref D), ("waiting", .ref pw)]) pw = some (.lst ((List.range bs.length).map nv)) := by rw [upd_ne pwp]; exact hw8
          have hd9 : ∀ (j : Nat) d, ds[j]? = some d → L2.upd H8 p (.ins (He.ga K "Blocks") dx [("block_of", .ref pb), ("members", .ref D), ("waiting", .ref pw)]) d = some (.dK (dkT (mem0 blk ms.length j))) := fun j d h => by rw [upd_ne (dp d (List.mem_of_getElem? h))]; exact hd8 j d h
          have b9 := b8.trans (But.upd (l := p) (o := .ins (He.ga K "Blocks") dx [("block_of", .ref pb), ("members", .ref D), ("waiting", .ref pw)]))
          dsimp only
          show sFld _ _ _ _ _ _ (L2.upd H8 p (.ins (He.ga K "Blocks") dx [("block_of", .ref pb), ("members", .ref D), ("waiting", .ref pw)]))
          generalize L2.upd H8 p (.ins (He.ga K "Blocks") dx [("block_of", .ref pb), ("members", .ref D), ("waiting", .ref pw)]) = H9 at hp9 hb9 hn9 hm9 hw9 hd9 b9 ⊢
          clear hp8 hb8 hn8 hm8 hw8 hd8 b8
          refine ⟨(by show 1 ≤ sizeLine; decide), fun q0 nq0 => ⟨_, rfl, pn, _, rfl, same_upd nq0 _ _ hn9, q0, _, _, rfl, rfl, upd_same, by rw [bF_len]; omega, by rw [bF_len]; omega, by rw [bF_len, Int.toNat_natCast]; show 1 * bs.length ≤ 16777216; omega, fun pi npi => ?_⟩⟩
          rw [bF_len, Int.toNat_natCast, rep2]
          have u10 := (same_upd (o := .lst [V.bl true]) nq0).trans (same_upd (o := .lst (List.replicate bs.length (V.bl true))) npi)
          have hi10 : L2.upd (L2.upd H9 q0 (.lst [V.bl true])) pi (.lst (List.replicate bs.length (V.bl true))) pi = some (.lst ((List.replicate bs.length true).map V.bl)) := by rw [upd_same, List.map_replicate]
          have npi9 : H9 pi = none := nil_of (same_upd (o := .lst [V.bl true]) nq0) npi
          generalize L2.upd (L2.upd H9 q0 (.lst [V.bl true])) pi (.lst (List.replicate bs.length (V.bl true))) = H10 at u10 hi10 ⊢
          have pip : pi ≠ p := fun z => by rw [z, hp9] at npi9; cases npi9
          have pib : pi ≠ pb := fun z => by rw [z, hb9] at npi9; cases npi9
          have piD : pi ≠ D := fun z => by rw [z, hm9] at npi9; cases npi9
          have piw : pi ≠ pw := fun z => by rw [z, hw9] at npi9; cases npi9
          have piH : H pi = none := by
            cases e : H pi with
            | none => rfl
            | some o => rw [b9 _ _ pip e] at npi9; cases npi9
          refine ⟨_, rfl, p, _, dx, _, rfl, u10 _ _ hp9, cb, n4, (by show 3 < 1000; decide), ?_⟩
          refine k pb D pw pi ds blk bs _ (b9.trans ((But.of u10).trans But.upd)) ⟨npbH, DH, pwH, piH, dH⟩ N ⟨⟨dx, upd_same⟩, by rw [upd_ne pbp]; exact u10 _ _ hb9, by rw [upd_ne Dp]; exact u10 _ _ hm9, by rw [g3, List.length_map, List.length_range], fun j d L h1 h2 => ?_, g5, by rw [upd_ne pwp]; exact u10 _ _ hw9, by rw [upd_ne pip]; exact hi10, Db.symm, pwb.symm, pib.symm, pwD.symm, piD.symm, piw.symm⟩
          rw [List.getElem?_map, List.getElem?_range (by rw [← g3]; exact get_lt h1)] at h2
          cases h2
          rw [upd_ne (dp d (List.mem_of_getElem? h1))]
          exact u10 _ _ (hd9 j d h1)
end
end K69

set_option Elab.async false
set_option linter.all false
set_option maxRecDepth 100000
set_option maxHeartbeats 8000000
namespace K69
open PySem PySem.Spec PyProof.Rows L2 Lf Hop
/-- all but what a Blocks is made of -/
def ButB (pb pm pw pi : Addr) (ds : List Addr) (H H' : Hp) : Prop := ∀ b o, b ≠ pb → b ≠ pm → b ≠ pw → b ≠ pi → b ∉ ds → H b = some o → H' b = some o
theorem rest_snoc {L A : List Nat} {x : Nat} : (Hop.rest L A).filter (fun s => decide (s ≠ x)) = Hop.rest L (A ++ [x]) := by
  unfold Hop.rest
  rw [List.filter_filter]
  refine List.filter_congr fun s _ => ?_
  by_cases h1 : s = x <;> by_cases h2 : s ∈ A <;> simp [h1, h2]
  all_goals simp_all
theorem rest_nil {L : List Nat} : Hop.rest L [] = L := by
  unfold Hop.rest
  rw [List.filter_eq_self]
  intro a _
  simp
theorem move_snoc {blk A : List Nat} {x new : Nat} : move blk (A ++ [x]) new = (move blk A new).set x new := by
  unfold move
  rw [List.foldl_append]
  rfl
theorem nodup_take {T : List Nat} {i x : Nat} (nd : T.Nodup) (h : T[i]? = some x) : x ∉ T.take i := fun z => by
  obtain ⟨j, hj⟩ := List.getElem?_of_mem z
  have jl := (List.getElem?_eq_some_iff.mp hj).1
  rw [List.length_take] at jl
  rw [List.getElem?_take_of_lt (by omega)] at hj
  have := Mon.nodup_at nd hj h
  omega
def spTaken (K : PySem.W.Frag) : Sp := fun vs H Q _ => ∃ (x pb pm pw pi : Addr) (ds : List Addr) (n : Nat) (blk : List Nat) (mem : List (List Nat)) (wait : List Nat) (isw : List Bool) (X : Nat) (L : List Nat), vs = [.ref x] ∧ BkO K H x pb pm pw pi ds blk mem (wait ++ [X]) isw ∧ mem[X]? = some L ∧ X < isw.length ∧
  ∀ l H', ButB pb pm pw pi ds H H' → H l = none → BkO K H' x pb pm pw pi ds blk mem wait (isw.set X false) → H' l = some (.lst (L.map nv)) → Q (.ref l) H'
def spSet (K : PySem.W.Frag) : Sp := fun vs H Q _ => ∃ (x a pb pm pw pi : Addr) (ds : List Addr) (n : Nat) (blk : List Nat) (mem : List (List Nat)) (wait : List Nat) (isw : List Bool) (T L : List Nat) (old : Nat), vs = [.ref x, .ref a] ∧ BkO K H x pb pm pw pi ds blk mem wait isw ∧ Bk n blk mem wait isw ∧
  H a = some (.lst (T.map nv)) ∧ a ≠ pb ∧ a ≠ pm ∧ a ≠ pw ∧ a ≠ pi ∧ T ≠ [] ∧ T.Nodup ∧ mem[old]? = some L ∧ (∀ s ∈ T, s ∈ L) ∧ n ≤ 600 ∧
  (T.length = L.length → Q .non H) ∧
  (T.length ≠ L.length → ∀ least d H', ButB pb pm pw pi ds H H' → H d = none → (least = mem.length ∨ (least = old ∧ isw[old]? ≠ some true)) →
    BkO K H' x pb pm pw pi (ds ++ [d]) (move blk T mem.length) (mem.set old (Hop.rest L T) ++ [T]) (wait ++ [least]) ((isw ++ [false]).set least true) → Q .non H')
section
variable {P : Program} {w : World} {K : PySem.W.Frag} {mg : Str → Option Value} {base : Heap}
theorem scTk : FnScope ["self", "block"] ["self"] (defScope s_Blocks_taken) := ⟨rfl, rfl, rfl, by decide +kernel, rfl, by decide +kernel, by decide +kernel⟩
theorem ok_tk {f : Addr} {fd : FuncData} {q : Str} (F : FunD K "taken" q (defArgs s_Blocks_taken) (defBody s_Blocks_taken) (defScope s_Blocks_taken) [] [] f fd) (T : Txt P w K mg base) :
    FnOk P w K mg base CX0 1 f fd ["self"] (spTaken K) := by
  have zl : mg "list" = none := T.fr 60 "list" rfl
  have cb : L2.Cls K (He.ga K "Blocks") := He.cls_ok (T.d.fact 78 (f := .cls "Blocks") rfl)
  have n2 : NoAttr K (He.ga K "Blocks") "members" := He.noat_ok (T.d.fact 83 (f := .noat "Blocks" "members") rfl)
  have n3 : NoAttr K (He.ga K "Blocks") "waiting" := He.noat_ok (T.d.fact 84 (f := .noat "Blocks" "waiting") rfl)
  have n4 : NoAttr K (He.ga K "Blocks") "_is_waiting" := He.noat_ok (T.d.fact 85 (f := .noat "Blocks" "_is_waiting") rfl)
  refine F.ok scTk (fun vs H Q E h => ?_) (fun cdv A outer s H vs Q E hr h => ?_)
  · obtain ⟨x, pb, pm, pw, pi, ds, n, blk, mem, wait, isw, X, L, rfl, _⟩ := h
    rfl
  · obtain ⟨x, pb, pm, pw, pi, ds, n, blk, mem, wait, isw, X, L, rfl, B, hL, xl, k⟩ := h
    refine ⟨_, PSs.nox (pss_cons (ps_set (i := 1) scTk.nd rfl (.inl rfl) (pe_bm0 PySem.F.plainAttrs_list PySem.F.slot_list_pop PySem.F.type_list_pop mt_pop (pe_fld (pv 0) rfl)))
      (pss_cons (ps_asg pe_bl (pg_sub (pe_fld (pv 0) rfl) (pv 1) set_list))
      (pss_one (ps_ret (pe_callTy (call_list_dK rfl) rfl zl boot_list (pa_cons (pe_ix ix_list (pe_fld (pv 0) rfl) (pv 1) (fun _ _ => rfl)) pa_nil)))))), ?_⟩
    obtain ⟨dx, ho⟩ := B.ob
    have xw : x ≠ pw := fun z => by have := B.w; rw [← z, ho] at this; cases this
    have xi : x ≠ pi := fun z => by have := B.i; rw [← z, ho] at this; cases this
    refine ⟨_, rfl, x, _, dx, _, _, rfl, ho, cb, n3, rfl, .inl ⟨rfl, _, SqL.of B.w⟩, pw, _, nv X, rfl, rfl, B.w, by rw [List.length_map, List.length_append, List.length_singleton, List.map_append, Nat.add_sub_cancel, List.getElem?_append_right (by rw [List.length_map]; exact Nat.le_refl _), List.length_map, Nat.sub_self]; rfl, ?_⟩
    rw [show ((wait ++ [X]).map nv).dropLast = wait.map nv by rw [List.map_append]; exact List.dropLast_concat]
    have ho1 : L2.upd H pw (.lst (wait.map nv)) x = some (.ins (He.ga K "Blocks") dx [("block_of", .ref pb), ("members", .ref pm), ("waiting", .ref pw), ("_is_waiting", .ref pi)]) := by rw [upd_ne xw]; exact ho
    dsimp only
    refine ⟨_, rfl, x, _, dx, _, _, rfl, ho1, cb, n4, rfl, _, rfl, pi, _, _, X, rfl, rfl, by rw [upd_ne B.n6.symm]; exact B.i, by rw [List.length_map]; exact ixN_nat xl, ?_⟩
    rw [← show (isw.set X false).map V.bl = (isw.map V.bl).set X (.bl false) by rw [List.map_set]]
    obtain ⟨d, hd⟩ := lt_get (show X < ds.length by rw [B.ml]; exact get_lt hL)
    have hdd := B.md X d L hd hL
    have offL : ∀ {b : Addr} {o : HO}, b ≠ pw → b ≠ pi → H b = some o → L2.upd (L2.upd H pw (.lst (wait.map nv))) pi (.lst ((isw.set X false).map V.bl)) b = some o := fun {b o} h1 h2 h3 => by rw [upd_ne h2, upd_ne h1]; exact h3
    have dne : ∀ {j d L}, ds[j]? = some d → mem[j]? = some L → d ≠ pb ∧ d ≠ pm ∧ d ≠ pw ∧ d ≠ pi := fun {j d L} h1 h2 => by
      have := B.md j d L h1 h2
      exact ⟨(fun z => by rw [z, B.b] at this; cases this), (fun z => by rw [z, B.m] at this; cases this), (fun z => by rw [z, B.w] at this; cases this), (fun z => by rw [z, B.i] at this; cases this)⟩
    have B2 : BkO K (L2.upd (L2.upd H pw (.lst (wait.map nv))) pi (.lst ((isw.set X false).map V.bl))) x pb pm pw pi ds blk mem wait (isw.set X false) :=
      ⟨⟨dx, offL xw xi ho⟩, offL B.n2 B.n3 B.b, offL B.n4 B.n5 B.m, B.ml, fun j d L h1 h2 => offL (dne h1 h2).2.2.1 (dne h1 h2).2.2.2 (B.md j d L h1 h2), B.nd, by rw [upd_ne B.n6, upd_same], upd_same, B.n1, B.n2, B.n3, B.n4, B.n5, B.n6⟩
    have bb : ButB pb pm pw pi ds H (L2.upd (L2.upd H pw (.lst (wait.map nv))) pi (.lst ((isw.set X false).map V.bl))) := fun b o h1 h2 h3 h4 h5 h6 => offL h3 h4 h6
    dsimp only
    show tRet _ _ _ (L2.upd (L2.upd H pw (.lst (wait.map nv))) pi (.lst ((isw.set X false).map V.bl)))
    have nl0 : ∀ {l : Addr}, L2.upd (L2.upd H pw (.lst (wait.map nv))) pi (.lst ((isw.set X false).map V.bl)) l = none → H l = none := fun {l} h => by
      by_cases z1 : l = pi
      · rw [z1, upd_same] at h; cases h
      · rw [upd_ne z1] at h
        by_cases z2 : l = pw
        · rw [z2, upd_same] at h; cases h
        · rw [upd_ne z2] at h; exact h
    generalize L2.upd (L2.upd H pw (.lst (wait.map nv))) pi (.lst ((isw.set X false).map V.bl)) = H2 at B2 bb nl0 ⊢
    obtain ⟨dx2, ho2⟩ := B2.ob
    refine ⟨_, rfl, x, _, dx2, _, _, rfl, ho2, cb, n2, rfl, _, rfl, pm, _, _, .ref d, rfl, rfl, SqL.of B2.m, atI_nat (get_map hd), d, _, rfl, B2.md X d L hd hL, fun l nl => ?_⟩
    have u := same_upd (o := .lst ((dkT L).map fun kv => kV kv.1)) nl
    refine k l _ (fun b o h1 h2 h3 h4 h5 h6 => u _ _ (bb b o h1 h2 h3 h4 h5 h6)) (nl0 nl) ⟨⟨dx2, u _ _ ho2⟩, u _ _ B2.b, u _ _ B2.m, B2.ml, fun j d L h1 h2 => u _ _ (B2.md j d L h1 h2), B2.nd, u _ _ B2.w, u _ _ B2.i, B2.n1, B2.n2, B2.n3, B2.n4, B2.n5, B2.n6⟩ ?_
    rw [upd_same]
    show some (HO.lst ((L.map _).map _)) = _
    rw [List.map_map]
    rfl
abbrev NSa : List Str := ["self", "states", "old", "new", "state", "is_new_less", "least"]
theorem scSa : FnScope NSa ["self", "states"] (defScope s_Blocks_set_apart) := ⟨rfl, rfl, rfl, by decide +kernel, rfl, by decide +kernel, by decide +kernel⟩
theorem ok_sa {f : Addr} {fd : FuncData} {q : Str} (F : FunD K "set_apart" q (defArgs s_Blocks_set_apart) (defBody s_Blocks_set_apart) (defScope s_Blocks_set_apart) [] [] f fd) (T : Txt P w K mg base) :
    FnOk P w K mg base CX0 1 f fd ["self", "states"] (spSet K) := by
  have zn : mg "len" = none := T.fr 59 "len" rfl
  have cb : L2.Cls K (He.ga K "Blocks") := He.cls_ok (T.d.fact 78 (f := .cls "Blocks") rfl)
  have n1 : NoAttr K (He.ga K "Blocks") "block_of" := He.noat_ok (T.d.fact 82 (f := .noat "Blocks" "block_of") rfl)
  have n2 : NoAttr K (He.ga K "Blocks") "members" := He.noat_ok (T.d.fact 83 (f := .noat "Blocks" "members") rfl)
  have n3 : NoAttr K (He.ga K "Blocks") "waiting" := He.noat_ok (T.d.fact 84 (f := .noat "Blocks" "waiting") rfl)
  have n4 : NoAttr K (He.ga K "Blocks") "_is_waiting" := He.noat_ok (T.d.fact 85 (f := .noat "Blocks" "_is_waiting") rfl)
  refine F.ok scSa (fun vs H Q E h => ?_) (fun cdv A outer s H vs Q E hr h => ?_)
  · obtain ⟨x, a, pb, pm, pw, pi, ds, n, blk, mem, wait, isw, Ts, L, old, rfl, _⟩ := h
    rfl
  · obtain ⟨x, a, pb, pm, pw, pi, ds, n, blk, mem, wait, isw, Ts, L, old, rfl, B, G, ha, ab, am, aw, ai, tn, td, hL, tL, n6, kw, ks⟩ := h
    have hu : (A.deeper (envOfC q (defScope s_Blocks_set_apart) s.heap.objs.size f cdv)).units + 1 < cLine := by have := hr.units; omega
    refine ⟨_, PSs.nox (pss_cons (ps_set (i := 2) scSa.nd rfl (.inl rfl) (pe_ix ix_list (pe_fld (pv 0) rfl) (pe_ix ix_list (pv 1) pe_int (fun _ _ => rfl)) (fun _ _ => rfl)))
      (pss_cons (ps_if (pt_cmpR op_eq (pe_callB call_len_seq rfl zn boot_len (pa_cons (pv 1) pa_nil)) (pe_callB call_lenD rfl zn boot_len (pa_cons (pe_ix ix_list (pe_fld (pv 0) rfl) (pv 2) (fun _ _ => rfl)) pa_nil)) (nomark _)) (pss_one ps_retN) pss_nil)
      (pss_cons (ps_set (i := 3) scSa.nd rfl (.inl rfl) (pe_callB call_len_seq rfl zn boot_len (pa_cons (pe_fld (pv 0) rfl) pa_nil)))
      (pss_cons (ps_expr (pe_bm PySem.F.plainAttrs_list PySem.F.slot_list_append PySem.F.type_list_append mt_append (pe_fld (pv 0) rfl) (pa_cons pe_dnewK pa_nil)))
      (pss_cons (ps_for PassesOwn.never rfl (pi_list (pv 1)) (pg_name (i := 4) scSa.nd rfl (.inl rfl))
        (pss_cons (ps_ddel (pe_ix ix_list (pe_fld (pv 0) rfl) (pv 2) (fun _ _ => rfl)) (pv 4))
        (pss_cons (ps_dput hu (pe_ix ix_list (pe_fld (pv 0) rfl) (pv 3) (fun _ _ => rfl)) (pv 4) pe_bl rfl)
        (pss_one (ps_asg (pv 3) (pg_sub (pe_fld (pv 0) rfl) (pv 4) set_list))))))
      (pss_cons (ps_set (i := 5) scSa.nd rfl (.inl rfl) (pe_cmpR op_lt (pe_callB call_lenD rfl zn boot_len (pa_cons (pe_ix ix_list (pe_fld (pv 0) rfl) (pv 3) (fun _ _ => rfl)) pa_nil)) (pe_callB call_lenD rfl zn boot_len (pa_cons (pe_ix ix_list (pe_fld (pv 0) rfl) (pv 2) (fun _ _ => rfl)) pa_nil)) (nomark _)))
      (pss_cons (ps_expr (pe_bm PySem.F.plainAttrs_list PySem.F.slot_list_append PySem.F.type_list_append mt_append (pe_fld (pv 0) rfl) (pa_cons pe_bl pa_nil)))
      (pss_cons (ps_set (i := 6) scSa.nd rfl (.inl rfl) (pe_ifExp (PW.pt (pw_or (pt_val (pe_ix ix_list (pe_fld (pv 0) rfl) (pv 2) (fun _ _ => rfl))) (pw_or1 (pt_val (pv 5))))) (pv 3) (pv 2)))
      (pss_cons (ps_asg pe_bl (pg_sub (pe_fld (pv 0) rfl) (pv 6) set_list))
      (pss_one (ps_expr (pe_bm PySem.F.plainAttrs_list PySem.F.slot_list_append PySem.F.type_list_append mt_append (pe_fld (pv 0) rfl) (pa_cons (pv 6) pa_nil))))))))))))), ?_⟩
    obtain ⟨dx, ho⟩ := B.ob
    obtain ⟨m1, m2, m3⟩ := G.mb old L hL
    have ol := get_lt hL
    obtain ⟨t0, ht0⟩ := lt_get (show 0 < Ts.length from List.length_pos_iff.mpr tn)
    have bt0 := (m3 t0).mp (tL t0 (List.mem_of_getElem? ht0))
    obtain ⟨d0, hd0⟩ := lt_get (show old < ds.length by rw [B.ml]; exact ol)
    have hdd := B.md old d0 L hd0 hL
    have few := G.few
    have rl := rest_len m2 td tL
    have l6 : L.length ≤ 600 := by
      have := Mon.nodup_lt n L m2 fun s hs => by rw [← G.len]; exact get_lt ((m3 s).mp hs)
      omega
    have xb : x ≠ pb := fun z => by have := B.b; rw [← z, ho] at this; cases this
    have xm : x ≠ pm := fun z => by have := B.m; rw [← z, ho] at this; cases this
    have xw : x ≠ pw := fun z => by have := B.w; rw [← z, ho] at this; cases this
    have xi : x ≠ pi := fun z => by have := B.i; rw [← z, ho] at this; cases this
    have dne : ∀ {d : Addr} {kv}, H d = some (.dK kv) → d ≠ pb ∧ d ≠ pm ∧ d ≠ pw ∧ d ≠ pi ∧ d ≠ x ∧ d ≠ a := fun {d kv} h =>
      ⟨(fun z => by rw [z, B.b] at h; cases h), (fun z => by rw [z, B.m] at h; cases h), (fun z => by rw [z, B.w] at h; cases h), (fun z => by rw [z, B.i] at h; cases h), (fun z => by rw [z, ho] at h; cases h), (fun z => by rw [z, ha] at h; cases h)⟩
    have dmem : ∀ {j : Nat} {d : Addr}, ds[j]? = some d → ∃ L', mem[j]? = some L' ∧ H d = some (.dK (dkT L')) := fun {j d} h => by
      obtain ⟨L', h'⟩ := lt_get (show j < mem.length by rw [← B.ml]; exact get_lt h)
      exact ⟨L', h', B.md j d L' h h'⟩
    refine ⟨_, rfl, x, _, dx, _, _, rfl, ho, cb, n1, rfl, _, rfl, a, _, 0, nv t0, rfl, rfl, SqL.of ha, atI_nat (j := 0) (get_map ht0), pb, _, _, nv old, rfl, rfl, SqL.of B.b, atI_nat (get_map bt0), ?_⟩
    refine ⟨_, rfl, a, _, rfl, .inl (SqL.of ha), _, rfl, x, _, dx, _, _, rfl, ho, cb, n2, rfl, _, rfl, pm, _, _, .ref d0, rfl, rfl, SqL.of B.m, atI_nat (get_map hd0), d0, _, rfl, hdd, rfl, _, rfl, ?_⟩
    rw [List.length_map, List.length_map]
    refine ite2 (fun e => ?_) (fun e => ?_)
    · have e2 := of_decide_eq_true e
      have e3 : ((Ts.length : Nat) : Int) = ((L.length : Nat) : Int) := V.int.inj e2
      exact kw (by omega)
    have ne : Ts.length ≠ L.length := fun z => e (decide_eq_true (by rw [z]))
    refine ⟨_, rfl, x, _, dx, _, _, rfl, ho, cb, n2, rfl, pm, _, rfl, .inl (SqL.of B.m), ?_⟩
    rw [List.length_map, B.ml]
    refine ⟨_, rfl, x, _, dx, _, _, rfl, ho, cb, n2, rfl, .inl ⟨rfl, _, SqL.of B.m⟩, fun dN nN => ?_⟩
    have uN := same_upd (o := .dK []) nN
    have dNp : dN ≠ pm := fun z => by rw [z, B.m] at nN; cases nN
    refine ⟨pm, _, _, rfl, rfl, uN _ _ B.m, by rw [List.length_map, B.ml]; show mem.length < 16777216; omega, ?_⟩
    have nds : ∀ d ∈ ds, d ≠ dN := fun d hd z => by
      obtain ⟨j, hj⟩ := List.getElem?_of_mem hd
      obtain ⟨L', _, h'⟩ := dmem hj
      rw [z, nN] at h'
      cases h'
    have b2 : ∀ b o, b ≠ pm → H b = some o → L2.upd (L2.upd H dN (.dK [])) pm (.lst (ds.map V.ref ++ [.ref dN])) b = some o := fun b o h1 h2 => by rw [upd_ne h1]; exact uN _ _ h2
    have hm2 : L2.upd (L2.upd H dN (.dK [])) pm (.lst (ds.map V.ref ++ [.ref dN])) pm = some (.lst ((ds ++ [dN]).map V.ref)) := by rw [upd_same, List.map_append]; rfl
    have hN2 : L2.upd (L2.upd H dN (.dK [])) pm (.lst (ds.map V.ref ++ [.ref dN])) dN = some (.dK (dkT [])) := by rw [upd_ne dNp, upd_same]; rfl
    dsimp only
    show tSeq _ _ _ _ (L2.upd (L2.upd H dN (.dK [])) pm (.lst (ds.map V.ref ++ [.ref dN])))
    generalize L2.upd (L2.upd H dN (.dK [])) pm (.lst (ds.map V.ref ++ [.ref dN])) = H2 at b2 hm2 hN2 ⊢
    clear uN
    have hold : (ds ++ [dN])[old]? = some d0 := by rw [List.getElem?_append_left (get_lt hd0)]; exact hd0
    have hnew : (ds ++ [dN])[mem.length]? = some dN := by rw [← B.ml, List.getElem?_append_right (Nat.le_refl _), Nat.sub_self]; rfl
    have e0 := dne hdd
    have eN : dN ≠ pb ∧ dN ≠ pm ∧ dN ≠ pw ∧ dN ≠ pi ∧ dN ≠ x ∧ dN ≠ a := ⟨(fun z => by rw [z, B.b] at nN; cases nN), dNp, (fun z => by rw [z, B.w] at nN; cases nN), (fun z => by rw [z, B.i] at nN; cases nN), (fun z => by rw [z, ho] at nN; cases nN), (fun z => by rw [z, ha] at nN; cases nN)⟩
    have d0N : d0 ≠ dN := nds d0 (List.mem_of_getElem? hd0)
    refine ⟨_, rfl, a, rfl, ⟨_, SqL.of (b2 _ _ am ha)⟩, ?_⟩
    refine for_list (K := K) (a := a) (xs := Ts.map nv) (fun i σ' Hc => ∃ v4 : Option V, σ' = [some (.ref x), some (.ref a), some (nv old), some (nv mem.length), v4, none, none] ∧ Hc pb = some (.lst ((move blk (Ts.take i) mem.length).map nv)) ∧ Hc pm = some (.lst ((ds ++ [dN]).map V.ref)) ∧
        Hc d0 = some (.dK (dkT (Hop.rest L (Ts.take i)))) ∧ Hc dN = some (.dK (dkT (Ts.take i))) ∧ ∀ b o, b ≠ pb → b ≠ pm → b ≠ d0 → H b = some o → Hc b = some o)
      ⟨none, rfl, b2 _ _ B.n1 B.b, hm2, by rw [List.take_zero, rest_nil]; exact b2 _ _ e0.2.1 hdd, hN2, fun b o h1 h2 h3 h4 => b2 b o h2 h4⟩ (fun i σ' Hc _ ⟨_, _, _, _, _, _, fr⟩ => SqL.of (fr _ _ ab am e0.2.2.2.2.2.symm ha)) ?_ ?_
    · rintro i y σ' Hc hy ⟨v4, rfl, hb, hm, h0, hN, fr⟩
      obtain ⟨t, ht, rfl⟩ := map_get hy
      have nt := nodup_take td ht
      have tk1 : Ts.take (i + 1) = Ts.take i ++ [t] := take_snoc ht
      have hoc := fr _ _ xb xm e0.2.2.2.2.1.symm ho
      have tl := get_lt ((m3 t).mp (tL t (List.mem_of_getElem? ht)))
      have few2 : (Ts.take i).length ≤ i := by rw [List.length_take]; omega
      have il := get_lt ht
      refine ⟨_, rfl, x, _, dx, _, _, rfl, hoc, cb, n2, rfl, _, rfl, pm, _, _, .ref d0, rfl, rfl, SqL.of hm, atI_nat (get_map hold), _, rfl, d0, _, ik t, rfl, h0, rfl, by rw [dkT_some (rest_mem.mpr ⟨tL t (List.mem_of_getElem? ht), nt⟩)]; rfl, ?_⟩
      rw [dkT_drop, rest_snoc]
      dsimp only
      refine ⟨_, rfl, x, _, dx, _, _, rfl, by rw [upd_ne e0.2.2.2.2.1.symm]; exact hoc, cb, n2, rfl, _, rfl, pm, _, _, .ref dN, rfl, rfl, SqL.of (by rw [upd_ne e0.2.1.symm]; exact hm), atI_nat (get_map hnew), _, rfl, dN, _, rfl, DPut.k (k := ik t) (by rw [upd_ne d0N.symm]; exact hN) (by rw [List.length_map]; show (Ts.take i).length < 16777216; omega), ?_⟩
      rw [dkT_put nt]
      dsimp only
      refine ⟨_, rfl, _, rfl, x, _, dx, _, _, rfl, by rw [upd_ne eN.2.2.2.2.1.symm, upd_ne e0.2.2.2.2.1.symm]; exact hoc, cb, n1, rfl, _, rfl, pb, _, _, t, rfl, rfl, by rw [upd_ne eN.1.symm, upd_ne e0.1.symm]; exact hb, by rw [List.length_map, move_len]; exact ixN_nat tl, ?_⟩
      rw [set_mapnv]
      refine ⟨_, rfl, by rw [upd_same, tk1, move_snoc], by rw [upd_ne B.n1.symm, upd_ne eN.2.1.symm, upd_ne e0.2.1.symm]; exact hm, by rw [upd_ne e0.1, upd_ne d0N, upd_same, tk1], by rw [upd_ne eN.1, upd_same, tk1], fun b o h1 h2 h3 h4 => ?_⟩
      rw [upd_ne h1, upd_ne (ne_of_none h4 nN), upd_ne h3]
      exact fr b o h1 h2 h3 h4
    · rintro σ' H3 ⟨v4, rfl, hb, hm, h0, hN, fr⟩
      rw [List.length_map, List.take_length] at hb h0 hN
      have hpw := fr _ _ B.n2.symm B.n4.symm e0.2.2.1.symm B.w
      have hpi := fr _ _ B.n3.symm B.n5.symm e0.2.2.2.1.symm B.i
      have hx3 := fr _ _ xb xm e0.2.2.2.2.1.symm ho
      have hds : ∀ (j : Nat) d L', j ≠ old → ds[j]? = some d → mem[j]? = some L' → H3 d = some (.dK (dkT L')) := fun j d L' h1 h2 h3 => by
        have h4 := B.md j d L' h2 h3
        have h5 := dne h4
        exact fr _ _ h5.1 h5.2.1 (fun z => h1 (Mon.nodup_at B.nd h2 (by rw [z]; exact hd0))) h4
      have hd3 : ∀ (j : Nat) d L', (ds ++ [dN])[j]? = some d → (mem.set old (Hop.rest L Ts) ++ [Ts])[j]? = some L' → H3 d = some (.dK (dkT L')) := fun j d L' h1 h2 => by
        by_cases z : j < mem.length
        · rw [List.getElem?_append_left (by rw [B.ml]; exact z)] at h1
          rw [List.getElem?_append_left (by rw [List.length_set]; exact z), List.getElem?_set] at h2
          by_cases y : old = j
          · subst y
            rw [if_pos rfl, if_pos z] at h2
            cases h2
            rw [hd0] at h1
            cases h1
            exact h0
          · rw [if_neg y] at h2
            exact hds j d L' (fun q => y q.symm) h1 h2
        · have hj : j = mem.length := by
            have := get_lt h2
            rw [List.length_append, List.length_set, List.length_singleton] at this
            omega
          subst hj
          rw [hnew] at h1
          cases h1
          rw [List.getElem?_append_right (by rw [List.length_set]; exact Nat.le_refl _), List.length_set, Nat.sub_self] at h2
          cases h2
          exact hN
      have nd3 : (ds ++ [dN]).Nodup := by
        rw [List.nodup_append]
        refine ⟨B.nd, by simp, fun p hp y hy => ?_⟩
        rw [List.mem_singleton.mp hy]
        exact nds p hp
      have fr3 : ButB pb pm pw pi ds H H3 := fun b o h1 h2 h3 h4 h5 h6 => fr b o h1 h2 (fun z => h5 (by rw [z]; exact List.mem_of_getElem? hd0)) h6
      clear hds fr
      refine ⟨_, rfl, x, _, dx, _, _, rfl, hx3, cb, n2, rfl, _, rfl, pm, _, _, .ref dN, rfl, rfl, SqL.of hm, atI_nat (get_map hnew), dN, _, rfl, hN, _, rfl, x, _, dx, _, _, rfl, hx3, cb, n2, rfl, _, rfl, pm, _, _, .ref d0, rfl, rfl, SqL.of hm, atI_nat (get_map hold), d0, _, rfl, h0, _, _, rfl, rfl, ?_⟩
      dsimp only
      refine ⟨_, rfl, x, _, dx, _, _, rfl, hx3, cb, n4, rfl, .inl ⟨rfl, _, SqL.of hpi⟩, pi, _, _, rfl, rfl, hpi, by rw [List.length_map, G.isl]; show mem.length < 16777216; omega, ?_⟩
      have hpi4 : L2.upd H3 pi (.lst (isw.map V.bl ++ [.bl false])) pi = some (.lst ((isw ++ [false]).map V.bl)) := by rw [upd_same, List.map_append]; rfl
      have off4 : ∀ {b : Addr} {o : HO}, b ≠ pi → H3 b = some o → L2.upd H3 pi (.lst (isw.map V.bl ++ [.bl false])) b = some o := fun {b o} h1 h2 => by rw [upd_ne h1]; exact h2
      have hx4 := off4 xi hx3
      have hb4 := off4 B.n3 hb
      have hm4 := off4 B.n5 hm
      have hw4 := off4 B.n6 hpw
      have hd4 : ∀ (j : Nat) d L', (ds ++ [dN])[j]? = some d → (mem.set old (Hop.rest L Ts) ++ [Ts])[j]? = some L' → L2.upd H3 pi (.lst (isw.map V.bl ++ [.bl false])) d = some (.dK (dkT L')) := fun j d L' h1 h2 => by
        have h3 := hd3 j d L' h1 h2
        exact off4 (fun z => by rw [z, hpi] at h3; cases h3) h3
      have fr4 : ButB pb pm pw pi ds H (L2.upd H3 pi (.lst (isw.map V.bl ++ [.bl false]))) := fun b o h1 h2 h3 h4 h5 h6 => off4 h4 (fr3 b o h1 h2 h3 h4 h5 h6)
      dsimp only
      show tSeq _ _ _ _ (L2.upd H3 pi (.lst (isw.map V.bl ++ [.bl false])))
      generalize L2.upd H3 pi (.lst (isw.map V.bl ++ [.bl false])) = H4 at hpi4 hx4 hb4 hm4 hw4 hd4 fr4 ⊢
      clear off4 hx3 hb hm hpw hpi hd3 fr3 h0 hN
      obtain ⟨bv, hbv⟩ := lt_get (show old < isw.length by rw [G.isl]; exact ol)
      refine seq_join (fun σ' H' => ∃ least : Nat, (least = mem.length ∨ (least = old ∧ isw[old]? ≠ some true)) ∧ H' = H4 ∧ ∃ v5, σ' = [some (.ref x), some (.ref a), some (nv old), some (nv mem.length), v4, v5, some (nv least)]) ?_ ?_
      · rintro σ' H' ⟨least, hl, rfl, v5, rfl⟩
        have ll : least < (isw ++ [false]).length := by
          rw [List.length_append, List.length_singleton, G.isl]
          rcases hl with rfl | ⟨rfl, _⟩ <;> omega
        refine ⟨_, rfl, x, _, dx, _, _, rfl, hx4, cb, n4, rfl, _, rfl, pi, _, _, least, rfl, rfl, hpi4, by rw [List.length_map]; exact ixN_nat ll, ?_⟩
        rw [← show ((isw ++ [false]).set least true).map V.bl = ((isw ++ [false]).map V.bl).set least (.bl true) by rw [List.map_set]]
        have off5 : ∀ {b : Addr} {o : HO}, b ≠ pi → H' b = some o → L2.upd H' pi (.lst (((isw ++ [false]).set least true).map V.bl)) b = some o := fun {b o} h1 h2 => by rw [upd_ne h1]; exact h2
        have wl : wait.length ≤ 600 := by
          have := Mon.nodup_lt mem.length wait G.nd fun b hb => by
            have := get_lt ((G.isw b).mpr hb)
            rw [← G.isl]
            exact this
          omega
        dsimp only
        refine ⟨_, rfl, x, _, dx, _, _, rfl, off5 xi hx4, cb, n3, rfl, .inl ⟨rfl, _, SqL.of (off5 B.n6 hw4)⟩, _, rfl, pw, _, _, rfl, rfl, off5 B.n6 hw4, by rw [List.length_map]; show wait.length < 16777216; omega, ?_⟩
        have off6 : ∀ {b : Addr} {o : HO}, b ≠ pi → b ≠ pw → H' b = some o → L2.upd (L2.upd H' pi (.lst (((isw ++ [false]).set least true).map V.bl))) pw (.lst (wait.map nv ++ [nv least])) b = some o := fun {b o} h1 h2 h3 => by rw [upd_ne h2]; exact off5 h1 h3
        refine ks ne least dN _ (fun b o h1 h2 h3 h4 h5 h6 => off6 h4 h3 (fr4 b o h1 h2 h3 h4 h5 h6)) nN hl ⟨⟨dx, off6 xi xw hx4⟩, off6 B.n3 B.n2 hb4, off6 B.n5 B.n4 hm4, by rw [List.length_append, List.length_append, List.length_set, B.ml]; rfl, fun j d L' h1 h2 => ?_, nd3, by rw [upd_same, List.map_append]; rfl, by rw [upd_ne B.n6.symm]; exact upd_same, B.n1, B.n2, B.n3, B.n4, B.n5, B.n6⟩
        have h3 := hd4 j d L' h1 h2
        exact off6 (fun z => by rw [z, hpi4] at h3; cases h3) (fun z => by rw [z, hw4] at h3; cases h3) h3
      · intro nx hnx
        refine ⟨_, rfl, x, _, dx, _, _, rfl, hx4, cb, n4, rfl, _, rfl, pi, _, _, .bl bv, rfl, rfl, SqL.of hpi4, atI_nat (get_map (by rw [List.getElem?_append_left (get_lt hbv)]; exact hbv)), bv, rfl, ?_⟩
        refine ite2 (fun e => ?_) (fun e => ?_)
        · refine ifT rfl ⟨_, rfl, hnx _ _ ⟨mem.length, .inl rfl, rfl, _, rfl⟩⟩
        · refine ⟨_, rfl, _, rfl, ?_⟩
          refine ite2 (fun e2 => ?_) (fun e2 => ?_)
          · exact ⟨_, rfl, hnx _ _ ⟨mem.length, .inl rfl, rfl, _, rfl⟩⟩
          · refine ⟨_, rfl, hnx _ _ ⟨old, .inr ⟨rfl, fun z => e ?_⟩, rfl, _, rfl⟩⟩
            rw [hbv] at z
            exact Option.some.inj z
end
end K69

set_option Elab.async false
set_option linter.all false
set_option maxRecDepth 100000
set_option maxHeartbeats 4000000
/-! The least word that tells two states apart, found in the order of the words: pure. -/
namespace Apart
@[elab_as_elim] theorem snocRec {α : Type} {P : List α → Prop} (l : List α) (nil : P []) (append_singleton : ∀ (l : List α) (a : α), P l → P (l ++ [a])) : P l := by
  suffices h : ∀ r : List α, P r.reverse by
    have := h l.reverse
    rwa [List.reverse_reverse] at this
  intro r
  induction r with
  | nil => exact nil
  | cons a r ih =>
    rw [List.reverse_cons]
    exact append_singleton _ a ih
/-- the place of a word over k letters among all words, shorter ones first -/
def val (k : Nat) (u : List Nat) : Nat := u.foldl (fun a c => a * k + (c + 1)) 0
abbrev Ok (k : Nat) (u : List Nat) : Prop := ∀ c ∈ u, c < k
theorem val_snoc {k : Nat} {u : List Nat} {c : Nat} : val k (u ++ [c]) = val k u * k + (c + 1) := by
  unfold val
  rw [List.foldl_append]
  rfl
theorem val_app {k : Nat} {u : List Nat} : ∀ {v : List Nat}, val k (u ++ v) = val k u * k ^ v.length + val k v := by
  intro v
  induction v using snocRec with
  | nil => simp [val]
  | append_singleton v c ih =>
    rw [← List.append_assoc, val_snoc, ih, val_snoc, List.length_append, List.length_singleton, Nat.pow_succ, Nat.add_mul, Nat.mul_assoc]
    omega
theorem val_lt_app {k : Nat} {u u' v : List Nat} (hk : 1 ≤ k) (h : val k u < val k u') : val k (u ++ v) < val k (u' ++ v) := by
  rw [val_app, val_app]
  exact Nat.add_lt_add_right (Nat.mul_lt_mul_of_pos_right h (Nat.pow_pos hk)) _
theorem val_snoc_lt {k : Nat} {u : List Nat} {c : Nat} (hk : 1 ≤ k) : val k u < val k (u ++ [c]) := by
  rw [val_snoc]
  have := Nat.le_mul_of_pos_right (val k u) hk
  omega
theorem val_pre {k : Nat} {u : List Nat} (hk : 1 ≤ k) : ∀ {v : List Nat}, v ≠ [] → val k u < val k (u ++ v) := by
  intro v
  induction v using snocRec with
  | nil => intro h; exact (h rfl).elim
  | append_singleton v c ih =>
    intro _
    by_cases h : v = []
    · subst h
      exact val_snoc_lt hk
    · rw [← List.append_assoc]
      exact Nat.lt_trans (ih h) (val_snoc_lt hk)
theorem val_step {k : Nat} {u u' : List Nat} {c c' : Nat} (h : val k u < val k u') (hc : c < k) : val k (u ++ [c]) < val k (u' ++ [c']) := by
  rw [val_snoc, val_snoc]
  have : (val k u + 1) * k ≤ val k u' * k := Nat.mul_le_mul_right k h
  rw [Nat.add_mul, Nat.one_mul] at this
  omega
theorem val_inj {k : Nat} (hk : 1 ≤ k) : ∀ {u v : List Nat}, Ok k u → Ok k v → val k u = val k v → u = v := by
  intro u
  induction u using snocRec with
  | nil =>
    intro v _ _ h
    induction v using snocRec with
    | nil => rfl
    | append_singleton v c _ =>
      have := val_snoc_lt (u := v) (c := c) hk
      rw [← h] at this
      simp [val] at this
  | append_singleton u c ih =>
    intro v hu hv h
    induction v using snocRec with
    | nil =>
      have := val_snoc_lt (u := u) (c := c) hk
      rw [h] at this
      simp [val] at this
    | append_singleton v d _ =>
      have hc := hu c (by simp)
      have hd := hv d (by simp)
      rw [val_snoc, val_snoc] at h
      have e : val k u = val k v := by
        rcases Nat.lt_trichotomy (val k u) (val k v) with z | z | z
        · have := val_step (c := c) (c' := d) z hc
          rw [val_snoc, val_snoc] at this
          omega
        · exact z
        · have := val_step (c := d) (c' := c) z hd
          rw [val_snoc, val_snoc] at this
          omega
      rw [e] at h
      rw [ih (fun x hx => hu x (by simp [hx])) (fun x hx => hv x (by simp [hx])) e]
      have : c = d := by omega
      rw [this]
/-- the least word that D says yes to -/
def IsLeast (k : Nat) (D : List Nat → Prop) : Option (List Nat) → Prop
  | none => ∀ v, Ok k v → ¬ D v
  | some w => Ok k w ∧ D w ∧ ∀ v, Ok k v → D v → val k w ≤ val k v
theorem IsLeast.uniq {k : Nat} (hk : 1 ≤ k) {D : List Nat → Prop} : ∀ {o o' : Option (List Nat)}, IsLeast k D o → IsLeast k D o' → o = o'
  | none, none, _, _ => rfl
  | none, some w, h, g => (h w g.1 g.2.1).elim
  | some w, none, h, g => (g w h.1 h.2.1).elim
  | some w, some v, h, g => by
    have a := h.2.2 v g.1 g.2.1
    have b := g.2.2 w h.1 h.2.1
    rw [val_inj hk h.1 g.1 (Nat.le_antisymm a b)]
theorem IsLeast.congr {k : Nat} {D D' : List Nat → Prop} (e : ∀ v, Ok k v → (D v ↔ D' v)) : ∀ {o : Option (List Nat)}, IsLeast k D o → IsLeast k D' o
  | none, h => fun v hv d => h v hv ((e v hv).mpr d)
  | some w, h => ⟨h.1, (e w h.1).mp h.2.1, fun v hv d => h.2.2 v hv ((e v hv).mpr d)⟩
theorem least_ex {k : Nat} {P : List Nat → Prop} : ∀ (m : Nat) (v : List Nat), val k v ≤ m → P v → ∃ w, P w ∧ ∀ u, P u → val k w ≤ val k u := by
  intro m
  induction m with
  | zero => exact fun v h p => ⟨v, p, fun u _ => by omega⟩
  | succ m ih =>
    intro v h p
    by_cases z : ∃ u, P u ∧ val k u ≤ m
    · obtain ⟨u, pu, hu⟩ := z
      exact ih u hu pu
    · refine ⟨v, p, fun u pu => ?_⟩
      have : ¬ val k u ≤ m := fun hu => z ⟨u, pu, hu⟩
      omega
abbrev run (d : Nat → Nat → Nat) (s : Nat) (w : List Nat) : Nat := w.foldl d s
theorem run_app {d : Nat → Nat → Nat} {s : Nat} {u v : List Nat} : run d s (u ++ v) = run d (run d s u) v := List.foldl_append
/-- whether a word tells two states apart -/
def D (d1 d2 : Nat → Nat → Nat) (m1 m2 : Nat → Bool) (x y : Nat) (v : List Nat) : Prop := m1 (run d1 x v) ≠ m2 (run d2 y v)
abbrev En := Nat × Nat × List Nat
/-- the search at letter c of entry i -/
structure Srch (k : Nat) (d1 d2 : Nat → Nat → Nat) (m1 m2 : Nat → Bool) (s1 s2 : Nat) (F : List En) (i c : Nat) : Prop where
  head : F[0]? = some (s1, s2, [])
  ent : ∀ (j : Nat) (e : En), F[j]? = some e → Ok k e.2.2 ∧ e.1 = run d1 s1 e.2.2 ∧ e.2.1 = run d2 s2 e.2.2
  inc : ∀ (a b : Nat) (e f : En), a < b → F[a]? = some e → F[b]? = some f → val k e.2.2 < val k f.2.2
  last : ∀ (a : Nat) (e : En), F[a]? = some e → e.2.2 = [] ∨ ∃ (j c' : Nat) (f : En), (j < i ∨ j = i ∧ c' < c) ∧ c' < k ∧ F[j]? = some f ∧ e.2.2 = f.2.2 ++ [c']
  same : ∀ (j : Nat) (e : En), j < i → F[j]? = some e → m1 e.1 = m2 e.2.1
  cov : ∀ (j c' : Nat) (e : En), (j < i ∨ j = i ∧ c' < c) → c' < k → F[j]? = some e → (∃ (b : Nat) (f : En), F[b]? = some f ∧ f.2.2 = e.2.2 ++ [c']) ∨ ∀ v, D d1 d2 m1 m2 (d1 e.1 c') (d2 e.2.1 c') v → ∃ (b : Nat) (f : En), F[b]? = some f ∧ val k f.2.2 < val k (e.2.2 ++ [c']) ∧ D d1 d2 m1 m2 f.1 f.2.1 v
section
variable {k : Nat} {d1 d2 : Nat → Nat → Nat} {m1 m2 : Nat → Bool} {s1 s2 : Nat} {F : List En} {i c : Nat}
theorem Srch.start : Srch k d1 d2 m1 m2 s1 s2 [(s1, s2, [])] 0 0 where
  head := rfl
  ent := fun j e h => by
    match j, h with
    | 0, h => cases h; exact ⟨fun _ z => (nomatch z), rfl, rfl⟩
    | j + 1, h => simp at h
  inc := fun a b e f h h1 h2 => by
    match b, h, h2 with
    | b + 1, _, h2 => simp at h2
  last := fun a e h => by
    match a, h with
    | 0, h => cases h; exact .inl rfl
    | j + 1, h => simp at h
  same := fun j e h => by omega
  cov := fun j c' e h => by omega
/-- all that was found is less than what comes next -/
theorem Srch.less (S : Srch k d1 d2 m1 m2 s1 s2 F i c) (hk : 1 ≤ k) {e f : En} {a : Nat} (he : F[i]? = some e) (hf : F[a]? = some f) : val k f.2.2 < val k (e.2.2 ++ [c]) := by
  rcases S.last a f hf with z | ⟨j, c', g, o, hc, hg, z⟩
  · rw [z]
    have : val k ([] : List Nat) = 0 := rfl
    rw [this, val_snoc]
    omega
  · rw [z]
    rcases o with o | ⟨rfl, o⟩
    · exact val_step (S.inc j i g e o hg he) hc
    · rw [he] at hg
      cases hg
      rw [val_snoc, val_snoc]
      omega
theorem get_snoc {α : Type} {l : List α} {x y : α} {j : Nat} (h : (l ++ [y])[j]? = some x) : l[j]? = some x ∨ j = l.length ∧ x = y := by
  by_cases hj : j < l.length
  · rw [List.getElem?_append_left hj] at h
    exact .inl h
  · have := (List.getElem?_eq_some_iff.mp h).1
    rw [List.length_append, List.length_singleton] at this
    have e : j = l.length := by omega
    subst e
    rw [List.getElem?_append_right (Nat.le_refl _), Nat.sub_self] at h
    exact .inr ⟨rfl, (Option.some.inj h).symm⟩
theorem get_old {α : Type} {l : List α} {x y : α} {j : Nat} (h : l[j]? = some x) : (l ++ [y])[j]? = some x := by
  rw [List.getElem?_append_left (List.getElem?_eq_some_iff.mp h).1]
  exact h
theorem get_end {α : Type} {l : List α} {y : α} : (l ++ [y])[l.length]? = some y := by
  rw [List.getElem?_append_right (Nat.le_refl _), Nat.sub_self]
  rfl
theorem Srch.len (S : Srch k d1 d2 m1 m2 s1 s2 F i c) (hk : 1 ≤ k) : ∀ (n a : Nat) (e : En), a < n → F[a]? = some e → e.2.2.length ≤ a := by
  intro n
  induction n with
  | zero => exact fun a e h _ => by omega
  | succ n ih =>
    intro a e h he
    rcases S.last a e he with z | ⟨j, c', f, _, _, hf, z⟩
    · rw [z]; exact Nat.zero_le _
    · have lt : val k f.2.2 < val k e.2.2 := by rw [z]; exact val_snoc_lt hk
      have ja : j < a := by
        rcases Nat.lt_trichotomy j a with y | y | y
        · exact y
        · subst y
          rw [he] at hf
          cases hf
          omega
        · have := S.inc a j e f y he hf
          omega
      have := ih j f (by omega) hf
      rw [z, List.length_append, List.length_singleton]
      omega
theorem Srch.new (S : Srch k d1 d2 m1 m2 s1 s2 F i c) (hk : 1 ≤ k) (hc : c < k) {x y : Nat} {u : List Nat} (he : F[i]? = some (x, y, u)) : Srch k d1 d2 m1 m2 s1 s2 (F ++ [(d1 x c, d2 y c, u ++ [c])]) i (c + 1) where
  head := get_old S.head
  ent := fun j e h => by
    rcases get_snoc h with h | ⟨_, rfl⟩
    · exact S.ent j e h
    · obtain ⟨a1, a2, a3⟩ := S.ent i _ he
      refine ⟨fun z hz => ?_, ?_, ?_⟩
      · rcases List.mem_append.mp hz with hz | hz
        · exact a1 z hz
        · rw [List.mem_singleton.mp hz]; exact hc
      · show d1 x c = _
        rw [run_app, ← a2]
        rfl
      · show d2 y c = _
        rw [run_app, ← a3]
        rfl
  inc := fun a b e f h h1 h2 => by
    rcases get_snoc h2 with h2 | ⟨hb, rfl⟩
    · have := (List.getElem?_eq_some_iff.mp h2).1
      rcases get_snoc h1 with h1 | ⟨ha, rfl⟩
      · exact S.inc a b e f h h1 h2
      · omega
    · rcases get_snoc h1 with h1 | ⟨ha, rfl⟩
      · exact S.less hk he h1
      · omega
  last := fun a e h => by
    rcases get_snoc h with h | ⟨_, rfl⟩
    · rcases S.last a e h with z | ⟨j, c', f, o, q, g, r⟩
      · exact .inl z
      · exact .inr ⟨j, c', f, o.imp id fun z => ⟨z.1, by omega⟩, q, get_old g, r⟩
    · exact .inr ⟨i, c, _, .inr ⟨rfl, by omega⟩, hc, get_old he, rfl⟩
  same := fun j e h g => by
    rcases get_snoc g with g | ⟨hj, rfl⟩
    · exact S.same j e h g
    · have := (List.getElem?_eq_some_iff.mp he).1
      omega
  cov := fun j c' e h hc' g => by
    have g2 : F[j]? = some e := by
      rcases get_snoc g with g | ⟨hj, _⟩
      · exact g
      · have := (List.getElem?_eq_some_iff.mp he).1
        omega
    by_cases z : j = i ∧ c' = c
    · obtain ⟨rfl, rfl⟩ := z
      rw [he] at g2
      cases g2
      exact .inl ⟨_, _, get_end, rfl⟩
    · rcases S.cov j c' e (by omega) hc' g2 with ⟨b, f, q, r⟩ | q
      · exact .inl ⟨b, f, get_old q, r⟩
      · refine .inr fun v d => ?_
        obtain ⟨b, f, q1, q2, q3⟩ := q v d
        exact ⟨b, f, get_old q1, q2, q3⟩
theorem Srch.skip (S : Srch k d1 d2 m1 m2 s1 s2 F i c) (hk : 1 ≤ k) {x y : Nat} {u : List Nat} (he : F[i]? = some (x, y, u)) (h : ∀ v, D d1 d2 m1 m2 (d1 x c) (d2 y c) v → ∃ (b : Nat) (f : En), F[b]? = some f ∧ D d1 d2 m1 m2 f.1 f.2.1 v) : Srch k d1 d2 m1 m2 s1 s2 F i (c + 1) :=
  { S with
    last := fun a e h => (S.last a e h).imp id fun ⟨j, c', f, o, q⟩ => ⟨j, c', f, o.imp id fun z => ⟨z.1, by omega⟩, q⟩
    cov := fun j c' e o hc' g => by
      by_cases z : j = i ∧ c' = c
      · obtain ⟨rfl, rfl⟩ := z
        rw [he] at g
        cases g
        refine .inr fun v d => ?_
        obtain ⟨b, f, q, r⟩ := h v d
        exact ⟨b, f, q, S.less hk he q, r⟩
      · exact S.cov j c' e (by omega) hc' g }
theorem Srch.next (S : Srch k d1 d2 m1 m2 s1 s2 F i k) {x y : Nat} {u : List Nat} (he : F[i]? = some (x, y, u)) (hm : m1 x = m2 y) : Srch k d1 d2 m1 m2 s1 s2 F (i + 1) 0 :=
  { S with
    last := fun a e h => (S.last a e h).imp id fun ⟨j, c', f, o, q⟩ => ⟨j, c', f, .inl (by omega), q⟩
    same := fun j e h g => by
      by_cases z : j = i
      · subst z
        rw [he] at g
        cases g
        exact hm
      · exact S.same j e (by omega) g
    cov := fun j c' e o hc' g => S.cov j c' e (by omega) hc' g }
/-- a least word that tells apart was found, if what comes from i on is no less -/
theorem Srch.met (S : Srch k d1 d2 m1 m2 s1 s2 F i 0) (hk : 1 ≤ k) {w : List Nat} (ok : Ok k w) (dw : D d1 d2 m1 m2 s1 s2 w) (lo : ∀ v, Ok k v → D d1 d2 m1 m2 s1 s2 v → val k w ≤ val k v)
    (low : ∀ (j : Nat) (e : En), F[j]? = some e → val k e.2.2 ≤ val k w → j < i) : False := by
  have cl : ∀ n, n ≤ w.length → ∃ (j : Nat) (e : En), F[j]? = some e ∧ e.2.2 = w.take n := by
    intro n
    induction n with
    | zero => exact fun _ => ⟨0, _, S.head, by simp⟩
    | succ n ih =>
      intro hn
      obtain ⟨j, e, he, ew⟩ := ih (by omega)
      have split : w = w.take n ++ w.drop n := (List.take_append_drop n w).symm
      have dn : w.drop n ≠ [] := fun z => by
        have := congrArg List.length z
        rw [List.length_drop] at this
        simp at this
        omega
      have lt : val k (w.take n) < val k w := by
        have := val_pre (k := k) (u := w.take n) hk dn
        rw [← split] at this
        exact this
      have hj := low j e he (by rw [ew]; omega)
      have hc : w[n]'(by omega) < k := ok _ (List.getElem_mem _)
      have tk : w.take (n + 1) = w.take n ++ [w[n]'(by omega)] := by rw [List.take_append_getElem]
      rcases S.cov j (w[n]'(by omega)) e (.inl hj) hc he with ⟨b, f, hf, fw⟩ | q
      · exact ⟨b, f, hf, by rw [fw, ew, tk]⟩
      · exfalso
        obtain ⟨a1, a2, a3⟩ := S.ent j e he
        have d2' : D d1 d2 m1 m2 (d1 e.1 (w[n]'(by omega))) (d2 e.2.1 (w[n]'(by omega))) (w.drop (n + 1)) := by
          have r : ∀ (d : Nat → Nat → Nat) (s : Nat), run d s w = run d (d (run d s (w.take n)) (w[n]'(by omega))) (w.drop (n + 1)) := fun d s => by
            rw [show run d s w = run d s (w.take (n + 1) ++ w.drop (n + 1)) by rw [List.take_append_drop], run_app, tk, run_app]
            rfl
          unfold D at dw ⊢
          rw [r d1, r d2] at dw
          rw [a2, a3, ew]
          exact dw
        obtain ⟨b, f, hf, fl, fd⟩ := q _ d2'
        obtain ⟨b1, b2, b3⟩ := S.ent b f hf
        have dd : D d1 d2 m1 m2 s1 s2 (f.2.2 ++ w.drop (n + 1)) := by
          unfold D at fd ⊢
          rw [run_app, run_app, ← b2, ← b3]
          exact fd
        have := lo _ (fun z hz => (List.mem_append.mp hz).elim (b1 z) fun hz => ok z (List.mem_of_mem_drop hz)) dd
        have lt2 := val_lt_app (v := w.drop (n + 1)) hk fl
        rw [ew, ← tk, List.take_append_drop] at lt2
        omega
  obtain ⟨j, e, he, ew⟩ := cl w.length (Nat.le_refl _)
  rw [List.take_length] at ew
  have hj := low j e he (by rw [ew]; exact Nat.le_refl _)
  obtain ⟨_, a2, a3⟩ := S.ent j e he
  have := S.same j e hj he
  rw [a2, a3, ew] at this
  exact dw this
theorem Srch.found (S : Srch k d1 d2 m1 m2 s1 s2 F i 0) (hk : 1 ≤ k) {x y : Nat} {u : List Nat} (he : F[i]? = some (x, y, u)) (hm : m1 x ≠ m2 y) : IsLeast k (D d1 d2 m1 m2 s1 s2) (some u) := by
  obtain ⟨a1, a2, a3⟩ := S.ent i _ he
  refine ⟨a1, ?_, fun v hv dv => ?_⟩
  · show m1 (run d1 s1 u) ≠ m2 (run d2 s2 u)
    have b2 : x = run d1 s1 u := a2
    have b3 : y = run d2 s2 u := a3
    rw [← b2, ← b3]
    exact hm
  · refine Decidable.byContradiction fun z => ?_
    obtain ⟨w, ⟨hw, dw⟩, lo⟩ := least_ex (k := k) (P := fun v => Ok k v ∧ D d1 d2 m1 m2 s1 s2 v) _ v (Nat.le_refl _) ⟨hv, dv⟩
    have l2 := lo v ⟨hv, dv⟩
    refine S.met hk hw dw (fun v a b => lo v ⟨a, b⟩) fun j e hj hl => ?_
    refine Decidable.byContradiction fun n => ?_
    by_cases ji : j = i
    · subst ji
      rw [he] at hj
      cases hj
      have hl2 : val k u ≤ val k w := hl
      omega
    · have := S.inc i j _ e (by omega) he hj
      have t2 : val k u < val k e.2.2 := this
      omega
theorem Srch.none_ (S : Srch k d1 d2 m1 m2 s1 s2 F i 0) (hk : 1 ≤ k) (hi : F.length ≤ i) : IsLeast k (D d1 d2 m1 m2 s1 s2) none := fun v hv dv => by
  obtain ⟨w, ⟨hw, dw⟩, lo⟩ := least_ex (k := k) (P := fun v => Ok k v ∧ D d1 d2 m1 m2 s1 s2 v) _ v (Nat.le_refl _) ⟨hv, dv⟩
  exact S.met hk hw dw (fun v a b => lo v ⟨a, b⟩) fun j e hj _ => by
    have := (List.getElem?_eq_some_iff.mp hj).1
    omega
end
end Apart

set_option Elab.async false
set_option linter.all false
set_option maxRecDepth 100000
set_option maxHeartbeats 8000000
namespace K69
open PySem PySem.Spec PyProof.Rows L2 Lf Apart
/-- .. of one table alone -/
abbrev D1 (d : Nat → Nat → Nat) (mb : Nat → Bool) (x y : Nat) (v : List Nat) : Prop := D d d mb mb x y v
/-- what is in one class is told apart by what tells a found pair apart -/
def Cov (n : Nat) (d : Nat → Nat → Nat) (mb : Nat → Bool) (cls : Nat → Nat) (F : List En) : Prop := ∀ x y, x < n → y < n → cls x = cls y → ∀ v, D1 d mb x y v → ∃ (b : Nat) (f : En), F[b]? = some f ∧ D1 d mb f.1 f.2.1 v
theorem Cov.id {n : Nat} {d : Nat → Nat → Nat} {mb : Nat → Bool} : Cov n d mb id [] := fun x y _ _ e v h => by
  have e2 : x = y := e
  subst e2
  exact (h rfl).elim
theorem Cov.step {n : Nat} {d : Nat → Nat → Nat} {mb : Nat → Bool} {cls : Nat → Nat} {F : List En} (C : Cov n d mb cls F) {p q : Nat} {u : List Nat} (hp : p < n) (hq : q < n) : Cov n d mb (Uf.both cls (cls p) (cls q)) (F ++ [(p, q, u)]) := by
  have old : ∀ {x y v}, x < n → y < n → cls x = cls y → D1 d mb x y v → ∃ (b : Nat) (f : En), (F ++ [(p, q, u)])[b]? = some f ∧ D1 d mb f.1 f.2.1 v := fun {x y v} hx hy e h => by
    obtain ⟨b, f, h1, h2⟩ := C x y hx hy e v h
    exact ⟨b, f, get_old h1, h2⟩
  intro x y hx hy e v h
  have h' : mb (run d x v) ≠ mb (run d y v) := h
  have key : ∀ {x y : Nat}, x < n → y < n → cls x = cls p → cls y = cls q → mb (run d x v) ≠ mb (run d y v) → ∃ (b : Nat) (f : En), (F ++ [(p, q, u)])[b]? = some f ∧ D1 d mb f.1 f.2.1 v := fun {x y} hx hy e1 e2 h => by
    by_cases h1 : mb (run d x v) = mb (run d p v)
    · by_cases h2 : mb (run d y v) = mb (run d q v)
      · exact ⟨_, _, get_end, fun z => h (by rw [h1, h2]; exact z)⟩
      · exact old hy hq e2 h2
    · exact old hx hp e1 h1
  rcases Uf.both_of e with z | ⟨z1, z2⟩ | ⟨z1, z2⟩
  · exact old hx hy z h
  · exact key hx hy z1 z2 h'
  · exact key hy hx z2 z1 (fun z => h' z.symm)
/-- the found pairs, as they lie -/
def Fnd (H : Hp) (pf : Addr) (F : List En) : Prop := ∃ as : List Addr, H pf = some (.lst (as.map V.ref)) ∧ as.length = F.length ∧ ∀ (j : Nat) a e, as[j]? = some a → F[j]? = some e → H a = some (.tup [nv e.1, nv e.2.1, wv e.2.2])
theorem Fnd.same {H H' : Hp} {pf : Addr} {F : List En} (h : Fnd H pf F) (e : Same H H') : Fnd H' pf F := by
  obtain ⟨as, a, b, c⟩ := h
  exact ⟨as, e _ _ a, b, fun j x y h1 h2 => e _ _ (c j x y h1 h2)⟩
theorem Fnd.put {K : PySem.W.Frag} {H H' : Hp} {pf x l : Addr} {F : List En} {tops : List Nat} (h : Fnd H pf F) (U : Un K H x l tops) (n : pf ≠ l) (e : But2 x l H H') : Fnd H' pf F := by
  obtain ⟨as, a, b, c⟩ := h
  obtain ⟨dx, cc, hx, hl⟩ := U
  refine ⟨as, e _ _ (fun z => by rw [z, hx] at a; cases a) n a, b, fun j y t h1 h2 => ?_⟩
  have := c j y t h1 h2
  exact e _ _ (fun z => by rw [z, hx] at this; cases this) (fun z => by rw [z, hl] at this; cases this) this
theorem Fnd.app {H : Hp} {pf a : Addr} {F : List En} {e : En} (h : Fnd H pf F) (ha : H a = some (.tup [nv e.1, nv e.2.1, wv e.2.2])) : ∃ xs, H pf = some (.lst xs) ∧ xs.length = F.length ∧ Fnd (L2.upd H pf (.lst (xs ++ [.ref a]))) pf (F ++ [e]) := by
  obtain ⟨as, h1, h2, h3⟩ := h
  refine ⟨_, h1, by rw [List.length_map, h2], as ++ [a], by rw [upd_same, List.map_append]; rfl, by rw [List.length_append, List.length_append, h2]; rfl, fun j x y hx hy => ?_⟩
  rcases get_snoc hx with hx | ⟨hj, rfl⟩
  · rcases get_snoc hy with hy | ⟨hj, rfl⟩
    · have := h3 j x y hx hy
      rw [upd_ne (fun z => by rw [z, h1] at this; cases this)]
      exact this
    · have := (List.getElem?_eq_some_iff.mp hx).1
      omega
  · rw [hj, h2, get_end] at hy
    cases hy
    rw [upd_ne (fun z => by rw [z, h1] at ha; cases ha)]
    exact ha
def oW : Option (List Nat) → V
  | none => .non
  | some u => wv u
theorem signs_at {c : Nat} (h : c < 4) : ("abcdefghijklmnopqrst" : Str).cps.toList[c]? = some (97 + c) := by
  have : c = 0 ∨ c = 1 ∨ c = 2 ∨ c = 3 := by omega
  rcases this with rfl | rfl | rfl | rfl <;> decide +kernel
abbrev mbl (ms : List Bool) (i : Nat) : Bool := ms.getD i false
def spPart (K : PySem.W.Frag) : Sp := fun vs H Q _ => ∃ (t pm : Addr) (mv : List (List Nat)) (wd : Nat) (ms : List Bool) (a b : Nat), vs = [.ref t, .ref pm, nv a, nv b] ∧ RowsT K H t mv ∧ FormM mv wd ∧ mv.length ≤ 700 ∧ H pm = some (.lst (ms.map V.bl)) ∧ ms.length = mv.length ∧ a < mv.length ∧ b < mv.length ∧
  ∀ o H', Same H H' → IsLeast wd (D1 (step mv) (mbl ms) a b) o → Q (oW o) H'
abbrev NPW : List Str := ["rows", "marks", "one", "other", "unions", "found", "place", "word", "letter", "end"]
section
variable {P : Program} {w : World} {K : PySem.W.Frag} {mg : Str → Option Value} {base : Heap}
theorem mkU {K : PySem.W.Frag} {H : Hp} {x dx : Addr} {n : Nat} {W : Hp → Prop} (n2 : n ≤ 2000) (nx : H x = none) (ndx : H dx = none) (xdx : dx ≠ x) (k : ∀ l H3, Un K H3 x l (List.range n) → Same H H3 → H l = none → W H3) :
    spUi K [.ref x, nv n] (L2.upd (L2.upd H dx (.own x)) x (.ins (He.ga K "Unions") dx [])) (fun v H2 => v = .non ∧ W H2) E0 := by
  have u1 := same_upd (o := .own x) ndx
  have nx1 : L2.upd H dx (.own x) x = none := by rw [upd_ne (Ne.symm xdx)]; exact nx
  have u2 := u1.trans (same_upd (o := .ins (He.ga K "Unions") dx []) nx1)
  refine ⟨x, dx, n, rfl, upd_same, n2, fun l H3 b3 nl U => ⟨rfl, k l H3 U (fun b o e => b3 _ _ (ne_of_none e nx) (u2 _ _ e)) (nil_of u2 nl)⟩⟩
theorem scPW : FnScope NPW ["rows", "marks", "one", "other"] (defScope s_parting_word) := ⟨rfl, rfl, rfl, by decide +kernel, rfl, by decide +kernel, by decide +kernel⟩
theorem ok_part {f : Addr} {fd : FuncData} {q : Str} (F : FunD K "_parting_word" q (defArgs s_parting_word) (defBody s_parting_word) (defScope s_parting_word) [] [] f fd) (T : Txt P w K mg base)
    {fu : Addr} {fdu : FuncData} (mU : Mk K (He.ga K "Unions") fu) (FU : FnOk P w K mg base CX0 1 fu fdu ["self", "size"] (spUi K)) (bU : Binds K fdu ["self", "size"] [])
    (DU : DefC P w K mg base CX0 2 "Unions" "unite" ["self", "one", "other"] (spUnite K)) :
    FnOk P w K mg base CX0 3 f fd ["rows", "marks", "one", "other"] (spPart K) := by
  have zn : mg "len" = none := T.fr 59 "len" rfl
  have zE : mg "enumerate" = none := T.fr 56 "enumerate" rfl
  obtain ⟨tS, gS⟩ := T.st 51 "SIGNS" "abcdefghijklmnopqrst" rfl
  have cu : L2.Cls K (He.ga K "Unions") := He.cls_ok (T.d.fact 86 (f := .cls "Unions") rfl)
  obtain ⟨fn_, fdn, mn, Fn_, bn⟩ := DU.ex
  refine F.ok scPW (fun vs H Q E h => ?_) (fun cdv A outer s H vs Q E hr h => ?_)
  · obtain ⟨t, pm, mv, wd, ms, a, b, rfl, _⟩ := h
    rfl
  · obtain ⟨t, pm, mv, wd, ms, a, b, rfl, R, FM, m7, hpm, lms, al, bl, k⟩ := h
    refine ⟨_, PSs.nox (pss_cons (ps_set (i := 4) scPW.nd rfl (.inl rfl) (pe_make mU FU hr rfl (T.gl 9 "Unions" rfl) bU .nil pass0 (pa_cons (pe_callB call_len_seq rfl zn boot_len (pa_cons (pv 0) pa_nil)) pa_nil)))
      (pss_cons (ps_expr (pe_meth (pv 4) cu mn Fn_ hr bn .nil pass0 (pa_cons (pv 2) (pa_cons (pv 3) pa_nil))))
      (pss_cons (ps_set (i := 5) scPW.nd rfl (.inl rfl) (pe_lst (pa_cons (pe_tup (pa_cons (pv 2) (pa_cons (pv 3) (pa_cons pe_str pa_nil)))) pa_nil)))
      (pss_cons (ps_set (i := 6) scPW.nd rfl (.inl rfl) pe_int)
      (pss_cons (ps_while PassesOwn.never (pt_cmpR op_lt (pv 6) (pe_callB call_len_seq rfl zn boot_len (pa_cons (pv 5) pa_nil)) (nomark _))
        (pss_cons (ps_asg (pe_ix ix_list (pv 5) (pv 6) (fun _ _ => rfl)) (pg_tup rfl (pgs_cons (pg_name (i := 2) scPW.nd rfl (.inl rfl)) (pgs_cons (pg_name (i := 3) scPW.nd rfl (.inl rfl)) (pgs_cons (pg_name (i := 7) scPW.nd rfl (.inl rfl)) pgs_nil)))))
        (pss_cons (ps_if (pt_cmpR op_ne (pe_ix ix_list (pv 1) (pv 2) (fun _ _ => rfl)) (pe_ix ix_list (pv 1) (pv 3) (fun _ _ => rfl)) (nomark _)) (pss_one (ps_ret (pv 7))) pss_nil)
        (pss_cons (ps_for PassesOwn.never rfl (pi_enumA rfl zE (pe_ix ix_tup (pv 0) (pv 2) (fun _ _ => rfl))) (pg_tup rfl (pgs_cons (pg_name (i := 8) scPW.nd rfl (.inl rfl)) (pgs_cons (pg_name (i := 9) scPW.nd rfl (.inl rfl)) pgs_nil)))
          (pss_one (ps_if (pt_val (pe_meth (pv 4) cu mn Fn_ hr bn .nil pass0 (pa_cons (pv 9) (pa_cons (pe_ix ix_tup (pe_ix ix_tup (pv 0) (pv 3) (fun _ _ => rfl)) (pv 8) (fun _ _ => rfl)) pa_nil))))
            (pss_one (ps_expr (pe_bm PySem.F.plainAttrs_list PySem.F.slot_list_append PySem.F.type_list_append mt_append (pv 5) (pa_cons (pe_tup (pa_cons (pv 9) (pa_cons (pe_ix ix_tup (pe_ix ix_tup (pv 0) (pv 3) (fun _ _ => rfl)) (pv 8) (fun _ _ => rfl)) (pa_cons (pe_op op_add_str (pv 7) (pe_ix ix_str (pe_gstr rfl gS) (pv 8) (fun _ _ => rfl))) pa_nil)))) pa_nil)))) pss_nil)))
        (pss_one (ps_aug (i := 6) scPW.nd rfl (.inl rfl) pe_int ip_add))))))
      (pss_one (ps_ret pe_non))))))), ?_⟩
    obtain ⟨as, sr, la, srow⟩ := R.ex
    obtain ⟨f1, f2, f4, f5⟩ := id FM
    have mm : mv.length * mv.length ≤ 490000 := Nat.mul_le_mul m7 m7
    refine ⟨_, rfl, t, as.map V.ref, rfl, .inr sr, fun x dx nx ndx xdx => ?_⟩
    rw [List.length_map, la]
    refine mkU (by omega) nx ndx xdx fun l H1 U s1 nl => ?_
    dsimp only
    have len0 : (List.range mv.length).length = mv.length := List.length_range
    obtain ⟨dx1, cc1, hx1, hl1⟩ := id U
    refine ⟨_, rfl, x, dx1, _, rfl, hx1, rfl, _, rfl, _, rfl, ⟨x, l, _, id, a, b, rfl, U, Uf.start, by omega, by omega, fun H2 t2 b2 U2 ln2 eq2 ne2 => ?_⟩⟩
    obtain ⟨cls, uf, sm, cov⟩ : ∃ cls, Uf.Uf t2 cls ∧ t2.sum ≤ (List.range mv.length).sum ∧ Cov mv.length (step mv) (mbl ms) cls [(a, b, [])] := by
      by_cases e : a = b
      · refine ⟨id, (eq2 e).2, (eq2 e).1, fun x y _ _ e2 v h => ?_⟩
        have e3 : x = y := e2
        subst e3
        exact (h rfl).elim
      · exact ⟨_, (ne2 e).2, by have := (ne2 e).1; omega, Cov.id.step (u := []) al bl⟩
    have s2 : Same H H2 := fun c o e => b2 _ _ (ne_of_none e nx) (ne_of_none e nl) (s1 _ _ e)
    have rs := Uf.range_sum (n := mv.length)
    have tl2 : t2.length = mv.length := by omega
    clear eq2 ne2 b2 hl1 hx1 U s1 ln2
    dsimp only
    refine ⟨_, rfl, _, rfl, (by show 3 ≤ sizeLine; decide), fun t0 nt0 => ⟨(by show 1 ≤ sizeLine; decide), fun pf npf => ?_⟩⟩
    have u3 := (same_upd (o := .tup [nv a, nv b, .str ("" : Str)]) nt0).trans (same_upd (o := .lst [.ref t0]) npf)
    have nt0p : t0 ≠ pf := fun z => by rw [z] at nt0; rw [← z, upd_same] at npf; cases npf
    have npf2 : H2 pf = none := by rw [upd_ne nt0p.symm] at npf; exact npf
    have s3 := s2.trans u3
    have U3 := U2.same u3
    have F3 : Fnd (L2.upd (L2.upd H2 t0 (.tup [nv a, nv b, .str ("" : Str)])) pf (.lst [.ref t0])) pf [(a, b, [])] := by
      refine ⟨[t0], upd_same, rfl, fun j y e h1 h2 => ?_⟩
      match j, h1, h2 with
      | 0, h1, h2 =>
        cases h1
        cases h2
        rw [upd_ne nt0p, upd_same]
        rfl
      | j + 1, h1, _ => simp at h1
    have npl : pf ≠ l := fun z => by
      obtain ⟨_, _, _, h4⟩ := U2
      rw [z, h4] at npf2
      cases npf2
    have npfH : H pf = none := nil_of s2 npf2
    generalize L2.upd (L2.upd H2 t0 (.tup [nv a, nv b, .str ("" : Str)])) pf (.lst [.ref t0]) = H3 at s3 U3 F3 ⊢
    clear u3 nt0 npf s2 U2 npf2 nt0p
    dsimp only
    refine ⟨fun m σ Hn => ∃ (v2 v3 : V) (v7 v8 v9 : Option V) (i : Nat) (F : List En) (tn : List Nat) (cn : Nat → Nat), m + i = mv.length * mv.length + 1 ∧ σ = [some (.ref t), some (.ref pm), some v2, some v3, some (.ref x), some (.ref pf), some (nv i), v7, v8, v9] ∧
      Same H Hn ∧ Un K Hn x l tn ∧ tn.length = mv.length ∧ Uf.Uf tn cn ∧ Fnd Hn pf F ∧ Srch wd (step mv) (step mv) (mbl ms) (mbl ms) a b F i 0 ∧ Cov mv.length (step mv) (mbl ms) cn F ∧ F.length + tn.sum ≤ mv.length * mv.length + 1 ∧ i ≤ F.length,
      ⟨mv.length * mv.length + 1, _, _, none, none, none, 0, _, t2, cls, rfl, rfl, s3, U3, tl2, uf, F3, Srch.start, cov, by show 1 + t2.sum ≤ _; omega, Nat.zero_le _⟩, ?_⟩
    rintro m σ Hn ⟨v2, v3, v7, v8, v9, i, Fs, tn, cn, em, rfl, sn, Un_, ltn, un, Fn, S, C, bd, il⟩
    obtain ⟨fas, hpf, lfas, hent⟩ := id Fn
    refine ⟨_, rfl, _, rfl, pf, _, rfl, .inl (SqL.of hpf), _, _, rfl, rfl, _, rfl, ?_⟩
    rw [List.length_map, lfas]
    refine ite2 (fun e0 => ?_) (fun e0 => ?_)
    rotate_left
    · have hi : Fs.length ≤ i := by
        refine Decidable.byContradiction fun z => e0 (decide_eq_true (by omega))
      exact k none Hn sn (S.none_ f2 hi)
    · have hi : i < Fs.length := by
        have := of_decide_eq_true e0
        omega
      obtain ⟨⟨y1, y2, u⟩, hF⟩ := lt_get hi
      obtain ⟨ta, hta⟩ := lt_get (show i < fas.length by omega)
      have htup := hent i ta _ hta hF
      obtain ⟨ou, e1, e2⟩ := S.ent i _ hF
      dsimp only at ou e1 e2 htup
      have ly1 : y1 < mv.length := by rw [e1]; exact lead_lt FM al ou
      have ly2 : y2 < mv.length := by rw [e2]; exact lead_lt FM bl ou
      obtain ⟨m1, hm1⟩ := lt_get (show y1 < ms.length by omega)
      obtain ⟨m2, hm2⟩ := lt_get (show y2 < ms.length by omega)
      have g1 : mbl ms y1 = m1 := by show ms.getD y1 false = _; rw [List.getD, hm1]; rfl
      have g2 : mbl ms y2 = m2 := by show ms.getD y2 false = _; rw [List.getD, hm2]; rfl
      have hpmn := sn _ _ hpm
      refine ⟨_, fun σ' H' z => z, ?_⟩
      refine ⟨_, rfl, _, rfl, pf, _, _, .ref ta, rfl, rfl, SqL.of hpf, atI_nat (get_map hta), ta, _, rfl, SqT.of htup, rfl, _, _, rfl, _, _, rfl, _, _, rfl, rfl, ?_⟩
      dsimp only
      refine ⟨_, rfl, _, rfl, pm, _, _, .bl m1, rfl, rfl, SqL.of hpmn, atI_nat (get_map hm1), _, rfl, _, rfl, pm, _, _, .bl m2, rfl, rfl, SqL.of hpmn, atI_nat (get_map hm2), rfl, _, rfl, ?_⟩
      refine ite2 (fun e3 => ?_) (fun e3 => ?_)
      · refine ⟨_, rfl, ?_⟩
        refine k (some u) Hn sn (S.found f2 hF ?_)
        rw [g1, g2]
        intro z
        rw [z] at e3
        simp at e3
      · have em12 : mbl ms y1 = mbl ms y2 := by
          rw [g1, g2]
          refine Decidable.byContradiction fun z => e3 ?_
          cases m1 <;> cases m2 <;> simp_all
        obtain ⟨a1, ha1⟩ := lt_get (show y1 < as.length by omega)
        obtain ⟨r1, hr1⟩ := lt_get ly1
        obtain ⟨a2, ha2⟩ := lt_get (show y2 < as.length by omega)
        obtain ⟨r2, hr2⟩ := lt_get ly2
        have sa1 := srow y1 a1 r1 ha1 hr1
        have sa2 := srow y2 a2 r2 ha2 hr2
        have lr1 := (f5 r1 (List.mem_of_getElem? hr1)).1
        have lr2 := (f5 r2 (List.mem_of_getElem? hr2)).1
        refine ⟨_, rfl, _, rfl, t, _, _, .ref a1, rfl, rfl, Lf.SqT.same sn sr, atI_nat (get_map ha1), a1, r1.map nv, rfl, for_enum (K := K) (H0 := H) (.inr sa1) (fun c σ' H' => ∃ (v8 v9 : Option V) (F' : List En) (t' : List Nat) (c' : Nat → Nat), σ' = [some (.ref t), some (.ref pm), some (nv y1), some (nv y2), some (.ref x), some (.ref pf), some (nv i), some (wv u), v8, v9] ∧
          Same H H' ∧ Un K H' x l t' ∧ t'.length = mv.length ∧ Uf.Uf t' c' ∧ Fnd H' pf F' ∧ Srch wd (step mv) (step mv) (mbl ms) (mbl ms) a b F' i c ∧ Cov mv.length (step mv) (mbl ms) c' F' ∧ F'.length + t'.sum ≤ mv.length * mv.length + 1 ∧ F'[i]? = some (y1, y2, u)) ⟨v8, v9, Fs, tn, cn, rfl, sn, Un_, ltn, un, Fn, S, C, bd, hF⟩ (fun c σ' H' _ ⟨_, _, _, _, _, _, s, _⟩ => s) ?_ ?_⟩
        · rintro c y σ' H' ⟨w8, w9, F', t', c', rfl, s', U', lt', uf', Fn', S', C', bd', hF'⟩ hy T0 nT0
          obtain ⟨e, he, rfl⟩ := map_get hy
          have cl : c < wd := by have := get_lt he; omega
          obtain ⟨_, hrow1, hst1, l1⟩ := step_lt FM ly1 cl
          rw [hr1] at hrow1
          cases hrow1
          rw [he] at hst1
          cases hst1
          obtain ⟨_, hrow2, hst2, l2⟩ := step_lt FM ly2 cl
          rw [hr2] at hrow2
          cases hrow2
          refine ⟨T0, _, rfl, SqT.of upd_same, rfl, _, _, rfl, _, _, rfl, rfl, ?_⟩
          have u4 := same_upd (o := .tup [.int (c : Nat), nv (step mv y1 c)]) nT0
          have s4 := s'.trans u4
          have U4 := U'.same u4
          have Fn4 := Fn'.same u4
          generalize L2.upd H' T0 (.tup [.int (c : Nat), nv (step mv y1 c)]) = H4 at s4 U4 Fn4 ⊢
          clear u4 nT0 Fn' U' s'
          dsimp only
          obtain ⟨dx4, cc4, hx4, hl4⟩ := id U4
          refine ⟨_, rfl, x, dx4, _, rfl, hx4, rfl, _, rfl, _, rfl, _, rfl, t, _, _, .ref a2, rfl, rfl, Lf.SqT.same s4 sr, atI_nat (get_map ha2), _, rfl, a2, _, _, nv (step mv y2 c), rfl, rfl, Lf.SqT.same s4 sa2, atI_nat (get_map hst2), ⟨x, l, t', c', step mv y1 c, step mv y2 c, rfl, U4, uf', by omega, by omega, fun H5 t5 b5 U5 ln5 eq5 ne5 => ?_⟩⟩
          have s5 : Same H H5 := fun z o e => b5 _ _ (ne_of_none e nx) (ne_of_none e nl) (s4 _ _ e)
          have Fn5 : Fnd H5 pf F' := Fn4.put U4 npl b5
          refine ⟨_, rfl, ?_⟩
          have st5 : t5.length = mv.length := by omega
          have hF5 := hF'
          refine ite2 (fun e6 => ?_) (fun e6 => ?_)
          · have ne6 := of_decide_eq_true e6
            obtain ⟨sm5, uf5⟩ := ne5 ne6
            obtain ⟨fas5, hpf5, lfas5, hent5⟩ := id Fn5
            have lenu := S'.len f2 _ i _ (Nat.lt_succ_self i) hF'
            have li := (List.getElem?_eq_some_iff.mp hF').1
            dsimp only at lenu
            have S6 := S'.new f2 cl hF'
            have C6 := C'.step (u := u ++ [c]) l1 l2
            refine ⟨_, rfl, .inl ⟨rfl, _, SqL.of hpf5⟩, _, rfl, _, rfl, _, rfl, t, _, _, .ref a2, rfl, rfl, Lf.SqT.same s5 sr, atI_nat (get_map ha2), _, rfl, a2, _, _, nv (step mv y2 c), rfl, rfl, Lf.SqT.same s5 sa2, atI_nat (get_map hst2), _, rfl, _, rfl, _, _, _, rfl, rfl, (by decide), atI_nat (signs_at (by omega)), ws u, ⟨#[97 + c]⟩, rfl, rfl, (by rw [ws_len]; show u.length + 1 ≤ 16777216; omega), (by show 3 ≤ sizeLine; decide), fun N nN => ?_⟩
            have u7 := same_upd (o := .tup [nv (step mv y1 c), nv (step mv y2 c), .str (ws u ++ ⟨#[97 + c]⟩)]) nN
            have Fn7 := Fn5.same u7
            have U7 := U5.same u7
            have s7 := s5.trans u7
            have hN : L2.upd H5 N (.tup [nv (step mv y1 c), nv (step mv y2 c), .str (ws u ++ ⟨#[97 + c]⟩)]) N = some (.tup [nv (step mv y1 c), nv (step mv y2 c), wv (u ++ [c])]) := by
              rw [upd_same, ws_app]
            generalize L2.upd H5 N (.tup [nv (step mv y1 c), nv (step mv y2 c), .str (ws u ++ ⟨#[97 + c]⟩)]) = H7 at Fn7 U7 s7 hN ⊢
            obtain ⟨xs8, h8, l8, Fn8⟩ := Fn7.app (e := (step mv y1 c, step mv y2 c, u ++ [c])) hN
            refine ⟨pf, _, _, rfl, rfl, h8, (by show xs8.length < 16777216; omega), ?_⟩
            refine ⟨_, _, _, t5, _, rfl, fun z o e => by rw [upd_ne (ne_of_none e npfH)]; exact s7 z o e, ?_, st5, uf5, Fn8, S6, C6, by rw [List.length_append, List.length_singleton]; omega, get_old hF'⟩
            obtain ⟨dx7, cc7, g1, g2⟩ := U7
            exact ⟨dx7, cc7, by rw [upd_ne (fun z => by rw [z, h8] at g1; cases g1)]; exact g1, by rw [upd_ne npl.symm]; exact g2⟩
          · have eq6 : c' (step mv y1 c) = c' (step mv y2 c) := Decidable.byContradiction fun z => e6 (decide_eq_true z)
            obtain ⟨sm5, uf5⟩ := eq5 eq6
            exact ⟨_, _, F', t5, c', rfl, s5, U5, st5, uf5, Fn5, S'.skip f2 hF' fun v h => C' _ _ l1 l2 eq6 v h, C', by omega, hF'⟩
        · rintro σ' H' ⟨w8, w9, F', t', c', rfl, s', U', lt', uf', Fn', S', C', bd', hF'⟩
          rw [List.length_map, lr1] at S'
          have := (List.getElem?_eq_some_iff.mp hF').1
          refine ⟨_, rfl, _, _, rfl, rfl, ?_⟩
          refine ⟨m - 1, by omega, _, _, _, _, _, i + 1, F', t', c', by omega, rfl, s', U', lt', uf', Fn', S'.next hF' em12, C', bd', by omega⟩
end
end K69

set_option Elab.async false
set_option linter.all false
set_option maxRecDepth 100000
set_option maxHeartbeats 8000000
namespace K69
open PySem PySem.Spec PyProof.Rows L2 Lf Apart
/-- a thing that may be asked -/
structure Ask (K : PySem.W.Frag) (H : Hp) (x : Addr) (rows : List (List Nat)) (wd start : Nat) (acc : List Nat) : Prop where
  t : Thg K H x rows start acc
  f : FormM rows wd
  n : rows.length ≤ 500
  s : start < rows.length
  a : ∀ i ∈ acc, i < rows.length
theorem Ask.same {K : PySem.W.Frag} {H H' : Hp} {x : Addr} {rows : List (List Nat)} {wd start : Nat} {acc : List Nat} (h : Ask K H x rows wd start acc) (e : Same H H') : Ask K H' x rows wd start acc := ⟨h.t.same e, h.f, h.n, h.s, h.a⟩
/-- which words just one of two things has -/
def DL (r1 : List (List Nat)) (s1 : Nat) (a1 : List Nat) (r2 : List (List Nat)) (s2 : Nat) (a2 : List Nat) (v : List Nat) : Prop := decide (lead r1 s1 v ∈ a1) ≠ decide (lead r2 s2 v ∈ a2)
/-- two tables numbered together -/
def cat2 (r1 r2 : List (List Nat)) : List (List Nat) := r1 ++ r2.map fun row => row.map fun e => r1.length + e
theorem cat2_len {r1 r2 : List (List Nat)} : (cat2 r1 r2).length = r1.length + r2.length := by unfold cat2; rw [List.length_append, List.length_map]
theorem cat2_form {r1 r2 : List (List Nat)} {wd : Nat} (F1 : FormM r1 wd) (F2 : FormM r2 wd) : FormM (cat2 r1 r2) wd := by
  refine ⟨by rw [cat2_len]; have := F1.1; omega, F1.2.1, F1.2.2.1, fun row hr => ?_⟩
  rw [cat2_len]
  unfold cat2 at hr
  rcases List.mem_append.mp hr with hr | hr
  · obtain ⟨a, b⟩ := F1.2.2.2 row hr
    exact ⟨a, fun t ht => by have := b t ht; omega⟩
  · obtain ⟨r, hr2, rfl⟩ := List.mem_map.mp hr
    obtain ⟨a, b⟩ := F2.2.2.2 r hr2
    refine ⟨by rw [List.length_map, a], fun t ht => ?_⟩
    obtain ⟨e, he, rfl⟩ := List.mem_map.mp ht
    have := b e he
    omega
theorem step_at {mv : List (List Nat)} {s c t : Nat} {row : List Nat} (h1 : mv[s]? = some row) (h2 : row[c]? = some t) : step mv s c = t := by
  unfold step
  rw [show mv.getD s [] = row by rw [List.getD, h1]; rfl, List.getD, h2]
  rfl
theorem run1 {r1 r2 : List (List Nat)} {wd : Nat} (F1 : FormM r1 wd) : ∀ {v : List Nat} {s : Nat}, s < r1.length → (∀ c ∈ v, c < wd) → run (step (cat2 r1 r2)) s v = lead r1 s v
  | [], s, _, _ => rfl
  | c :: v, s, hs, hv => by
    obtain ⟨row, g1, g2, g3⟩ := step_lt F1 hs (hv c List.mem_cons_self)
    have e : step (cat2 r1 r2) s c = step r1 s c := step_at (by unfold cat2; rw [List.getElem?_append_left hs]; exact g1) g2
    show run (step (cat2 r1 r2)) (step (cat2 r1 r2) s c) v = lead r1 (step r1 s c) v
    rw [e]
    exact run1 F1 g3 fun c h => hv c (List.mem_cons_of_mem _ h)
theorem run2 {r1 r2 : List (List Nat)} {wd : Nat} (F2 : FormM r2 wd) : ∀ {v : List Nat} {s : Nat}, s < r2.length → (∀ c ∈ v, c < wd) → run (step (cat2 r1 r2)) (r1.length + s) v = r1.length + lead r2 s v
  | [], s, _, _ => rfl
  | c :: v, s, hs, hv => by
    obtain ⟨row, g1, g2, g3⟩ := step_lt F2 hs (hv c List.mem_cons_self)
    have e : step (cat2 r1 r2) (r1.length + s) c = r1.length + step r2 s c := step_at (row := row.map fun e => r1.length + e) (by
      unfold cat2
      rw [List.getElem?_append_right (by omega), List.getElem?_map, show r1.length + s - r1.length = s by omega, g1]
      rfl) (by rw [List.getElem?_map, g2]; rfl)
    show run (step (cat2 r1 r2)) (step (cat2 r1 r2) (r1.length + s) c) v = r1.length + lead r2 (step r2 s c) v
    rw [e]
    exact run2 F2 g3 fun c h => hv c (List.mem_cons_of_mem _ h)
/-- the marks as they are kept -/
def mkb (n : Nat) (l : List Nat) : List Bool := (List.range n).map fun i => decide (i ∈ l)
theorem mkb_v {n : Nat} {l : List Nat} : mks n l = (mkb n l).map V.bl := by unfold mks mkb; rw [List.map_map]; rfl
theorem mkb_len {n : Nat} {l : List Nat} : (mkb n l).length = n := by unfold mkb; rw [List.length_map, List.length_range]
theorem mbl1 {n1 n2 : Nat} {l1 l2 : List Nat} {i : Nat} (h : i < n1) : mbl (mkb n1 l1 ++ mkb n2 l2) i = decide (i ∈ l1) := by
  show (mkb n1 l1 ++ mkb n2 l2).getD i false = _
  rw [List.getD, List.getElem?_append_left (by rw [mkb_len]; exact h)]
  unfold mkb
  rw [List.getElem?_map, List.getElem?_range h]
  rfl
theorem mbl2 {n1 n2 : Nat} {l1 l2 : List Nat} {i : Nat} (h : i < n2) : mbl (mkb n1 l1 ++ mkb n2 l2) (n1 + i) = decide (i ∈ l2) := by
  show (mkb n1 l1 ++ mkb n2 l2).getD (n1 + i) false = _
  rw [List.getD, List.getElem?_append_right (by rw [mkb_len]; omega), mkb_len, show n1 + i - n1 = i by omega]
  unfold mkb
  rw [List.getElem?_map, List.getElem?_range h]
  rfl
theorem least_cat {r1 r2 : List (List Nat)} {wd s1 s2 : Nat} {a1 a2 : List Nat} (F1 : FormM r1 wd) (F2 : FormM r2 wd) (h1 : s1 < r1.length) (h2 : s2 < r2.length) {o : Option (List Nat)}
    (h : IsLeast wd (D1 (step (cat2 r1 r2)) (mbl (mkb r1.length a1 ++ mkb r2.length a2)) s1 (r1.length + s2)) o) : IsLeast wd (DL r1 s1 a1 r2 s2 a2) o := by
  refine h.congr fun v hv => ?_
  show mbl _ (run _ s1 v) ≠ mbl _ (run _ (r1.length + s2) v) ↔ _
  rw [run1 F1 h1 hv, run2 F2 h2 hv, mbl1 (lead_lt F1 h1 hv), mbl2 (lead_lt F2 h2 hv)]
  exact Iff.rfl
theorem del_same {H H3 : Hp} {a : Addr} {o : HO} (s : Same H H3) (n : H3 a = none) : Same H (delH (L2.upd H3 a o) a) := fun b u e => by
  have e3 := s _ _ e
  have nb : b ≠ a := fun z => by rw [z, n] at e3; cases e3
  unfold delH
  rw [if_neg nb, upd_ne nb]
  exact e3
def spCkL (K : PySem.W.Frag) : Sp := fun vs H Q E => ∃ a b r1 w1 r2 w2, vs = [.ref a, .ref b] ∧ RowsT K H a r1 ∧ RowsT K H b r2 ∧ FormM r1 w1 ∧ FormM r2 w2 ∧ (w1 = w2 → Q .non H) ∧ (w1 ≠ w2 → ∀ H', Same H H' → E (.ref (He.ga K "OtherLetters")) none H')
def spUnl (K : PySem.W.Frag) : Sp := fun vs H Q E => ∃ a b r1 w1 s1 a1 r2 w2 s2 a2, vs = [.ref a, .ref b] ∧ Ask K H a r1 w1 s1 a1 ∧ Ask K H b r2 w2 s2 a2 ∧ r1.length + r2.length ≤ 700 ∧
  (w1 = w2 → ∀ o H', Same H H' → IsLeast w1 (DL r1 s1 a1 r2 s2 a2) o → Q (oW o) H') ∧ (w1 ≠ w2 → ∀ H', Same H H' → E (.ref (He.ga K "OtherLetters")) none H')
abbrev NUL : List Str := ["one", "other", "rows", "first", "marks", "other_rows", "second", "other_marks", "many", "row", "end"]
def scUl1 : Scope := { kind := .function, names := [(".0", .local), ("row", .local), ("tuple", .globalImplicit), ("many", .cell)], isGenerator := false, isCoroutine := false }
abbrev teAdd : TE := tOp rAdd (tVar 8) (tVar 10)
section
variable {P : Program} {w : World} {K : PySem.W.Frag} {mg : Str → Option Value} {base : Heap}
theorem scCkL : FnScope ["rows", "other_rows"] ["rows", "other_rows"] (defScope s_check_letters) := ⟨rfl, rfl, rfl, by decide +kernel, rfl, by decide +kernel, by decide +kernel⟩
theorem ok_ckL {f : Addr} {fd : FuncData} {q : Str} (F : FunD K "_check_letters" q (defArgs s_check_letters) (defBody s_check_letters) (defScope s_check_letters) [] [] f fd) (T : Txt P w K mg base) :
    FnOk P w K mg base (L2.CX P w) 1 f fd ["rows", "other_rows"] (spCkL K) := by
  have zn : mg "len" = none := T.fr 59 "len" rfl
  have k0 := T.d.fact 109 (f := .exc "OtherLetters") rfl
  refine F.ok scCkL (fun vs H Q E h => ?_) (fun cdv A outer s H vs Q E hr h => ?_)
  · obtain ⟨a, b, r1, w1, r2, w2, rfl, _⟩ := h
    rfl
  · obtain ⟨a, b, r1, w1, r2, w2, rfl, R1, R2, F1, F2, kq, ke⟩ := h
    refine ⟨_, pss_one (ps_if (pt_cmpR op_ne (pe_callB call_len_seq rfl zn boot_len (pa_cons (pe_ix ix_tup (pv 0) pe_int (fun _ _ => rfl)) pa_nil)) (pe_callB call_len_seq rfl zn boot_len (pa_cons (pe_ix ix_tup (pv 1) pe_int (fun _ _ => rfl)) pa_nil)) (nomark _))
      (pss_one (ps_raise rfl (takes_of rfl rfl rfl rfl) (pmk_ret rfl (pe_bare PySem.F.excBase_ValueError (He.exc_ok k0).1 (T.gl 4 "OtherLetters" rfl) (He.exc_ok k0).2.1 rfl)))) pss_nil), ?_⟩
    obtain ⟨as, sr, la, srow⟩ := R1.ex
    obtain ⟨bs, sb, lb, brow⟩ := R2.ex
    obtain ⟨x0, hx0⟩ := lt_get (show 0 < as.length by have := F1.1; omega)
    obtain ⟨y0, hy0⟩ := lt_get (show 0 < bs.length by have := F2.1; omega)
    obtain ⟨p0, hp0⟩ := lt_get (show 0 < r1.length by have := F1.1; omega)
    obtain ⟨q0, hq0⟩ := lt_get (show 0 < r2.length by have := F2.1; omega)
    have l1 := (F1.2.2.2 p0 (List.mem_of_getElem? hp0)).1
    have l2 := (F2.2.2.2 q0 (List.mem_of_getElem? hq0)).1
    refine ⟨_, rfl, a, as.map V.ref, 0, .ref x0, rfl, rfl, sr, atI_nat (j := 0) (get_map hx0), x0, p0.map nv, rfl, .inr (srow 0 x0 p0 hx0 hp0), _, rfl, b, bs.map V.ref, 0, .ref y0, rfl, rfl, sb, atI_nat (j := 0) (get_map hy0), y0, q0.map nv, rfl, .inr (brow 0 y0 q0 hy0 hq0), rfl, _, rfl, ?_⟩
    rw [List.length_map, List.length_map, l1, l2]
    refine ite2 (fun e => ?_) (fun e => ?_)
    · intro x nx
      exact ⟨x, _, rfl, upd_same, fr0_none nx, raises_own (He.exc_ok k0).2.2.1 (He.exc_ok k0).2.2.2, ke (nvNe.mp e) _ (del_same (L2.Same.refl _) nx)⟩
    · exact kq (Decidable.byContradiction fun z => e (nvNe.mpr z))
theorem scUl : FnScope NUL ["one", "other"] (defScope s_unlike_word) := ⟨rfl, rfl, rfl, by decide +kernel, rfl, by decide +kernel, by decide +kernel⟩
theorem ok_ul {f : Addr} {fd : FuncData} {q : Str} (F : FunD K "unlike_word" q (defArgs s_unlike_word) (defBody s_unlike_word) (defScope s_unlike_word) [] [] f fd) (T : Txt P w K mg base)
    (DS : Def P w K mg base CX0 2 "_states_of" ["thing"] (spSt K)) (DC : Def P w K mg base (L2.CX P w) 1 "_check_letters" ["rows", "other_rows"] (spCkL K)) (DP : Def P w K mg base CX0 3 "_parting_word" ["rows", "marks", "one", "other"] (spPart K)) :
    FnOk P w K mg base (L2.CX P w) 4 f fd ["one", "other"] (spUnl K) := by
  have zn : mg "len" = none := T.fr 59 "len" rfl
  have zt : mg "tuple" = none := T.fr 66 "tuple" rfl
  refine F.ok scUl (fun vs H Q E h => ?_) (fun cdv A outer s H vs Q E hr h => ?_)
  · obtain ⟨a, b, r1, w1, s1, a1, r2, w2, s2, a2, rfl, _⟩ := h
    rfl
  · obtain ⟨a, b, r1, w1, s1, a1, r2, w2, s2, a2, rfl, A1, A2, l7, kq, ke⟩ := h
    have R1 : Room 1 _ := hr.mono (by decide)
    have R2 : Room 2 _ := hr.mono (by decide)
    refine ⟨_, pss_cons (ps_asg (pe_def DS R2 pass0 rfl (pa_cons (pv 0) pa_nil)) (pg_tup rfl (pgs_cons (pg_name (i := 2) scUl.nd rfl (.inl rfl)) (pgs_cons (pg_name (i := 3) scUl.nd rfl (.inl rfl)) (pgs_cons (pg_name (i := 4) scUl.nd rfl (.inl rfl)) pgs_nil)))))
      (pss_cons (ps_asg (pe_def DS R2 pass0 rfl (pa_cons (pv 1) pa_nil)) (pg_tup rfl (pgs_cons (pg_name (i := 5) scUl.nd rfl (.inl rfl)) (pgs_cons (pg_name (i := 6) scUl.nd rfl (.inl rfl)) (pgs_cons (pg_name (i := 7) scUl.nd rfl (.inl rfl)) pgs_nil)))))
      (pss_cons (ps_expr (pe_def DC R1 (passes_call (E := E) (takes_of rfl rfl rfl rfl) fun _ _ _ _ z => z) rfl (pa_cons (pv 2) (pa_cons (pv 5) pa_nil))))
      (PSs.nox (pss_cons (ps_set (i := 8) scUl.nd rfl (.inr rfl) (pe_callB call_len_seq rfl zn boot_len (pa_cons (pv 2) pa_nil)))
      (pss_cons (ps_set (i := 2) scUl.nd rfl (.inl rfl) (pe_op op_catT (pv 2) (pe_callTy call_tuple_of rfl zt PyProof.Rows.boot_tuple (pa_cons (pe_lc (own := [("row", 9)]) (g := gName 9) (te := tCB (rTup K) (tCons (tLc (iTup K (tVar 9)) (gName 10) tYes teAdd [10]) tNil)) (by rfl) scUl.nd (pi_tup (pv 5)) (blkOk_by (own := [("row", 9)]) (N := NUL) (sc := defScope s_unlike_word) (by decide +kernel)) (fun _ _ _ _ _ => pg_name (i := 9) scUl.nd rfl (Or.inl rfl)) (fun _ _ _ _ _ => pts_nil)
        (fun _ _ _ _ _ => by
          refine pe_callTy call_tuple_of rfl zt PyProof.Rows.boot_tuple (pa_cons ?_ pa_nil)
          refine pe_lc (own := [("end", 10)]) (g := gName 10) (by rfl) scUl.nd (pi_tup (pv 9)) (blkOk_by (own := [("end", 10)]) (N := NUL) (sc := scUl1) (by decide +kernel)) (fun _ _ _ _ _ => ?_) (fun _ _ _ _ _ => pts_nil) (fun _ _ _ _ _ => ?_)
          · exact pg_name (i := 10) scUl.nd rfl (Or.inl rfl)
          · exact pe_op op_add (pv 8) (pv 10))) pa_nil))))
      (pss_cons (ps_set (i := 4) scUl.nd rfl (.inl rfl) (pe_op op_catL (pv 4) (pv 7)))
      (pss_one (ps_ret (pe_def DP hr pass0 rfl (pa_cons (pv 2) (pa_cons (pv 4) (pa_cons (pv 3) (pa_cons (pe_op op_add (pv 8) (pv 6)) pa_nil))))))))))))), ?_⟩
    refine ⟨_, rfl, a, r1, s1, a1, rfl, A1.t, A1.f.1, A1.n, A1.a, fun T1 t1 pm1 H1 e1 hT1 Rt1 hm1 => ⟨T1, _, rfl, SqT.of hT1, rfl, _, _, rfl, _, _, rfl, _, _, rfl, rfl, ?_⟩⟩
    dsimp only
    have B2 := A2.same e1
    refine ⟨_, rfl, b, r2, s2, a2, rfl, B2.t, B2.f.1, B2.n, B2.a, fun T2 t2 pm2 H2 e2 hT2 Rt2 hm2 => ⟨T2, _, rfl, SqT.of hT2, rfl, _, _, rfl, _, _, rfl, _, _, rfl, rfl, ?_⟩⟩
    dsimp only
    have e12 := e1.trans e2
    have Rt1' := Rt1.same e2
    have hm1' := e2 _ _ hm1
    obtain ⟨as, sr, la, srow⟩ := Rt1'.ex
    obtain ⟨bs, sb, lb, brow⟩ := Rt2.ex
    have F1 := A1.f
    have F2 := A2.f
    refine ⟨_, rfl, _, rfl, t1, t2, r1, w1, r2, w2, rfl, Rt1', Rt2, F1, F2, fun ew => ?_, fun ne H' e' => ke ne H' (e12.trans e')⟩
    subst ew
    have hs1 := A1.s
    have hs2 := A2.s
    refine ⟨_, rfl, t1, as.map V.ref, rfl, .inr sr, ?_⟩
    rw [List.length_map, la]
    refine ⟨_, rfl, _, rfl, t2, rfl, ⟨_, sb⟩, fun D nD => ?_⟩
    refine lc_tup (K := K) (a := t2) (xs := bs.map V.ref) (fun i Hc => But D H2 Hc ∧ ∃ us : List Addr, us.length = i ∧ Hc D = some (.lst (us.map V.ref)) ∧ ∀ (j : Nat) u row, us[j]? = some u → r2[j]? = some row → Hc u = some (.tup ((row.map fun e => r1.length + e).map nv))) ⟨But.upd, [], rfl, upd_same, fun j u row h => by simp at h⟩ (fun i Hc _ ⟨bc, _⟩ => Lf.SqT.same (Same.but (L2.Same.refl _) nD bc) sb) (fun i z Hc hz ⟨bc, us, lu, hD, pu⟩ => ?_) (fun Hc ⟨bc, us, lu, hD, pu⟩ => ?_)
    · obtain ⟨x, hx, rfl⟩ := map_get hz
      obtain ⟨row, hrow⟩ := lt_get (show i < r2.length by have := get_lt hx; omega)
      have sc := Same.but (L2.Same.refl _) nD bc
      have sx := Lf.SqT.same sc (brow i x row hx hrow)
      refine ⟨rfl, yesT ?_⟩
      refine ⟨_, rfl, x, rfl, ⟨_, sx⟩, fun B nB => ?_⟩
      have nBD : B ≠ D := fun z => by rw [z, hD] at nB; cases nB
      have lrow := (F2.2.2.2 row (List.mem_of_getElem? hrow)).1
      refine lc_tup (K := K) (a := x) (xs := row.map nv) (fun j He => But B Hc He ∧ He B = some (.lst (((row.take j).map fun e => r1.length + e).map nv))) ⟨But.upd, upd_same⟩ (fun j He _ ⟨be, _⟩ => Lf.SqT.same (Same.but (L2.Same.refl _) nB be) sx) (fun j z He hz ⟨be, hB⟩ => ?_) (fun He ⟨be, hB⟩ => ?_)
      · obtain ⟨e, he, rfl⟩ := map_get hz
        refine ⟨rfl, yesT ?_⟩
        refine ⟨_, rfl, _, rfl, _, _, rfl, rfl, _, hB, ?_, be.trans But.upd, ?_⟩
        · rw [List.length_map, List.length_map, List.length_take]
          have := F2.2.2.1
          show min j row.length < 16777216
          omega
        · rw [upd_same, take_snoc he, List.map_append, List.map_append]
          rfl
      · rw [List.length_map, List.take_length] at hB
        have se := Same.but (L2.Same.refl _) nB be
        refine ⟨B, _, rfl, .inl ⟨SqL.of hB, fun u nu => ?_⟩⟩
        have u2 := se.trans (same_upd (o := .tup ((row.map fun e => r1.length + e).map nv)) nu)
        have hu : L2.upd He u (.tup ((row.map fun e => r1.length + e).map nv)) u = some (.tup ((row.map fun e => r1.length + e).map nv)) := upd_same
        generalize L2.upd He u (.tup ((row.map fun e => r1.length + e).map nv)) = H4 at u2 hu ⊢
        have hD2 := u2 _ _ hD
        have nuD : u ≠ D := fun z => by rw [z, hD2] at hu; cases hu
        refine ⟨_, hD2, by rw [List.length_map, lu]; have := get_lt hrow; have := B2.n; show i < 16777216; omega, But.trans (bc.trans (But.of u2)) But.upd, us ++ [u], by simp [lu], by rw [upd_same]; simp, fun j v rw' h1 h2 => ?_⟩
        rcases Mon.snoc_cases h1 with h1 | ⟨rfl, rfl⟩
        · have z := u2 _ _ (pu j v rw' h1 h2)
          rw [upd_ne (fun y => by rw [y, hD2] at z; cases z)]
          exact z
        · rw [lu, hrow] at h2
          cases h2
          rw [upd_ne nuD]
          exact hu
    · have sc := Same.but (L2.Same.refl _) nD bc
      have lus : us.length = r2.length := by rw [lu, List.length_map, lb]
      refine ⟨D, _, rfl, .inl ⟨SqL.of hD, fun t nt => ?_⟩⟩
      have ut := same_upd (o := .tup (us.map V.ref)) nt
      have hut : L2.upd Hc t (.tup (us.map V.ref)) t = some (.tup (us.map V.ref)) := upd_same
      have pu3 : ∀ (j : Nat) u row, us[j]? = some u → r2[j]? = some row → L2.upd Hc t (.tup (us.map V.ref)) u = some (.tup ((row.map fun e => r1.length + e).map nv)) := fun j u row h1 h2 => ut _ _ (pu j u row h1 h2)
      have e3 := sc.trans ut
      generalize L2.upd Hc t (.tup (us.map V.ref)) = H3 at e3 hut pu3 ⊢
      have lpos : 1 ≤ r1.length := F1.1
      have lpos2 : 1 ≤ r2.length := F2.1
      refine ⟨t1, t, as.map V.ref, us.map V.ref, rfl, rfl, Lf.SqT.same e3 sr, SqT.of hut, fun z => ?_, by rw [List.length_map, List.length_map, la, lus]; show _ ≤ 16777216; omega, fun z => ?_, fun _ p np => ?_⟩
      · have := congrArg List.length z
        rw [List.length_map, la] at this
        have h0 : ([] : List V).length = 0 := rfl
        omega
      · have := congrArg List.length z
        rw [List.length_map, lus] at this
        have h0 : ([] : List V).length = 0 := rfl
        omega
      have hcat : L2.upd H3 p (.tup (as.map V.ref ++ us.map V.ref)) p = some (.tup ((as ++ us).map V.ref)) := by rw [upd_same, List.map_append]
      have e4 := e3.trans (same_upd (o := .tup (as.map V.ref ++ us.map V.ref)) np)
      have pu4 : ∀ (j : Nat) u row, us[j]? = some u → r2[j]? = some row → L2.upd H3 p (.tup (as.map V.ref ++ us.map V.ref)) u = some (.tup ((row.map fun e => r1.length + e).map nv)) := fun j u row h1 h2 => same_upd np _ _ (pu3 j u row h1 h2)
      generalize L2.upd H3 p (.tup (as.map V.ref ++ us.map V.ref)) = H4 at e4 hcat pu4 ⊢
      have RC : RowsT K H4 p (cat2 r1 r2) := by
        refine ⟨as ++ us, SqT.of hcat, by rw [List.length_append, cat2_len, la, lus], fun i a' row h1 h2 => ?_⟩
        unfold cat2 at h2
        by_cases hi : i < r1.length
        · rw [List.getElem?_append_left (by omega)] at h1
          rw [List.getElem?_append_left hi] at h2
          exact Lf.SqT.same e4 (srow i a' row h1 h2)
        · rw [List.getElem?_append_right (by omega), la] at h1
          rw [List.getElem?_append_right (by omega), List.getElem?_map] at h2
          obtain ⟨row2, hrow2⟩ : ∃ row2, r2[i - r1.length]? = some row2 := lt_get (by have := get_lt h1; omega)
          rw [hrow2] at h2
          cases h2
          exact SqT.of (pu4 _ a' row2 h1 hrow2)
      dsimp only
      have hmk1 := e4 _ _ hm1'
      have hmk2 := e4 _ _ hm2
      rw [mkb_v] at hmk1 hmk2
      refine ⟨_, rfl, _, rfl, pm1, pm2, _, _, rfl, rfl, SqL.of hmk1, SqL.of hmk2, by rw [List.length_map, List.length_map, mkb_len, mkb_len]; show _ ≤ 16777216; omega, fun pc npc => ?_⟩
      rw [← List.map_append]
      have e5 := same_upd (o := .lst ((mkb r1.length a1 ++ mkb r2.length a2).map V.bl)) npc
      have hpc : L2.upd H4 pc (.lst ((mkb r1.length a1 ++ mkb r2.length a2).map V.bl)) pc = some (.lst ((mkb r1.length a1 ++ mkb r2.length a2).map V.bl)) := upd_same
      have RC5 := RC.same e5
      generalize L2.upd H4 pc (.lst ((mkb r1.length a1 ++ mkb r2.length a2).map V.bl)) = H5 at e5 hpc RC5 ⊢
      dsimp only
      refine ⟨_, rfl, _, rfl, _, rfl, _, rfl, _, rfl, _, _, rfl, rfl, ⟨p, pc, cat2 r1 r2, w1, _, s1, r1.length + s2, rfl, RC5, cat2_form F1 F2, by rw [cat2_len]; omega, hpc, by rw [List.length_append, mkb_len, mkb_len, cat2_len], by rw [cat2_len]; omega, by rw [cat2_len]; omega, fun o H6 e6 il => ?_⟩⟩
      exact kq rfl o H6 (e12.trans (e4.trans (e5.trans e6))) (least_cat F1 F2 hs1 hs2 il)
end
end K69

set_option Elab.async false
set_option linter.all false
set_option maxRecDepth 100000
set_option maxHeartbeats 8000000
namespace K69
open PySem PySem.Spec PyProof.Rows L2 Lf Hop
/-- the first state of the block of s, of the states up to i -/
def fstU (blk : List Nat) (i b : Nat) : Option Nat := (List.range i).find? fun t => decide (bo blk t = b)
theorem fstU_step {blk : List Nat} {i b : Nat} : fstU blk (i + 1) b = (fstU blk i b).or (if bo blk i = b then some i else none) := by
  unfold fstU
  rw [List.range_succ, List.find?_append, List.find?_cons]
  by_cases z : bo blk i = b
  · rw [if_pos z, show (decide (bo blk i = b)) = true from decide_eq_true z]
  · rw [if_neg z, show (decide (bo blk i = b)) = false from decide_eq_false z]
    rfl
def al (blk : List Nat) (s : Nat) : Nat := (fstU blk (s + 1) (bo blk s)).getD 0
/-- what least_alike tells -/
structure Alike (mv : List (List Nat)) (wd : Nat) (ms : List Bool) (blk : List Nat) : Prop where
  len : blk.length = mv.length
  mark : ∀ (s t : Nat) m m', ms[s]? = some m → ms[t]? = some m' → bo blk s = bo blk t → m = m'
  st : ∀ s t c, s < mv.length → t < mv.length → c < wd → bo blk s = bo blk t → bo blk (step mv s c) = bo blk (step mv t c)
/-- for each letter and each state a list -/
structure Beg (H : Hp) (D : Addr) (as : List Addr) (fl : List (List Addr)) (n : Nat) (cur : Nat → Nat → List Nat) : Prop where
  d : H D = some (.lst (as.map V.ref))
  la : as.length = fl.length
  ro : ∀ (c : Nat) a L, as[c]? = some a → fl[c]? = some L → H a = some (.lst (L.map V.ref)) ∧ L.length = n ∧ a ≠ D
  el : ∀ (c : Nat) L (e : Nat) p, fl[c]? = some L → L[e]? = some p → H p = some (.lst ((cur c e).map nv)) ∧ p ≠ D
  inj : ∀ (c : Nat) L (e : Nat) p (c' : Nat) L' (e' : Nat), fl[c]? = some L → L[e]? = some p → fl[c']? = some L' → L'[e']? = some p → c = c' ∧ e = e'
theorem Beg.same {H H' : Hp} {D : Addr} {as : List Addr} {fl : List (List Addr)} {n : Nat} {cur : Nat → Nat → List Nat} (h : Beg H D as fl n cur) (e : Same H H') : Beg H' D as fl n cur :=
  ⟨e _ _ h.d, h.la, fun c a L h1 h2 => ⟨e _ _ (h.ro c a L h1 h2).1, (h.ro c a L h1 h2).2⟩, fun c L x p h1 h2 => ⟨e _ _ (h.el c L x p h1 h2).1, (h.el c L x p h1 h2).2⟩, h.inj⟩
theorem BkO.same {K : PySem.W.Frag} {H H' : Hp} {x pb pm pw pi : Addr} {ds : List Addr} {blk : List Nat} {mem : List (List Nat)} {wait : List Nat} {isw : List Bool} (B : BkO K H x pb pm pw pi ds blk mem wait isw) (e : Same H H') : BkO K H' x pb pm pw pi ds blk mem wait isw := by
  obtain ⟨dx, ho⟩ := B.ob
  exact ⟨⟨dx, e _ _ ho⟩, e _ _ B.b, e _ _ B.m, B.ml, fun j d L h1 h2 => e _ _ (B.md j d L h1 h2), B.nd, e _ _ B.w, e _ _ B.i, B.n1, B.n2, B.n3, B.n4, B.n5, B.n6⟩
theorem BkO.off {K : PySem.W.Frag} {H : Hp} {x pb pm pw pi pd : Addr} {ds : List Addr} {blk : List Nat} {mem : List (List Nat)} {wait : List Nat} {isw : List Bool} {ob : Obj} {u o : HO} (B : BkO K H x pb pm pw pi ds blk mem wait isw) (h : H pd = some (.frz ob u)) : BkO K (L2.upd H pd o) x pb pm pw pi ds blk mem wait isw := by
  obtain ⟨dx, ho⟩ := B.ob
  have f : ∀ {b : Addr} {w : HO}, H b = some w → (∀ ob u, w ≠ .frz ob u) → L2.upd H pd o b = some w := fun {b w} e n => by
    rw [upd_ne]
    · exact e
    · intro z
      rw [z, h] at e
      exact n _ _ (Option.some.inj e).symm
  exact ⟨⟨dx, f ho (fun _ _ z => by cases z)⟩, f B.b (fun _ _ z => by cases z), f B.m (fun _ _ z => by cases z), B.ml, fun j d L h1 h2 => f (B.md j d L h1 h2) (fun _ _ z => by cases z), B.nd, f B.w (fun _ _ z => by cases z), f B.i (fun _ _ z => by cases z), B.n1, B.n2, B.n3, B.n4, B.n5, B.n6⟩
theorem BkO.dict {K : PySem.W.Frag} {H : Hp} {x pb pm pw pi : Addr} {ds : List Addr} {blk : List Nat} {mem : List (List Nat)} {wait : List Nat} {isw : List Bool} (B : BkO K H x pb pm pw pi ds blk mem wait isw) {d : Addr} (hd : d ∈ ds) : ∃ L, H d = some (.dK (dkT L)) := by
  obtain ⟨j, hj⟩ := List.getElem?_of_mem hd
  obtain ⟨L, hL⟩ := lt_get (show j < mem.length by rw [← B.ml]; exact get_lt hj)
  exact ⟨L, B.md j d L hj hL⟩
theorem Beg.congr {H : Hp} {D : Addr} {as : List Addr} {fl : List (List Addr)} {n : Nat} {cur cur' : Nat → Nat → List Nat} (h : Beg H D as fl n cur) (e : ∀ c, c < fl.length → ∀ x, cur c x = cur' c x) : Beg H D as fl n cur' :=
  ⟨h.d, h.la, h.ro, fun c L x p h1 h2 => by rw [← e c (get_lt h1)]; exact h.el c L x p h1 h2, h.inj⟩
theorem refs_ne {L : List Addr} {ns : List Nat} (h : 1 ≤ L.length) : L.map V.ref ≠ ns.map nv := fun z => by
  match L, ns, h, z with
  | _ :: _, [], _, z => cases z
  | _ :: _, _ :: _, _, z => cases z
theorem Beg.put {H : Hp} {D : Addr} {as : List Addr} {fl : List (List Addr)} {n : Nat} {cur cur' : Nat → Nat → List Nat} (h : Beg H D as fl n cur) (n1 : 1 ≤ n) {c e s : Nat} {L : List Addr} {p : Addr} (hL : fl[c]? = some L) (hp : L[e]? = some p)
    (hc : ∀ c' e', cur' c' e' = if c' = c ∧ e' = e then cur c e ++ [s] else cur c' e') : Beg (L2.upd H p (.lst ((cur c e).map nv ++ [nv s]))) D as fl n cur' := by
  obtain ⟨q1, q2⟩ := h.el c L e p hL hp
  refine ⟨by rw [upd_ne q2.symm]; exact h.d, h.la, fun c' a L' h1 h2 => ?_, fun c' L' e' p' h1 h2 => ?_, h.inj⟩
  · obtain ⟨r1, r2, r3⟩ := h.ro c' a L' h1 h2
    refine ⟨?_, r2, r3⟩
    rw [upd_ne]
    · exact r1
    · intro z
      rw [z, q1] at r1
      exact refs_ne (L := L') (ns := cur c e) (by omega) (HO.lst.inj (Option.some.inj r1)).symm
  · obtain ⟨r1, r2⟩ := h.el c' L' e' p' h1 h2
    refine ⟨?_, r2⟩
    rw [hc]
    by_cases z : p' = p
    · subst z
      obtain ⟨rfl, rfl⟩ := h.inj c L e p' c' L' e' hL hp h1 h2
      rw [if_pos ⟨rfl, rfl⟩, upd_same, List.map_append]
      rfl
    · rw [upd_ne z, if_neg]
      · exact r1
      · rintro ⟨rfl, rfl⟩
        rw [hL] at h1
        cases h1
        rw [hp] at h2
        cases h2
        exact z rfl
theorem beg_step {n : Nat} {d : Nat → Nat → Nat} {c e : Nat} : beg (n + 1) d c e = if d n c = e then beg n d c e ++ [n] else beg n d c e := by
  unfold beg
  rw [List.range_succ, List.filter_append, List.filter_cons]
  by_cases z : d n c = e
  · rw [if_pos (decide_eq_true z), if_pos z]
    rfl
  · rw [if_neg (by rw [decide_eq_true_iff]; exact z), if_neg z]
    simp
/-- what stands there when letter j of state i is due -/
def curB (d : Nat → Nat → Nat) (i j c e : Nat) : List Nat := if c < j then beg (i + 1) d c e else beg i d c e
theorem curB_step {d : Nat → Nat → Nat} {i j e : Nat} (es : d i j = e) (c' e' : Nat) : curB d i (j + 1) c' e' = if c' = j ∧ e' = e then curB d i j j e ++ [i] else curB d i j c' e' := by
  unfold curB
  rcases Nat.lt_trichotomy c' j with h | h | h
  · rw [if_pos (show c' < j + 1 by omega), if_neg (show ¬ (c' = j ∧ e' = e) from fun q => by have := q.1; omega), if_pos h]
  · subst h
    rw [if_pos (show c' < c' + 1 by omega), if_neg (show ¬ c' < c' by omega), if_neg (show ¬ c' < c' by omega), beg_step, es]
    by_cases y : e = e'
    · subst y
      rw [if_pos rfl, if_pos ⟨rfl, rfl⟩]
    · rw [if_neg y, if_neg (fun q => y q.2.symm)]
  · rw [if_neg (show ¬ c' < j + 1 by omega), if_neg (show ¬ (c' = j ∧ e' = e) from fun q => by have := q.1; omega), if_neg (show ¬ c' < j by omega)]
/-- the groups as a dict of lists -/
def gk (G : List (Nat × List Nat)) (gas : List Addr) : List (Key × V) := List.zipWith (fun e a => (ik e.1, V.ref a)) G gas
theorem gk_none {b : Nat} : ∀ {G : List (Nat × List Nat)} {gas : List Addr}, (∀ e ∈ G, e.1 ≠ b) → valV (gk G gas) (ik b) = none
  | [], _, _ => rfl
  | _ :: _, [], _ => rfl
  | e :: G, a :: gas, h => by
    show valV ((ik e.1, V.ref a) :: gk G gas) _ = none
    rw [valV_neg fun z => h e List.mem_cons_self (ik_inj z)]
    exact gk_none fun f hf => h f (List.mem_cons_of_mem _ hf)
theorem gk_some : ∀ {G : List (Nat × List Nat)} {gas : List Addr} {j : Nat} {e : Nat × List Nat} {a : Addr}, (G.map (·.1)).Nodup → G[j]? = some e → gas[j]? = some a → valV (gk G gas) (ik e.1) = some (.ref a)
  | [], _, _, _, _, _, h, _ => by simp at h
  | _ :: _, [], _, _, _, _, _, h => by simp at h
  | x :: G, y :: gas, 0, e, a, _, h1, h2 => by
    cases h1
    cases h2
    exact valV_pos (p := (ik x.1, V.ref y)) rfl
  | x :: G, y :: gas, j + 1, e, a, nd, h1, h2 => by
    rw [List.map_cons, List.nodup_cons] at nd
    have h1' : G[j]? = some e := h1
    show valV ((ik x.1, V.ref y) :: gk G gas) _ = _
    rw [valV_neg fun z => nd.1 (by rw [ik_inj z]; exact List.mem_map_of_mem (List.mem_of_getElem? h1'))]
    exact gk_some nd.2 h1' h2
theorem gk_snoc : ∀ {G : List (Nat × List Nat)} {gas : List Addr} {e : Nat × List Nat} {a : Addr}, gas.length = G.length → gk (G ++ [e]) (gas ++ [a]) = gk G gas ++ [(ik e.1, V.ref a)]
  | [], [], _, _, _ => rfl
  | [], _ :: _, _, _, h => by simp at h
  | _ :: _, [], _, _, h => by simp at h
  | x :: G, y :: gas, e, a, h => by
    show (ik x.1, V.ref y) :: gk (G ++ [e]) (gas ++ [a]) = _
    rw [gk_snoc (by simpa using h)]
    rfl
theorem gk_set : ∀ {G : List (Nat × List Nat)} {gas : List Addr} {j : Nat} {e e' : Nat × List Nat}, G[j]? = some e → e'.1 = e.1 → gk (G.set j e') gas = gk G gas
  | [], _, _, _, _, h, _ => by simp at h
  | x :: G, [], 0, _, _, _, _ => rfl
  | x :: G, [], j + 1, _, _, _, _ => rfl
  | x :: G, y :: gas, 0, e, e', h, z => by
    cases h
    show (ik e'.1, V.ref y) :: gk G gas = (ik x.1, V.ref y) :: gk G gas
    rw [z]
  | x :: G, y :: gas, j + 1, e, e', h, z => by
    show (ik x.1, V.ref y) :: gk (G.set j e') gas = (ik x.1, V.ref y) :: gk G gas
    rw [gk_set (show G[j]? = some e from h) z]
theorem gk_get : ∀ {G : List (Nat × List Nat)} {gas : List Addr} {j : Nat} {e : Nat × List Nat} {a : Addr}, G[j]? = some e → gas[j]? = some a → (gk G gas)[j]? = some (ik e.1, V.ref a)
  | [], _, _, _, _, h, _ => by simp at h
  | _ :: _, [], _, _, _, _, h => by simp at h
  | x :: G, y :: gas, 0, e, a, h1, h2 => by cases h1; cases h2; rfl
  | x :: G, y :: gas, j + 1, e, a, h1, h2 => gk_get (G := G) (gas := gas) (j := j) h1 h2
theorem gk_len {G : List (Nat × List Nat)} {gas : List Addr} (h : gas.length = G.length) : (gk G gas).length = G.length := by
  unfold gk
  rw [List.length_zipWith, h, Nat.min_self]
/-- .. as it lies; the lists are new behind H4 -/
structure Gl (H4 H : Hp) (pd : Addr) (G : List (Nat × List Nat)) (gas : List Addr) : Prop where
  d : H pd = some (.dK (gk G gas))
  lg : gas.length = G.length
  ls : ∀ (j : Nat) e a, G[j]? = some e → gas[j]? = some a → H a = some (.lst (e.2.map nv)) ∧ H4 a = none
  nd : gas.Nodup
  fr : ∀ b o, b ≠ pd → H4 b = some o → H b = some o
theorem Gl.pda {H4 H : Hp} {pd : Addr} {G : List (Nat × List Nat)} {gas : List Addr} (h : Gl H4 H pd G gas) {a : Addr} (ha : a ∈ gas) : a ≠ pd := fun z => by
  obtain ⟨j, hj⟩ := List.getElem?_of_mem ha
  obtain ⟨e, he⟩ := lt_get (show j < G.length by rw [← h.lg]; exact get_lt hj)
  have := (h.ls j e a he hj).1
  rw [z, h.d] at this
  cases this
theorem Gl.junk {H4 H : Hp} {pd q0 : Addr} {G : List (Nat × List Nat)} {gas : List Addr} {o : HO} (h : Gl H4 H pd G gas) (n : H q0 = none) : Gl H4 (L2.upd H q0 o) pd G gas := by
  have u := same_upd (o := o) n
  exact ⟨u _ _ h.d, h.lg, fun j e a h1 h2 => ⟨u _ _ (h.ls j e a h1 h2).1, (h.ls j e a h1 h2).2⟩, h.nd, fun b o n1 e => u _ _ (h.fr b o n1 e)⟩
theorem Gl.old {H4 H : Hp} {pd a : Addr} {G : List (Nat × List Nat)} {gas : List Addr} {j b t : Nat} {T : List Nat} (h : Gl H4 H pd G gas) (hj : G[j]? = some (b, T)) (ha : gas[j]? = some a) : Gl H4 (L2.upd H a (.lst (T.map nv ++ [nv t]))) pd (G.set j (b, T ++ [t])) gas := by
  obtain ⟨l1, l2⟩ := h.ls j _ a hj ha
  have apd := h.pda (List.mem_of_getElem? ha)
  refine ⟨by rw [upd_ne apd.symm, gk_set (e' := (b, T ++ [t])) hj rfl]; exact h.d, by rw [List.length_set]; exact h.lg, fun i e c h1 h2 => ?_, h.nd, fun c o n1 e => ?_⟩
  · rw [List.getElem?_set] at h1
    by_cases z : j = i
    · subst z
      rw [if_pos rfl, if_pos (get_lt hj)] at h1
      cases h1
      rw [ha] at h2
      cases h2
      exact ⟨by rw [upd_same, List.map_append]; rfl, l2⟩
    · rw [if_neg z] at h1
      obtain ⟨k1, k2⟩ := h.ls i e c h1 h2
      exact ⟨by rw [upd_ne (fun y => z (Mon.nodup_at h.nd ha (by rw [← y]; exact h2)))]; exact k1, k2⟩
  · rw [upd_ne (ne_of_none e l2)]
    exact h.fr c o n1 e
theorem Gl.new {H4 H : Hp} {pd q0 : Addr} {G : List (Nat × List Nat)} {gas : List Addr} {b t : Nat} (h : Gl H4 H pd G gas) (hn : ∀ e ∈ G, e.1 ≠ b) (n : H q0 = none) (n4 : H4 pd ≠ none) :
    Gl H4 (L2.upd (L2.upd (L2.upd H q0 (.lst [])) pd (.dK (putK (gk G gas) (ik b) (.ref q0)))) q0 (.lst ([] ++ [nv t]))) pd (G ++ [(b, [t])]) (gas ++ [q0]) := by
  have qpd : q0 ≠ pd := fun z => by rw [z, h.d] at n; cases n
  have q4 : H4 q0 = none := by
    cases e : H4 q0 with
    | none => rfl
    | some o => rw [h.fr _ _ qpd e] at n; cases n
  have qg : ∀ a ∈ gas, a ≠ q0 := fun a ha z => by
    obtain ⟨j, hj⟩ := List.getElem?_of_mem ha
    obtain ⟨e, he⟩ := lt_get (show j < G.length by rw [← h.lg]; exact get_lt hj)
    have := (h.ls j e a he hj).1
    rw [z, n] at this
    cases this
  refine ⟨by rw [upd_ne qpd.symm, upd_same, putK_new _ (gk_none hn), gk_snoc h.lg], by rw [List.length_append, List.length_append, h.lg]; rfl, fun i e c h1 h2 => ?_, ?_, fun c o n1 e => ?_⟩
  · rcases Mon.snoc_cases h1 with g1 | ⟨z1, z2⟩
    · rcases Mon.snoc_cases h2 with g2 | ⟨z3, z4⟩
      · obtain ⟨k1, k2⟩ := h.ls i e c g1 g2
        have cm := List.mem_of_getElem? g2
        exact ⟨by rw [upd_ne (qg c cm), upd_ne (h.pda cm), upd_ne (qg c cm)]; exact k1, k2⟩
      · have := get_lt g1
        rw [← h.lg] at this
        omega
    · rcases Mon.snoc_cases h2 with g2 | ⟨z3, z4⟩
      · have := get_lt g2
        rw [h.lg] at this
        omega
      · subst z2 z4
        exact ⟨by rw [upd_same]; rfl, q4⟩
  · rw [List.nodup_append]
    refine ⟨h.nd, by simp, fun y hy z hz => ?_⟩
    rw [List.mem_singleton.mp hz]
    exact qg y hy
  · rw [upd_ne (ne_of_none e q4), upd_ne n1, upd_ne (ne_of_none e q4)]
    exact h.fr c o n1 e
theorem mkBk {K : PySem.W.Frag} {H : Hp} {x dx a : Addr} {ms : List Bool} {W : Hp → Prop} (ha : H a = some (.lst (ms.map V.bl))) (l6 : ms.length ≤ 600) (nx : H x = none) (ndx : H dx = none) (xdx : dx ≠ x)
    (k : ∀ pb pm pw pi ds blk bs H3, Same H H3 → (H pb = none ∧ H pm = none ∧ H pw = none ∧ H pi = none ∧ ∀ d ∈ ds, H d = none) → Num ms bs blk → BkO K H3 x pb pm pw pi ds blk ((List.range bs.length).map (mem0 blk ms.length)) (List.range bs.length) (List.replicate bs.length true) → W H3) :
    spBi K [.ref x, .ref a] (L2.upd (L2.upd H dx (.own x)) x (.ins (He.ga K "Blocks") dx [])) (fun v H2 => v = .non ∧ W H2) E0 := by
  have u1 := same_upd (o := .own x) ndx
  have nx1 : L2.upd H dx (.own x) x = none := by rw [upd_ne (Ne.symm xdx)]; exact nx
  have u2 := u1.trans (same_upd (o := .ins (He.ga K "Blocks") dx []) nx1)
  refine ⟨x, a, dx, ms, rfl, upd_same, u2 _ _ ha, l6, fun pb pm pw pi ds blk bs H3 b3 fr N B => ⟨rfl, k pb pm pw pi ds blk bs H3 (fun b o e => b3 _ _ (ne_of_none e nx) (u2 _ _ e)) ⟨nil_of u2 fr.1, nil_of u2 fr.2.1, nil_of u2 fr.2.2.1, nil_of u2 fr.2.2.2.1, fun d hd => nil_of u2 (fr.2.2.2.2 d hd)⟩ N B⟩⟩
def spLA (K : PySem.W.Frag) : Sp := fun vs H Q _ => ∃ (r pm : Addr) (mv : List (List Nat)) (wd : Nat) (ms : List Bool), vs = [.ref r, .ref pm] ∧ RowsL K H r mv ∧ FormM mv wd ∧ mv.length ≤ 600 ∧ H pm = some (.lst (ms.map V.bl)) ∧ ms.length = mv.length ∧
  ∀ D blk H', Same H H' → H D = none → H' D = some (.lst ((List.range mv.length).map fun s => nv (al blk s))) → Alike mv wd ms blk → Q (.ref D) H'
abbrev NLA : List Str := ["rows", "marks", "begins", "state", "row", "letter", "end", "blocks", "ends", "lines", "found", "states", "leasts", "_", "block"]
def scLa1 : Scope := { kind := .function, names := [(".0", .local), ("_", .local), ("rows", .cell)], isGenerator := false, isCoroutine := false }
section
variable {P : Program} {w : World} {K : PySem.W.Frag} {mg : Str → Option Value} {base : Heap}
theorem scLA : FnScope NLA ["rows", "marks"] (defScope s_least_alike) := ⟨rfl, rfl, rfl, by decide +kernel, rfl, by decide +kernel, by decide +kernel⟩
theorem ok_la {f : Addr} {fd : FuncData} {q : Str} (F : FunD K "least_alike" q (defArgs s_least_alike) (defBody s_least_alike) (defScope s_least_alike) [] [] f fd) (T : Txt P w K mg base)
    {fb : Addr} {fdb : FuncData} (mB : Mk K (He.ga K "Blocks") fb) (FB : FnOk P w K mg base CX0 1 fb fdb ["self", "marks"] (spBi K)) (bB : Binds K fdb ["self", "marks"] [])
    (DT : DefC P w K mg base CX0 1 "Blocks" "taken" ["self"] (spTaken K)) (DS : DefC P w K mg base CX0 1 "Blocks" "set_apart" ["self", "states"] (spSet K)) :
    FnOk P w K mg base CX0 3 f fd ["rows", "marks"] (spLA K) := by
  have zE : mg "enumerate" = none := T.fr 56 "enumerate" rfl
  have cb : L2.Cls K (He.ga K "Blocks") := He.cls_ok (T.d.fact 78 (f := .cls "Blocks") rfl)
  have n1 : NoAttr K (He.ga K "Blocks") "block_of" := He.noat_ok (T.d.fact 82 (f := .noat "Blocks" "block_of") rfl)
  have n3 : NoAttr K (He.ga K "Blocks") "waiting" := He.noat_ok (T.d.fact 84 (f := .noat "Blocks" "waiting") rfl)
  obtain ⟨ft, fdt, mt, Ft, bt⟩ := DT.ex
  obtain ⟨fs, fds, mS, Fs, bs⟩ := DS.ex
  refine F.ok scLA (fun vs H Q E h => ?_) (fun cdv A outer s H vs Q E hr h => ?_)
  · obtain ⟨r, pm, mv, wd, ms, rfl, _⟩ := h
    rfl
  · obtain ⟨r, pm, mv, wd, ms, rfl, R, FM, n6, hpm, lms, k⟩ := h
    have hu : (A.deeper (envOfC q (defScope s_least_alike) s.heap.objs.size f cdv)).units + 1 < cLine := by have := hr.units; omega
    have r1 : Room 1 _ := hr.mono (by decide)
    refine ⟨_, PSs.nox (pss_cons (ps_setLc (i := 2) (own := [("_", 13)]) (g := gName 13) (te := tLc (iList K (tVar 0)) (gName 13) tYes (tLst tNil) [13]) rfl scLA.nd rfl rfl (by rfl) (pi_list (pe_ix ix_list (pv 0) pe_int (fun _ _ => rfl))) (blkOk_by (own := [("_", 13)]) (N := NLA) (sc := defScope s_least_alike) (by decide +kernel)) (fun _ _ _ _ _ => pg_name (i := 13) scLA.nd rfl (Or.inl rfl)) (fun _ _ _ _ _ => pts_nil)
        (fun _ _ _ _ _ => by
          refine pe_lc (own := [("_", 13)]) (g := gName 13) (by rfl) scLA.nd (pi_list (pv 0)) (blkOk_by (own := [("_", 13)]) (N := NLA) (sc := scLa1) (by decide +kernel)) (fun _ _ _ _ _ => ?_) (fun _ _ _ _ _ => pts_nil) (fun _ _ _ _ _ => ?_)
          · exact pg_name (i := 13) scLA.nd rfl (Or.inl rfl)
          · exact pe_lst pa_nil))
      (pss_cons (ps_for PassesOwn.never rfl (pi_enumA rfl zE (pv 0)) (pg_tup rfl (pgs_cons (pg_name (i := 3) scLA.nd rfl (.inl rfl)) (pgs_cons (pg_name (i := 4) scLA.nd rfl (.inl rfl)) pgs_nil)))
        (pss_one (ps_for PassesOwn.never rfl (pi_enumA rfl zE (pv 4)) (pg_tup rfl (pgs_cons (pg_name (i := 5) scLA.nd rfl (.inl rfl)) (pgs_cons (pg_name (i := 6) scLA.nd rfl (.inl rfl)) pgs_nil)))
          (pss_one (ps_expr (pe_bm PySem.F.plainAttrs_list PySem.F.slot_list_append PySem.F.type_list_append mt_append (pe_ix ix_list (pe_ix ix_list (pv 2) (pv 5) (fun _ _ => rfl)) (pv 6) (fun _ _ => rfl)) (pa_cons (pv 3) pa_nil)))))))
      (pss_cons (ps_set (i := 7) scLA.nd rfl (.inl rfl) (pe_make mB FB hr rfl (T.gl 8 "Blocks" rfl) bB .nil pass0 (pa_cons (pv 1) pa_nil)))
      (pss_cons (ps_while PassesOwn.never (pt_truth (pe_fld (pv 7) rfl) (by intro _; rfl))
        (pss_cons (ps_set (i := 8) scLA.nd rfl (.inl rfl) (pe_meth0 (pv 7) cb mt Ft r1 bt .nil pass0))
        (pss_one (ps_for PassesOwn.never rfl (pi_list (pv 2)) (pg_name (i := 9) scLA.nd rfl (.inl rfl))
          (pss_cons (ps_set (i := 10) scLA.nd rfl (.inl rfl) pe_dnewK)
          (pss_cons (ps_for PassesOwn.never rfl (pi_list (pv 8)) (pg_name (i := 6) scLA.nd rfl (.inl rfl))
            (pss_one (ps_for PassesOwn.never rfl (pi_list (pe_ix ix_list (pv 9) (pv 6) (fun _ _ => rfl))) (pg_name (i := 3) scLA.nd rfl (.inl rfl))
              (pss_one (ps_expr (pe_bm PySem.F.plainAttrs_list PySem.F.slot_list_append PySem.F.type_list_append mt_append (pe_dsetd (pv 10) (pe_ix ix_list (pe_fld (pv 7) rfl) (pv 3) (fun _ _ => rfl)) (pe_lst pa_nil) ⟨rfl, rfl, rfl, rfl⟩) (pa_cons (pv 3) pa_nil)))))))
          (pss_one (ps_lock (ps_for PassesOwn.never rfl (pi_values (pv 10)) (pg_name (i := 11) scLA.nd rfl (.inl rfl))
            (pss_one (ps_expr (pe_meth (pv 7) cb mS Fs r1 bs .nil pass0 (pa_cons (pv 11) pa_nil)))))))))))))
      (pss_cons (ps_set (i := 12) scLA.nd rfl (.inr rfl) pe_dnewK)
      (pss_one (ps_ret (pe_lc (own := [("state", 3), ("block", 14)]) (g := gTup K 2 (gCons (gName 3) (gCons (gName 14) gNil))) (te := tDSetd (tVar 12) (tVar 14) (tVar 3)) (by rfl) scLA.nd (pi_enumA rfl zE (pe_fld (pv 7) rfl)) (blkOk_by (own := [("state", 3), ("block", 14)]) (N := NLA) (sc := defScope s_least_alike) (by decide +kernel)) (fun _ _ _ _ _ => by exact pg_tup rfl (pgs_cons (pg_name (i := 3) scLA.nd rfl (.inl rfl)) (pgs_cons (pg_name (i := 14) scLA.nd rfl (.inl rfl)) pgs_nil))) (fun _ _ _ _ _ => pts_nil)
        (fun _ _ _ _ _ => by exact pe_dsetd (pv 12) (pv 14) (pv 3) ⟨rfl, rfl, rfl, rfl⟩)))))))))  , ?_⟩
    obtain ⟨as, sr, la, srow⟩ := R.ex
    obtain ⟨f1, f2, f4, f5⟩ := id FM
    obtain ⟨a0, ha0⟩ := lt_get (show 0 < as.length by omega)
    obtain ⟨w0, hw0⟩ := lt_get (show 0 < mv.length by omega)
    have lw0 := (f5 w0 (List.mem_of_getElem? hw0)).1
    refine ⟨_, rfl, r, _, 0, .ref a0, rfl, rfl, sr, atI_nat (j := 0) (get_map ha0), a0, rfl, ⟨_, srow 0 a0 w0 ha0 hw0⟩, fun D nD => ?_⟩
    refine lc_list (K := K) (a := a0) (xs := w0.map nv) (fun c Hc => Same H Hc ∧ ∃ bs fl, bs.length = c ∧ Beg Hc D bs fl mv.length (fun _ _ => []) ∧ ∀ L ∈ fl, ∀ p ∈ L, H p = none) ⟨same_upd nD, [], [], rfl, ⟨upd_same, rfl, fun c a L h => by simp at h, fun c L e p h => by simp at h, fun c L e p c' L' e' h => by simp at h⟩, fun L h => nomatch h⟩ (fun c Hc _ ⟨sc, _⟩ => L2.Same.seq sc (srow 0 a0 w0 ha0 hw0)) (fun c z Hc hz ⟨sc, bs', fl, lb, BG, fr⟩ => ?_) (fun Hc ⟨sc, bs', fl, lb, BG, fr⟩ => ?_)
    · have cl := get_lt hz
      rw [List.length_map, lw0] at cl
      refine ⟨rfl, yesT ?_⟩
      refine ⟨_, rfl, r, rfl, ⟨_, L2.Same.seq sc sr⟩, fun B nB => ?_⟩
      have BD : B ≠ D := fun z => by rw [z, BG.d] at nB; cases nB
      refine lc_list (K := K) (a := r) (xs := as.map V.ref) (fun i He => Same Hc He ∧ ∃ L : List Addr, L.length = i ∧ He B = some (.lst (L.map V.ref)) ∧ L.Nodup ∧ ∀ p ∈ L, He p = some (.lst []) ∧ Hc p = none ∧ p ≠ B) ⟨same_upd nB, [], rfl, upd_same, List.nodup_nil, fun p h => nomatch h⟩ (fun i He _ ⟨se, _⟩ => L2.Same.seq (sc.trans se) sr) (fun i z He hz ⟨se, L, lL, hB, nL, pL⟩ => ?_) (fun He ⟨se, L, lL, hB, nL, pL⟩ => ?_)
      · have il := get_lt hz
        rw [List.length_map, la] at il
        refine ⟨rfl, yesT ?_⟩
        refine ⟨(by show 0 ≤ sizeLine; decide), fun p np => ?_⟩
        have pB : p ≠ B := fun z => by rw [z, hB] at np; cases np
        have pc : Hc p = none := nil_of se np
        refine ⟨_, by rw [upd_ne pB.symm]; exact hB, by rw [List.length_map, lL]; show i < 16777216; omega, fun b o e => by rw [upd_ne (ne_of_none e nB), upd_ne (ne_of_none e pc)]; exact se _ _ e, L ++ [p], by rw [List.length_append, lL]; rfl, by rw [upd_same, List.map_append]; rfl, ?_, fun y hy => ?_⟩
        · rw [List.nodup_append]
          refine ⟨nL, by simp, fun y hy z hz => ?_⟩
          rw [List.mem_singleton.mp hz]
          intro q
          have := (pL y hy).1
          rw [q, np] at this
          cases this
        · rcases List.mem_append.mp hy with hy | hy
          · obtain ⟨y1, y2, y3⟩ := pL y hy
            refine ⟨?_, y2, y3⟩
            rw [upd_ne y3, upd_ne (fun z => by rw [z, np] at y1; cases y1)]
            exact y1
          · rw [List.mem_singleton.mp hy]
            exact ⟨by rw [upd_ne pB, upd_same], pc, pB⟩
      · rw [List.length_map, la] at lL
        have BG2 := BG.same se
        have hL0 : ∀ p ∈ L, H p = none := fun p hp => nil_of sc (pL p hp).2.1
        have nDH : H D = none := nD
        refine ⟨_, BG2.d, by rw [List.length_map, lb]; show c < 16777216; omega, fun b o e => by rw [upd_ne (ne_of_none e nDH)]; exact se _ _ (sc _ _ e), bs' ++ [B], fl ++ [L], by rw [List.length_append, lb]; rfl, ⟨by rw [upd_same, List.map_append]; rfl, by rw [List.length_append, List.length_append, BG.la]; rfl, fun c' a' L' h1 h2 => ?_, fun c' L' e p h1 h2 => ?_, fun c1 L1 e1 p c2 L2 e2 h1 h2 h3 h4 => ?_⟩, fun L' hL' => ?_⟩
        · rcases Mon.snoc_cases h1 with h1 | ⟨z1, z2⟩
          · rcases Mon.snoc_cases h2 with h2 | ⟨z3, z4⟩
            · obtain ⟨y1, y2, y3⟩ := BG2.ro c' a' L' h1 h2
              exact ⟨by rw [upd_ne y3]; exact y1, y2, y3⟩
            · have := get_lt h1
              rw [BG.la] at this
              omega
          · rcases Mon.snoc_cases h2 with h2 | ⟨z3, z4⟩
            · have := get_lt h2
              rw [← BG.la] at this
              omega
            · subst z2 z4
              exact ⟨by rw [upd_ne BD]; exact hB, lL, BD⟩
        · rcases Mon.snoc_cases h1 with h1 | ⟨z1, z2⟩
          · obtain ⟨y1, y2⟩ := BG2.el c' L' e p h1 h2
            exact ⟨by rw [upd_ne y2]; exact y1, y2⟩
          · subst z2
            obtain ⟨y1, y2, y3⟩ := pL p (List.mem_of_getElem? h2)
            have pD : p ≠ D := fun z => by rw [z, BG.d] at y2; cases y2
            exact ⟨by rw [upd_ne pD]; exact y1, pD⟩
        · have old : ∀ {c L e p}, fl[c]? = some L → L[e]? = some p → Hc p ≠ none := fun {c L e p} a1 a2 z => by
            rw [(BG.el c L e p a1 a2).1] at z
            cases z
          rcases Mon.snoc_cases h1 with g1 | ⟨z1, z2⟩
          · rcases Mon.snoc_cases h3 with g3 | ⟨z3, z4⟩
            · exact BG.inj c1 L1 e1 p c2 L2 e2 g1 h2 g3 h4
            · exact (old g1 h2 (pL p (by rw [← z4]; exact List.mem_of_getElem? h4)).2.1).elim
          · rcases Mon.snoc_cases h3 with g3 | ⟨z3, z4⟩
            · exact (old g3 h4 (pL p (by rw [← z2]; exact List.mem_of_getElem? h2)).2.1).elim
            · exact ⟨by omega, Mon.nodup_at nL (by rw [← z2]; exact h2) (by rw [← z4]; exact h4)⟩
        · rcases List.mem_append.mp hL' with h | h
          · exact fr L' h
          · rw [List.mem_singleton.mp h]
            exact hL0
    · rw [List.length_map, lw0] at lb
      have lfl : fl.length = wd := by rw [← BG.la, lb]
      have DH : H D = none := nD
      dsimp only
      refine ⟨_, rfl, r, _, rfl, for_enum (K := K) (H0 := H) (.inl sr) (fun i σ' H' => ∃ v3 v4 v5 v6 : Option V, σ' = [some (.ref r), some (.ref pm), some (.ref D), v3, v4, v5, v6, none, none, none, none, none, none, none, none] ∧ Same H H' ∧ Beg H' D bs' fl mv.length (curB (step mv) i 0))
        ⟨none, none, none, none, rfl, sc, BG.congr fun c _ x => by unfold curB; rw [if_neg (by omega)]; rfl⟩ (fun i σ' H' _ ⟨_, _, _, _, _, s, _⟩ => s) ?_ ?_⟩
      · rintro i y σ' H' ⟨v3, v4, v5, v6, rfl, s', B'⟩ hy T0 nT0
        obtain ⟨a, ha, rfl⟩ := map_get hy
        have il : i < mv.length := by rw [← la]; exact get_lt ha
        obtain ⟨row, hrow⟩ := lt_get il
        obtain ⟨lrow, brow⟩ := f5 row (List.mem_of_getElem? hrow)
        refine ⟨T0, _, rfl, SqT.of upd_same, rfl, _, _, rfl, _, _, rfl, rfl, ?_⟩
        have u4 := same_upd (o := .tup [.int (i : Nat), .ref a]) nT0
        have s4 := s'.trans u4
        have B4 := B'.same u4
        generalize L2.upd H' T0 (.tup [.int (i : Nat), .ref a]) = H4 at s4 B4 ⊢
        clear u4 nT0 s' B'
        dsimp only
        refine ⟨_, rfl, a, _, rfl, for_enum (K := K) (H0 := H) (.inl (srow i a row ha hrow)) (fun j σ' H' => ∃ v5 v6 : Option V, σ' = [some (.ref r), some (.ref pm), some (.ref D), some (nv i), some (.ref a), v5, v6, none, none, none, none, none, none, none, none] ∧ Same H H' ∧ Beg H' D bs' fl mv.length (curB (step mv) i j)) ⟨_, _, rfl, s4, B4⟩ (fun i σ' H' _ ⟨_, _, _, s, _⟩ => s) ?_ ?_⟩
        · rintro j y σ' H' ⟨v5, v6, rfl, s', B'⟩ hy2 T1 nT1
          obtain ⟨e, he, rfl⟩ := map_get hy2
          have jl : j < wd := by rw [← lrow]; exact get_lt he
          have el := brow e (List.mem_of_getElem? he)
          have es := K69.step_at hrow he
          refine ⟨T1, _, rfl, SqT.of upd_same, rfl, _, _, rfl, _, _, rfl, rfl, ?_⟩
          have u4 := same_upd (o := .tup [.int (j : Nat), nv e]) nT1
          have s5 := s'.trans u4
          have B5 := B'.same u4
          generalize L2.upd H' T1 (.tup [.int (j : Nat), nv e]) = H5 at s5 B5 ⊢
          clear u4 nT1 s' B'
          dsimp only
          obtain ⟨b, hb⟩ := lt_get (show j < bs'.length by omega)
          obtain ⟨L, hL⟩ := lt_get (show j < fl.length by omega)
          obtain ⟨r1, r2, r3⟩ := B5.ro j b L hb hL
          obtain ⟨p, hp⟩ := lt_get (show e < L.length by omega)
          obtain ⟨q1, q2⟩ := B5.el j L e p hL hp
          have pH := fr L (List.mem_of_getElem? hL) p (List.mem_of_getElem? hp)
          have cl : (curB (step mv) i j j e).length ≤ i := by
            unfold curB
            rw [if_neg (by omega)]
            unfold beg
            have := List.length_filter_le (fun s => decide (step mv s j = e)) (List.range i)
            rw [List.length_range] at this
            exact this
          refine ⟨_, rfl, _, rfl, D, _, _, .ref b, rfl, rfl, SqL.of B5.d, atI_nat (get_map hb), _, rfl, b, _, _, .ref p, rfl, rfl, SqL.of r1, atI_nat (get_map hp), .inl ⟨rfl, _, SqL.of q1⟩, _, rfl, p, _, _, rfl, rfl, q1, by rw [List.length_map]; show (curB (step mv) i j j e).length < 16777216; omega, ?_⟩
          refine ⟨_, _, rfl, fun b o x => by rw [upd_ne (ne_of_none x pH)]; exact s5 _ _ x, B5.put f1 hL hp fun c' e' => ?_⟩
          exact curB_step es c' e'
        · rintro σ' H' ⟨v5, v6, rfl, s', B'⟩
          rw [List.length_map, lrow] at B'
          refine ⟨_, _, _, _, rfl, s', B'.congr fun c hc x => ?_⟩
          unfold curB
          rw [if_pos (by omega), if_neg (by omega)]
      · rintro σ' H1 ⟨v3, v4, v5, v6, rfl, s1, B1⟩
        rw [List.length_map, la] at B1
        have B1 : Beg H1 D bs' fl mv.length (fun c e => beg mv.length (step mv) c e) := B1.congr fun c hc x => by unfold curB; rw [if_neg (by omega)]
        dsimp only
        refine ⟨_, rfl, fun x dx nx ndx xdx => ?_⟩
        refine mkBk (s1 _ _ hpm) (by omega) nx ndx xdx fun qb qm qw qi ds blk bb H2 s2 fr2 N B2 => ?_
        have stl : ∀ {u c : Nat}, u < mv.length → c < wd → step mv u c < mv.length := fun hu hc => by
          obtain ⟨_, _, _, z⟩ := step_lt FM hu hc
          exact z
        rw [lms] at B2
        have G2 := N.bk
        rw [lms] at G2
        have S2 : Stab mv.length wd (step mv) (bo blk) (List.range bb.length) (fun _ => False) wd := fun s t c hs ht hc _ _ => by
          refine .inl (List.mem_range.mpr ?_)
          have := G2.lt (step mv s c) _ (at_bo (by rw [G2.len]; exact stl hs hc))
          rw [List.length_map, List.length_range] at this
          exact this
        have M2 : ∀ (s t : Nat) m m', ms[s]? = some m → ms[t]? = some m' → bo blk s = bo blk t → m = m' := fun s t m m' h1 h2 h3 => (N.marks h1 h2).mp h3
        dsimp only
        refine ⟨fun m σ Hn => ∃ (v3 v4 v5 v6 v8 v9 v10 v11 : Option V) (ds : List Addr) (blk : List Nat) (mem : List (List Nat)) (wait : List Nat) (isw : List Bool), m = wait.length + 2 * (mv.length - mem.length) ∧
          σ = [some (.ref r), some (.ref pm), some (.ref D), v3, v4, v5, v6, some (.ref x), v8, v9, v10, v11, none, none, none] ∧ Same H1 Hn ∧ BkO K Hn x qb qm qw qi ds blk mem wait isw ∧ Bk mv.length blk mem wait isw ∧ (∀ d ∈ ds, H1 d = none) ∧ Stab mv.length wd (step mv) (bo blk) wait (fun _ => False) wd ∧
          (∀ (s t : Nat) m m', ms[s]? = some m → ms[t]? = some m' → bo blk s = bo blk t → m = m'), ⟨_, v3, v4, v5, v6, none, none, none, none, ds, blk, _, _, _, rfl, rfl, s2, B2, G2, fr2.2.2.2.2, S2, M2⟩, ?_⟩
        clear S2 M2 B2 G2
        obtain ⟨fb1, fb2, fb3, fb4, _⟩ := fr2
        rintro m σ Hn ⟨v3, v4, v5, v6, v8, v9, v10, v11, ds, blk, mem, wait, isw, em, rfl, sn, B, G, fd_, S, M⟩
        obtain ⟨dx', ho⟩ := B.ob
        refine ⟨_, rfl, x, _, dx', _, _, rfl, ho, cb, n3, rfl, _, .inl ⟨_, SqL.of B.w, rfl⟩, ?_⟩
        refine ite2 (fun e0 => ?_) (fun e0 => ?_)
        · have wne : wait ≠ [] := fun z => by rw [z] at e0; cases e0
          obtain ⟨W, X, rfl⟩ : ∃ W X, wait = W ++ [X] := ⟨wait.dropLast, wait.getLast wne, (List.dropLast_concat_getLast wne).symm⟩
          have xl : X < isw.length := get_lt ((G.isw X).mpr (by simp))
          obtain ⟨L, hL⟩ := lt_get (show X < mem.length by rw [← G.isl]; exact xl)
          obtain ⟨lm1, lm2, lm3⟩ := G.mb X L hL
          refine ⟨_, fun σ' H' z => z, ?_⟩
          refine ⟨_, rfl, x, dx', _, rfl, ho, rfl, ⟨x, qb, qm, qw, qi, ds, mv.length, blk, mem, W, isw, X, L, rfl, B, hL, xl, fun l H3 bb3 nl3 B3 hl3 => ?_⟩⟩
          have G3 := G.take
          have S3 := S.take
          have s3 : Same H1 H3 := fun b o e => bb3 b o (ne_of_none e fb1) (ne_of_none e fb2) (ne_of_none e fb3) (ne_of_none e fb4) (fun z => ne_of_none e (fd_ b z) rfl) (sn b o e)
          have lq : l ≠ qb ∧ l ≠ qm ∧ l ≠ qw ∧ l ≠ qi ∧ Hn l = none := ⟨(fun z => by rw [z, B.b] at nl3; cases nl3), (fun z => by rw [z, B.m] at nl3; cases nl3), (fun z => by rw [z, B.w] at nl3; cases nl3), (fun z => by rw [z, B.i] at nl3; cases nl3), nl3⟩
          have Lm : ∀ u, u < mv.length → (u ∈ L ↔ bo blk u = X) := fun u hu => by
            rw [lm3]
            exact ⟨fun h => bo_at h, fun h => by rw [at_bo (by rw [G.len]; exact hu), h]⟩
          have fewm := G.few
          rw [List.length_append, List.length_singleton] at em
          have S3 : Stab mv.length wd (step mv) (bo blk) W (fun u => u ∈ L) 0 := fun s t c hs ht hc h1 h2 => by
            rcases S3 s t c hs ht hc h1 h2 with z | z | ⟨z, y⟩
            · exact .inl z
            · exact .inr (.inl z)
            · exact .inr (.inr ⟨z, by show _ ∈ L ↔ ¬ _ ∈ L; rw [Lm _ (stl hs hc), Lm _ (stl ht hc)]; exact y⟩)
          have Lnd := lm2
          have Llt : ∀ u ∈ L, u < mv.length := fun u hu => by rw [← G.len]; exact get_lt ((lm3 u).mp hu)
          clear bb3 nl3 B G S sn
          dsimp only
          refine ⟨_, rfl, D, rfl, ⟨_, SqL.of (s3 _ _ B1.d)⟩, ?_⟩
          refine for_list (K := K) (a := D) (xs := bs'.map V.ref) (fun c σ' Hc => ∃ (v3 v6 v9 v10 v11 : Option V) (ds : List Addr) (blk : List Nat) (mem : List (List Nat)) (wait : List Nat) (isw : List Bool), wait.length + 2 * (mv.length - mem.length) + 1 ≤ m ∧
            σ' = [some (.ref r), some (.ref pm), some (.ref D), v3, v4, v5, v6, some (.ref x), some (.ref l), v9, v10, v11, none, none, none] ∧ Same H1 Hc ∧ Hc l = some (.lst (L.map nv)) ∧ BkO K Hc x qb qm qw qi ds blk mem wait isw ∧ Bk mv.length blk mem wait isw ∧ (∀ d ∈ ds, H1 d = none) ∧
            Stab mv.length wd (step mv) (bo blk) wait (fun u => u ∈ L) c ∧ (∀ (s t : Nat) m m', ms[s]? = some m → ms[t]? = some m' → bo blk s = bo blk t → m = m'))
            ⟨v3, v6, v9, v10, v11, ds, blk, mem, W, _, by omega, rfl, s3, hl3, B3, G3, fd_, S3, M⟩ (fun c σ' Hc _ ⟨_, _, _, _, _, _, _, _, _, _, _, _, s, _⟩ => SqL.of (s _ _ B1.d)) ?_ ?_
          · clear B3 G3 S3 M fd_ hL lm1 lm2 lm3 hl3 s3 fewm em xl wne
            rintro c y σ' Hc hy ⟨v3, v6, v9, v10, v11, ds, blk, mem, wait, isw, em, rfl, sc, hl, B, G, fd_, S, M⟩
            obtain ⟨b, hb, rfl⟩ := map_get hy
            have cl : c < wd := by have := get_lt hb; omega
            obtain ⟨R0, hR0⟩ := lt_get (show c < fl.length by omega)
            obtain ⟨ro1, ro2, ro3⟩ := B1.ro c b R0 hb hR0
            intro pd npd
            have u4 := same_upd (o := .dK []) npd
            have hd4 : L2.upd Hc pd (.dK []) pd = some (.dK (gk [] [])) := upd_same
            have pdq : pd ≠ qb ∧ pd ≠ qm ∧ pd ≠ qw ∧ pd ≠ qi ∧ pd ∉ ds ∧ pd ≠ x ∧ pd ≠ l := by
              obtain ⟨dz, hz⟩ := B.ob
              refine ⟨(fun z => by rw [z, B.b] at npd; cases npd), (fun z => by rw [z, B.m] at npd; cases npd), (fun z => by rw [z, B.w] at npd; cases npd), (fun z => by rw [z, B.i] at npd; cases npd), (fun z => ?_), (fun z => by rw [z, hz] at npd; cases npd), (fun z => by rw [z, hl] at npd; cases npd)⟩
              obtain ⟨L', h'⟩ := B.dict z
              rw [npd] at h'
              cases h'
            have s4 := sc.trans u4
            have B4 : BkO K (L2.upd Hc pd (.dK [])) x qb qm qw qi ds blk mem wait isw := B.same u4
            have hl4 := u4 _ _ hl
            have pd1 : H1 pd = none := nil_of sc npd
            show tSeq _ _ _ _ (L2.upd Hc pd (.dK []))
            generalize L2.upd Hc pd (.dK []) = H4 at hd4 s4 B4 hl4 ⊢
            clear u4 npd B hl sc
            obtain ⟨dx4, ho4⟩ := id B4.ob
            have few4 := G.few
            have il4 := G.len
            refine ⟨_, rfl, l, rfl, ⟨_, SqL.of hl4⟩, ?_⟩
            refine for_list (K := K) (a := l) (xs := L.map nv) (fun i σ' Hi => ∃ (v3 v6 v11 : Option V) (Gr : List (Nat × List Nat)) (gas : List Addr), σ' = [some (.ref r), some (.ref pm), some (.ref D), v3, v4, v5, v6, some (.ref x), some (.ref l), some (.ref b), some (.ref pd), v11, none, none, none] ∧
              Gl H4 Hi pd Gr gas ∧ Grp (bo blk) (fun s => ∃ e ∈ L.take i, s ∈ beg mv.length (step mv) c e) Gr)
              ⟨v3, v6, v11, [], [], rfl, ⟨hd4, rfl, fun j e a h => by simp at h, List.nodup_nil, fun b o _ h => h⟩, Grp.nil.congr fun s => ⟨fun z => z.elim, fun ⟨e, he, _⟩ => by simp at he⟩⟩ (fun i σ' Hi _ ⟨_, _, _, _, _, _, g, _⟩ => SqL.of (g.fr _ _ pdq.2.2.2.2.2.2.symm hl4)) ?_ ?_
            · rintro i y σ' Hi hy ⟨v3, v6, v11, Gr, gas, rfl, GL, GR⟩
              obtain ⟨e, he, rfl⟩ := map_get hy
              have el := Llt e (List.mem_of_getElem? he)
              obtain ⟨p, hp⟩ := lt_get (show e < R0.length by omega)
              obtain ⟨be1, be2⟩ := B1.el c R0 e p hR0 hp
              have si : Same H1 Hi := fun b o x => GL.fr _ _ (ne_of_none x pd1) (s4 _ _ x)
              refine ⟨_, rfl, _, rfl, b, _, _, .ref p, rfl, rfl, SqL.of (si _ _ ro1), atI_nat (get_map hp), p, rfl, ⟨_, SqL.of (si _ _ be1)⟩, ?_⟩
              refine for_list (K := K) (a := p) (xs := (beg mv.length (step mv) c e).map nv) (fun j σ' Hj => ∃ (v3 v11 : Option V) (Gr : List (Nat × List Nat)) (gas : List Addr), σ' = [some (.ref r), some (.ref pm), some (.ref D), v3, v4, v5, some (nv e), some (.ref x), some (.ref l), some (.ref b), some (.ref pd), v11, none, none, none] ∧
                Gl H4 Hj pd Gr gas ∧ Grp (bo blk) (fun s => (∃ e ∈ L.take i, s ∈ beg mv.length (step mv) c e) ∨ s ∈ (beg mv.length (step mv) c e).take j) Gr)
                ⟨v3, v11, Gr, gas, rfl, GL, GR.congr fun s => by simp⟩ (fun j σ' Hj _ ⟨_, _, _, _, _, g, _⟩ => SqL.of (g.fr _ _ (ne_of_none be1 pd1) (s4 _ _ be1))) ?_ ?_
              · clear GL GR si
                rintro j y σ' Hj hy2 ⟨v3, v11, Gr, gas, rfl, GL, GR⟩
                obtain ⟨t, ht, rfl⟩ := map_get hy2
                obtain ⟨tn, tse⟩ := beg_mem.mp (List.mem_of_getElem? ht)
                have nP : ¬ ((∃ e ∈ L.take i, t ∈ beg mv.length (step mv) c e) ∨ t ∈ (beg mv.length (step mv) c e).take j) := by
                  rintro (⟨e', h1, h2⟩ | h1)
                  · have := (beg_mem.mp h2).2
                    rw [tse] at this
                    subst this
                    exact nodup_take Lnd he h1
                  · exact nodup_take beg_nd ht h1
                have cP : ∀ s, ((∃ e ∈ L.take i, s ∈ beg mv.length (step mv) c e) ∨ s ∈ (beg mv.length (step mv) c e).take j) ∨ s = t ↔ (∃ e ∈ L.take i, s ∈ beg mv.length (step mv) c e) ∨ s ∈ (beg mv.length (step mv) c e).take (j + 1) := fun s => by
                  rw [take_snoc ht, List.mem_append, List.mem_singleton, or_assoc]
                have bt := at_bo (show t < blk.length by omega)
                have hoj := GL.fr _ _ pdq.2.2.2.2.2.1.symm ho4
                have hbj := GL.fr _ _ pdq.1.symm B4.b
                have grl : Gr.length ≤ mv.length := by
                  have := Mon.nodup_lt mem.length _ GR.nd fun z hz => by
                    obtain ⟨e', he', rfl⟩ := List.mem_map.mp hz
                    obtain ⟨q, hq⟩ := List.getElem?_of_mem he'
                    obtain ⟨g1, g2, g3⟩ := GR.gm q e' hq
                    obtain ⟨s, hs⟩ := List.exists_mem_of_ne_nil _ g1
                    have sm := (g3 s).mp hs
                    rw [← sm.2]
                    have sn : s < mv.length := by
                      rcases sm.1 with ⟨e2, _, q2⟩ | q2
                      · exact (beg_mem.mp q2).1
                      · exact (beg_mem.mp (List.mem_of_mem_take q2)).1
                    exact G.lt s _ (at_bo (by omega))
                  rw [List.length_map] at this
                  omega
                refine ⟨_, rfl, pd, rfl, .inl ⟨_, .inl GL.d⟩, _, rfl, x, _, dx4, _, _, rfl, hoj, cb, n1, rfl, _, rfl, qb, _, _, nv (bo blk t), rfl, rfl, SqL.of hbj, atI_nat (get_map bt), (by show 0 ≤ sizeLine; decide), fun q0 nq0 => ?_⟩
                have GJ := GL.junk (o := .lst []) nq0
                refine ⟨_, ik (bo blk t), GJ.d, rfl, by rw [gk_len GL.lg]; show Gr.length < 16777216; omega, fun v hv => ?_, fun hn => ?_⟩
                · have ex : ∃ e' ∈ Gr, e'.1 = bo blk t := Classical.byContradiction fun z => by
                    rw [gk_none fun e' he' y => z ⟨e', he', y⟩] at hv
                    cases hv
                  obtain ⟨⟨b', T'⟩, hm, hb'⟩ := ex
                  have hb2 : b' = bo blk t := hb'
                  subst hb2
                  obtain ⟨j', hj'⟩ := List.getElem?_of_mem hm
                  obtain ⟨a, ha⟩ := lt_get (show j' < gas.length by rw [GL.lg]; exact get_lt hj')
                  rw [gk_some GR.nd hj' ha] at hv
                  cases hv
                  obtain ⟨l1, l2⟩ := GJ.ls j' _ a hj' ha
                  obtain ⟨t1, t2, t3⟩ := GR.gm j' _ hj'
                  have tl : T'.length ≤ mv.length := Mon.nodup_lt mv.length T' t2 fun s hs => by
                    rcases ((t3 s).mp hs).1 with ⟨e2, _, q2⟩ | q2
                    · exact (beg_mem.mp q2).1
                    · exact (beg_mem.mp (List.mem_of_mem_take q2)).1
                  refine ⟨.inl ⟨rfl, _, SqL.of l1⟩, _, rfl, a, _, _, rfl, rfl, l1, by rw [List.length_map]; show T'.length < 16777216; omega, ?_⟩
                  exact ⟨_, _, _, gas, rfl, GJ.old (t := t) hj' ha, (GR.old hj' nP).congr cP⟩
                · have hn2 : ∀ e' ∈ Gr, e'.1 ≠ bo blk t := fun e' he' y => by
                    obtain ⟨j', hj'⟩ := List.getElem?_of_mem he'
                    obtain ⟨a, ha⟩ := lt_get (show j' < gas.length by rw [GL.lg]; exact get_lt hj')
                    have := gk_some GR.nd hj' ha
                    rw [y, hn] at this
                    cases this
                  have qpd : q0 ≠ pd := fun z => by rw [z, GL.d] at nq0; cases nq0
                  have hq : L2.upd (L2.upd Hj q0 (.lst [])) pd (.dK (putK (gk Gr gas) (ik (bo blk t)) (.ref q0))) q0 = some (.lst []) := by rw [upd_ne qpd, upd_same]
                  refine ⟨.inl ⟨rfl, _, SqL.of hq⟩, _, rfl, q0, _, _, rfl, rfl, hq, (by show 0 < 16777216; decide), ?_⟩
                  exact ⟨_, _, _, _, rfl, GL.new hn2 nq0 (by rw [hd4]; exact fun z => nomatch z), (GR.new fun j' e' he' => hn2 e' (List.mem_of_getElem? he')).congr cP⟩
              · rintro σ' Hj ⟨v3, v11, Gr, gas, rfl, GL, GR⟩
                rw [List.length_map, List.take_length] at GR
                refine ⟨v3, _, v11, Gr, gas, rfl, GL, GR.congr fun s => ?_⟩
                rw [take_snoc he]
                constructor
                · rintro (⟨e', h1, h2⟩ | h1)
                  · exact ⟨e', List.mem_append_left _ h1, h2⟩
                  · exact ⟨e, by simp, h1⟩
                · rintro ⟨e', h1, h2⟩
                  rcases List.mem_append.mp h1 with h1 | h1
                  · exact .inl ⟨e', h1, h2⟩
                  · rw [List.mem_singleton.mp h1] at h2
                    exact .inr h2
            · rintro σ' H5 ⟨v3, v6, v11, Gr, gas, rfl, GL, GR⟩
              rw [List.length_map, List.take_length] at GR
              have Pst : ∀ s, (∃ e ∈ L, s ∈ beg mv.length (step mv) c e) ↔ s < mv.length ∧ step mv s c ∈ L := fun s => by
                constructor
                · rintro ⟨e, h1, h2⟩
                  obtain ⟨h3, h4⟩ := beg_mem.mp h2
                  exact ⟨h3, by rw [h4]; exact h1⟩
                · rintro ⟨h1, h2⟩
                  exact ⟨_, h2, beg_mem.mpr ⟨h1, rfl⟩⟩
              have gne : ∀ a ∈ gas, a ≠ qb ∧ a ≠ qm ∧ a ≠ qw ∧ a ≠ qi ∧ H1 a = none := fun a ha => by
                obtain ⟨j, hj⟩ := List.getElem?_of_mem ha
                obtain ⟨e, he⟩ := lt_get (show j < Gr.length by rw [← GL.lg]; exact get_lt hj)
                have h4 := (GL.ls j e a he hj).2
                exact ⟨(fun z => by rw [z, B4.b] at h4; cases h4), (fun z => by rw [z, B4.m] at h4; cases h4), (fun z => by rw [z, B4.w] at h4; cases h4), (fun z => by rw [z, B4.i] at h4; cases h4), nil_of s4 h4⟩
              have s5 : Same H1 H5 := fun b o x => GL.fr _ _ (ne_of_none x pd1) (s4 _ _ x)
              have B5 : BkO K H5 x qb qm qw qi ds blk mem wait isw := by
                have f : ∀ {b : Addr} {o : HO}, b ≠ pd → H4 b = some o → H5 b = some o := fun {b o} h1 h2 => GL.fr b o h1 h2
                exact ⟨⟨dx4, f pdq.2.2.2.2.2.1.symm ho4⟩, f pdq.1.symm B4.b, f pdq.2.1.symm B4.m, B4.ml, fun j d L h1 h2 => f (fun z => pdq.2.2.2.2.1 (by rw [← z]; exact List.mem_of_getElem? h1)) (B4.md j d L h1 h2), B4.nd, f pdq.2.2.1.symm B4.w, f pdq.2.2.2.1.symm B4.i, B4.n1, B4.n2, B4.n3, B4.n4, B4.n5, B4.n6⟩
              have hl5 := GL.fr _ _ pdq.2.2.2.2.2.2.symm hl4
              have LF : Left mv.length (bo blk) mem.length (fun s => ∃ e ∈ L, s ∈ beg mv.length (step mv) c e) Gr 0 := by
                refine ⟨fun j e _ he => ?_, fun j e _ he => (GR.gm j e he).2.2, fun s t hs ht ef ps pt => ?_⟩
                · obtain ⟨g1, g2, g3⟩ := GR.gm j e he
                  obtain ⟨s, hs⟩ := List.exists_mem_of_ne_nil _ g1
                  have sm := (g3 s).mp hs
                  rw [← sm.2]
                  exact G.lt s _ (at_bo (by rw [il4]; exact ((Pst s).mp sm.1).1))
                · obtain ⟨j, e, h1, h2⟩ := GR.gc s ps
                  exact ⟨j, e, Nat.zero_le _, h1, h2.symm⟩
              have gls : ∀ (j : Nat) e a, Gr[j]? = some e → gas[j]? = some a → H5 a = some (.lst (e.2.map nv)) := fun j e a h1 h2 => (GL.ls j e a h1 h2).1
              have apd : ∀ a ∈ gas, a ≠ pd := fun a ha => GL.pda ha
              refine ⟨pd, _, GL.d, True.intro, fun od => ?_⟩
              have f6 : ∀ {b : Addr} {o : HO}, b ≠ pd → H5 b = some o → L2.upd H5 pd (.frz od (.dK (gk Gr gas))) b = some o := fun {b o} h1 h2 => by rw [upd_ne h1]; exact h2
              have B6 : BkO K (L2.upd H5 pd (.frz od (.dK (gk Gr gas)))) x qb qm qw qi ds blk mem wait isw := by
                obtain ⟨dx5, ho5⟩ := B5.ob
                exact ⟨⟨dx5, f6 pdq.2.2.2.2.2.1.symm ho5⟩, f6 pdq.1.symm B5.b, f6 pdq.2.1.symm B5.m, B5.ml, fun j d L h1 h2 => f6 (fun z => pdq.2.2.2.2.1 (by rw [← z]; exact List.mem_of_getElem? h1)) (B5.md j d L h1 h2), B5.nd, f6 pdq.2.2.1.symm B5.w, f6 pdq.2.2.2.1.symm B5.i, B5.n1, B5.n2, B5.n3, B5.n4, B5.n5, B5.n6⟩
              have s6 : Same H1 (L2.upd H5 pd (.frz od (.dK (gk Gr gas)))) := fun b o e => f6 (ne_of_none e pd1) (s5 _ _ e)
              have hl6 := f6 pdq.2.2.2.2.2.2.symm hl5
              have gl6 : ∀ (j : Nat) e a, Gr[j]? = some e → gas[j]? = some a → L2.upd H5 pd (.frz od (.dK (gk Gr gas))) a = some (.lst (e.2.map nv)) := fun j e a h1 h2 => f6 (apd a (List.mem_of_getElem? h2)) (gls j e a h1 h2)
              have lgG := GL.lg
              have hpd6 : L2.upd H5 pd (.frz od (.dK (gk Gr gas))) pd = some (.frz od (.dK (gk Gr gas))) := upd_same
              refine ⟨_, rfl, pd, od, gk Gr gas, rfl, hpd6, ?_⟩
              generalize L2.upd H5 pd (.frz od (.dK (gk Gr gas))) = H6 at B6 s6 hl6 gl6 hpd6 ⊢
              clear f6 B5 s5 hl5 gls GL B4 hl4 s4 hd4 ho4
              refine for_it walk_values (fun i σ' H' => ∃ (v11 : Option V) (ds : List Addr) (blk : List Nat) (mem : List (List Nat)) (wait : List Nat) (isw : List Bool), wait.length + 2 * (mv.length - mem.length) + 1 ≤ m ∧
                σ' = [some (.ref r), some (.ref pm), some (.ref D), v3, v4, v5, v6, some (.ref x), some (.ref l), some (.ref b), some (.ref pd), v11, none, none, none] ∧ H' pd = some (.frz od (.dK (gk Gr gas))) ∧ Same H1 H' ∧ H' l = some (.lst (L.map nv)) ∧ BkO K H' x qb qm qw qi ds blk mem wait isw ∧ Bk mv.length blk mem wait isw ∧ (∀ d ∈ ds, H1 d = none) ∧
                (∀ (j : Nat) e a, Gr[j]? = some e → gas[j]? = some a → H' a = some (.lst (e.2.map nv))) ∧ Stab mv.length wd (step mv) (bo blk) wait (fun u => u ∈ L) c ∧ (∀ (s t : Nat) m m', ms[s]? = some m → ms[t]? = some m' → bo blk s = bo blk t → m = m') ∧ Left mv.length (bo blk) mem.length (fun s => ∃ e ∈ L, s ∈ beg mv.length (step mv) c e) Gr i)
                ⟨v11, ds, blk, mem, wait, isw, em, rfl, hpd6, s6, hl6, B6, G, fd_, gl6, S, M, LF⟩ (fun i σ' H' _ ⟨_, _, _, _, _, _, _, _, h, _⟩ => h) ?_ ?_
              · clear em B6 s6 hl6 gl6 hpd6 G fd_ S M LF il4 few4
                rintro i y σ' H0' H' hi ⟨v11, ds, blk, mem, wait, isw, em, rfl, hpd, s', hl, B, G, fd_, gl, S, M, LF⟩ ⟨rfl, kk, hk⟩
                rw [gk_len lgG] at hi
                obtain ⟨⟨old, Ts⟩, hG⟩ := lt_get hi
                obtain ⟨a, ha⟩ := lt_get (show i < gas.length by omega)
                rw [gk_get hG ha] at hk
                cases hk
                have am := List.mem_of_getElem? ha
                obtain ⟨an1, an2, an3, an4, an5⟩ := gne a am
                obtain ⟨tn, td, _⟩ := GR.gm i _ hG
                have tm := LF.gm i _ (Nat.le_refl _) hG
                have ol := LF.lt i _ (Nat.le_refl _) hG
                dsimp only at tn td tm ol
                obtain ⟨Lo, hLo⟩ := lt_get ol
                obtain ⟨o1, o2, o3⟩ := G.mb old Lo hLo
                have tL : ∀ s ∈ Ts, s ∈ Lo := fun s hs => by
                  obtain ⟨p1, p2⟩ := (tm s).mp hs
                  rw [o3, at_bo (by rw [G.len]; exact ((Pst s).mp p1).1), p2]
                have hta := gl i _ a hG ha
                obtain ⟨dx7, ho7⟩ := B.ob
                refine ⟨_, rfl, x, dx7, _, rfl, ho7, rfl, _, rfl, ⟨x, a, qb, qm, qw, qi, ds, mv.length, blk, mem, wait, isw, Ts, Lo, old, rfl, B, G, hta, an1, an2, an3, an4, tn, td, hLo, tL, n6, fun e => ?_, fun ne least d H8 b8 nd8 hl8 B8 => ?_⟩⟩
                · exact ⟨_, ds, blk, mem, wait, isw, em, rfl, hpd, s', hl, B, G, fd_, gl, S, M, LF.whole G hG hLo td tL e⟩
                · have G8 := G.split hLo td tn tL ne hl8
                  have few8 := G8.few
                  rw [List.length_append, List.length_set, List.length_singleton] at few8
                  have s8 : Same H1 H8 := fun b o e => b8 b o (ne_of_none e fb1) (ne_of_none e fb2) (ne_of_none e fb3) (ne_of_none e fb4) (fun z => ne_of_none e (fd_ b z) rfl) (s' b o e)
                  have nds : ∀ {p : Addr} {o : HO}, H' p = some o → (∀ kv, o ≠ .dK kv) → p ∉ ds := fun {p o} h1 h2 h3 => by
                    obtain ⟨L', h4⟩ := B.dict h3
                    rw [h1] at h4
                    exact h2 _ (Option.some.inj h4)
                  refine ⟨_, ds ++ [d], _, _, _, _, ?_, rfl, b8 _ _ pdq.1 pdq.2.1 pdq.2.2.1 pdq.2.2.2.1 (nds hpd (fun _ z => by cases z)) hpd, s8, b8 _ _ lq.1 lq.2.1 lq.2.2.1 lq.2.2.2.1 (nds hl (fun _ z => by cases z)) hl, B8, G8, fun d' hd' => ?_, fun j e a' h1 h2 => ?_, stab_split G S hLo tL hl8, fun s t m m' h1 h2 h3 => ?_, ?_⟩
                  · rw [List.length_append, List.length_append, List.length_set, List.length_singleton, List.length_singleton]
                    omega
                  · rcases List.mem_append.mp hd' with h | h
                    · exact fd_ d' h
                    · rw [List.mem_singleton.mp h]
                      exact nil_of s' nd8
                  · obtain ⟨q1, q2, q3, q4, _⟩ := gne a' (List.mem_of_getElem? h2)
                    have h3 := gl j e a' h1 h2
                    exact b8 _ _ q1 q2 q3 q4 (nds h3 (fun _ z => by cases z)) h3
                  · have sl : s < mv.length := by rw [← lms]; exact get_lt h1
                    have tl : t < mv.length := by rw [← lms]; exact get_lt h2
                    exact M s t m m' h1 h2 (finer G hLo tL sl tl h3)
                  · rw [List.length_append, List.length_set, List.length_singleton]
                    exact LF.split G GR.nd hG hLo tL
              · rintro σ' H' ⟨v11, ds, blk, mem, wait, isw, em, rfl, hpd, s', hl, B, G, fd_, gl, S, M, LF⟩
                rw [gk_len lgG] at LF
                refine ⟨hpd, ?_⟩
                have lpd : l ≠ pd := fun z => by rw [z, hpd] at hl; cases hl
                refine ⟨v3, v6, _, _, v11, ds, blk, mem, wait, isw, em, rfl, fun b o e => by rw [upd_ne (ne_of_none e pd1)]; exact s' _ _ e, by rw [upd_ne lpd]; exact hl, B.off hpd, G, fd_, S.next fun s t hs ht ef es => ?_, M⟩
                refine Classical.byContradiction fun z => ?_
                obtain ⟨j, e, h1, h2, _⟩ := LF.mix s t hs ht ef ((Pst s).mpr ⟨hs, es⟩) (fun y => z ((Pst t).mp y).2)
                have := get_lt h2
                omega
          · rintro σ' Hc ⟨v3, v6, v9, v10, v11, ds, blk, mem, wait, isw, em, rfl, sc, hl, B, G, fd_, S, M⟩
            rw [List.length_map, lb] at S
            refine ⟨_, by omega, v3, v4, v5, v6, _, _, _, _, ds, blk, mem, wait, isw, rfl, rfl, sc, B, G, fd_, fun s t c hs ht hc h1 h2 => ?_, M⟩
            rcases S s t c hs ht hc h1 h2 with z | z | z
            · exact .inl z
            · exact .inr (.inl z)
            · omega
        · have w0 : wait = [] := by
            cases wait with
            | nil => rfl
            | cons a l => exact (e0 rfl).elim
          subst w0
          have AL : Alike mv wd ms blk := ⟨G.len, M, fun s t c hs ht hc h1 => Classical.byContradiction fun h2 => by
            rcases S s t c hs ht hc h1 h2 with z | z | ⟨z, _⟩
            · cases z
            · cases z
            · omega⟩
          have bH : Hn qb = some (.lst (blk.map nv)) := B.b
          have lb2 := G.len
          intro pl npl
          have plH : H1 pl = none := nil_of sn npl
          have plH0 : H pl = none := nil_of s1 plH
          have u4 := same_upd (o := .dK []) npl
          have hl4 : L2.upd Hn pl (.dK []) pl = some (.dK []) := upd_same
          have s4 := (s1.trans sn).trans u4
          have hb4 := u4 _ _ bH
          have ho4 := u4 _ _ ho
          have qb0 : H qb = none := nil_of s1 fb1
          show gName 12 _ _ (L2.upd Hn pl (.dK [])) _
          generalize L2.upd Hn pl (.dK []) = H4 at s4 hl4 hb4 ho4 ⊢
          clear u4 npl B S G M sn bH
          refine ⟨_, rfl, x, _, dx', _, _, rfl, ho4, cb, n1, rfl, qb, blk.map nv, rfl, .inl ⟨SqL.of hb4, fun D2 nD2 => ?_⟩⟩
          have D2l : D2 ≠ pl := fun z => by rw [z, hl4] at nD2; cases nD2
          have D2b : D2 ≠ qb := fun z => by rw [z, hb4] at nD2; cases nD2
          have qbl : qb ≠ pl := fun z => by rw [z, hl4] at hb4; cases hb4
          refine lc_it (walk_enumL (K := K) (a := qb) (xs := blk.map nv)) (fun i Hc => (∀ b o, b ≠ D2 → b ≠ pl → H4 b = some o → Hc b = some o) ∧ Hc D2 = some (.lst ((List.range i).map fun s => nv (al blk s))) ∧ ∃ kvs : List (Key × V), Hc pl = some (.dK kvs) ∧ kvs.length ≤ i ∧ ∀ b, valV kvs (ik b) = (fstU blk i b).map nv)
            ⟨fun b o h1 _ h3 => by rw [upd_ne h1]; exact h3, upd_same, [], by rw [upd_ne D2l.symm]; exact hl4, Nat.le_refl _, fun b => rfl⟩ (fun i Hc _ ⟨g, _⟩ => SqL.of (g _ _ D2b.symm qbl hb4)) (fun i y Hc H' hi ⟨g1, g2, kvs, g3, g4, g5⟩ yl => ?_) (fun Hc ⟨g1, g2, kvs, g3, g4, g5⟩ => ?_)
          · obtain ⟨T0, y0, rfl, nT0, rfl, hy0⟩ := yl
            obtain ⟨b, hb, rfl⟩ := map_get hy0
            have il := get_lt hb
            have bob := bo_at hb
            refine ⟨T0, _, rfl, SqT.of upd_same, rfl, _, _, rfl, _, _, rfl, rfl, rfl, yesT ?_⟩
            have u5 := same_upd (o := .tup [.int (i : Nat), nv b]) nT0
            have g2' := u5 _ _ g2
            have g3' := u5 _ _ g3
            have g1' : ∀ b' o, b' ≠ D2 → b' ≠ pl → H4 b' = some o → L2.upd Hc T0 (.tup [.int (i : Nat), nv b]) b' = some o := fun b' o h1 h2 h3 => u5 _ _ (g1 b' o h1 h2 h3)
            generalize L2.upd Hc T0 (.tup [.int (i : Nat), nv b]) = H5 at g1' g2' g3' ⊢
            clear u5 nT0 g1 g2 g3
            refine ⟨_, rfl, pl, rfl, .inl ⟨_, .inl g3'⟩, _, rfl, _, rfl, kvs, ik b, g3', rfl, by show kvs.length < 16777216; omega, fun v hv => ?_, fun hn => ?_⟩
            · rw [g5] at hv
              obtain ⟨t, ht, rfl⟩ := Option.map_eq_some_iff.mp hv
              refine ⟨_, g2', by rw [List.length_map, List.length_range]; show i < 16777216; omega, fun b' o h1 h2 h3 => by rw [upd_ne h1]; exact g1' b' o h1 h2 h3, ?_, kvs, by rw [upd_ne D2l.symm]; exact g3', by omega, fun b' => ?_⟩
              · rw [upd_same, List.range_succ, List.map_append]
                show some (HO.lst (_ ++ [nv t])) = some (HO.lst (_ ++ [nv (al blk i)]))
                unfold al
                rw [bob, fstU_step, ht]
                rfl
              · rw [g5, fstU_step, bob]
                by_cases z : b = b'
                · subst z
                  rw [ht]
                  rfl
                · rw [if_neg z]
                  cases fstU blk i b' <;> rfl
            · rw [g5] at hn
              have ht : fstU blk i b = none := Option.map_eq_none_iff.mp hn
              refine ⟨_, by rw [upd_ne D2l]; exact g2', by rw [List.length_map, List.length_range]; show i < 16777216; omega, fun b' o h1 h2 h3 => by rw [upd_ne h1, upd_ne h2]; exact g1' b' o h1 h2 h3, ?_, putK kvs (ik b) (nv i), by rw [upd_ne D2l.symm, upd_same], Nat.le_trans (length_putK kvs (ik b) (nv i)) (Nat.succ_le_succ g4), fun b' => ?_⟩
              · rw [upd_same, List.range_succ, List.map_append]
                show some (HO.lst (_ ++ [nv i])) = some (HO.lst (_ ++ [nv (al blk i)]))
                unfold al
                rw [bob, fstU_step, ht, if_pos bob]
                rfl
              · rw [valV_put, fstU_step, bob]
                by_cases z : b = b'
                · subst z
                  rw [if_pos rfl, ht, if_pos rfl]
                  rfl
                · rw [if_neg (fun y => z (ik_inj y).symm), if_neg z, g5]
                  cases fstU blk i b' <;> rfl
          · rw [List.length_map, lb2] at g2
            have D2H : H D2 = none := nil_of s4 nD2
            exact k D2 blk Hc (fun b o e => g1 b o (ne_of_none e D2H) (ne_of_none e plH0) (s4 _ _ e)) D2H g2 AL
end
end K69

set_option Elab.async false
set_option linter.all false
set_option maxRecDepth 100000
/-! What is reached from a row on, in the order of least words: pure. -/
namespace Lf.Reach
open Lf
def idx : List Nat → Nat → Nat
  | [], _ => 0
  | y :: r, x => if y = x then 0 else idx r x + 1
theorem idx_get : ∀ {l : List Nat} {x : Nat}, x ∈ l → l[idx l x]? = some x
  | y :: r, x, h => by
    unfold idx
    by_cases e : y = x
    · rw [if_pos e, e]; rfl
    · rw [if_neg e, List.getElem?_cons_succ]
      rcases List.mem_cons.mp h with z | z
      · exact absurd z.symm e
      · exact idx_get z
theorem idx_at {l : List Nat} {x i : Nat} (nd : l.Nodup) (h : l[i]? = some x) : idx l x = i := Mon.nodup_at nd (idx_get (List.mem_of_getElem? h)) h
theorem pre_get {l O : List Nat} {i x : Nat} (p : l <+: O) (h : l[i]? = some x) : O[i]? = some x := by
  obtain ⟨t, rfl⟩ := p
  rw [List.getElem?_append_left (List.getElem?_eq_some_iff.mp h).1]
  exact h
theorem idx_pre {l O : List Nat} {x : Nat} (nd : O.Nodup) (p : l <+: O) (h : x ∈ l) : idx O x = idx l x := idx_at nd (pre_get p (idx_get h))
theorem idx_lt {l : List Nat} {x : Nat} (h : x ∈ l) : idx l x < l.length := (List.getElem?_eq_some_iff.mp (idx_get h)).1
def put (l : List Nat) (e : Nat) : List Nat := if e ∈ l then l else l ++ [e]
def grow (l row : List Nat) : List Nat := row.foldl put l
theorem put_in {l : List Nat} {e : Nat} (h : e ∈ l) : put l e = l := if_pos h
theorem put_new {l : List Nat} {e : Nat} (h : e ∉ l) : put l e = l ++ [e] := if_neg h
theorem grow_cons {l row : List Nat} {e : Nat} : grow l (e :: row) = grow (put l e) row := rfl
theorem grow_snoc {l row : List Nat} {e : Nat} : grow l (row ++ [e]) = put (grow l row) e := by unfold grow; rw [List.foldl_append]; rfl
theorem put_pre {l : List Nat} {e : Nat} : l <+: put l e := by
  unfold put
  split
  · exact List.prefix_refl _
  · exact List.prefix_append _ _
theorem grow_pre : ∀ {row l : List Nat}, l <+: grow l row
  | [], l => List.prefix_refl _
  | e :: r, l => put_pre.trans (grow_pre (row := r))
theorem put_nd {l : List Nat} {e : Nat} (h : l.Nodup) : (put l e).Nodup := by
  by_cases z : e ∈ l
  · rw [put_in z]; exact h
  · rw [put_new z, List.nodup_append]
    exact ⟨h, List.nodup_cons.mpr ⟨fun y => (List.not_mem_nil y), List.nodup_nil⟩, fun a ha b hb => by rw [List.mem_singleton.mp hb]; intro y; exact z (y ▸ ha)⟩
theorem grow_nd : ∀ {row l : List Nat}, l.Nodup → (grow l row).Nodup
  | [], l, h => h
  | e :: r, l, h => grow_nd (row := r) (put_nd h)
theorem put_mem {l : List Nat} {e x : Nat} : x ∈ put l e ↔ x ∈ l ∨ x = e := by
  by_cases z : e ∈ l
  · rw [put_in z]
    exact ⟨.inl, fun h => h.elim id fun y => y ▸ z⟩
  · rw [put_new z, List.mem_append, List.mem_singleton]
theorem grow_mem : ∀ {row l : List Nat} {x : Nat}, x ∈ grow l row ↔ x ∈ l ∨ x ∈ row
  | [], l, x => by simp [grow]
  | e :: r, l, x => by rw [grow_cons, grow_mem, put_mem, List.mem_cons]; exact or_assoc
def known (rows : List (List Nat)) (f : Nat) : Nat → List Nat
  | 0 => [f]
  | k + 1 => match (known rows f k)[k]? with
    | some a => grow (known rows f k) (rows.getD a [])
    | none => known rows f k
def ord (rows : List (List Nat)) (f : Nat) : List Nat := known rows f rows.length
section
variable {rows : List (List Nat)} {f : Nat}
theorem known_at {k a : Nat} (h : (known rows f k)[k]? = some a) : known rows f (k + 1) = grow (known rows f k) (rows.getD a []) := by
  show (match (known rows f k)[k]? with | some a => _ | none => _) = _
  rw [h]
theorem known_off {k : Nat} (h : (known rows f k).length ≤ k) : known rows f (k + 1) = known rows f k := by
  show (match (known rows f k)[k]? with | some a => _ | none => _) = _
  rw [List.getElem?_eq_none h]
theorem known_pre1 {k : Nat} : known rows f k <+: known rows f (k + 1) := by
  by_cases h : (known rows f k).length ≤ k
  · rw [known_off h]; exact List.prefix_refl _
  · rw [known_at (List.getElem?_eq_getElem (by omega))]; exact grow_pre
theorem known_pre {k : Nat} : ∀ {j : Nat}, k ≤ j → known rows f k <+: known rows f j
  | 0, h => by rw [show k = 0 by omega]; exact List.prefix_refl _
  | j + 1, h => by
    by_cases e : k = j + 1
    · rw [e]; exact List.prefix_refl _
    · exact (known_pre (by omega)).trans known_pre1
theorem known_nd : ∀ {k : Nat}, (known rows f k).Nodup
  | 0 => List.nodup_cons.mpr ⟨fun y => (List.not_mem_nil y), List.nodup_nil⟩
  | k + 1 => by
    by_cases h : (known rows f k).length ≤ k
    · rw [known_off h]; exact known_nd
    · rw [known_at (List.getElem?_eq_getElem (by omega))]; exact grow_nd known_nd
theorem known_stop {k : Nat} (h : (known rows f k).length ≤ k) : ∀ {j : Nat}, k ≤ j → known rows f j = known rows f k
  | 0, e => by rw [show k = 0 by omega]
  | j + 1, e => by
    by_cases z : k = j + 1
    · rw [z]
    · have y := known_stop h (j := j) (by omega)
      rw [known_off (by rw [y]; omega), y]
theorem nd_len : ∀ {n : Nat} {l : List Nat}, l.Nodup → (∀ x ∈ l, x < n) → l.length ≤ n
  | 0, l, _, h => by
    cases l with
    | nil => exact Nat.le_refl _
    | cons x r => exact absurd (h x List.mem_cons_self) (Nat.not_lt_zero _)
  | n + 1, l, nd, h => by
    have q := nd_len (n := n) (l := l.erase n) (nd.erase n) fun x hx => by
      have a := h x (List.mem_of_mem_erase hx)
      have b : x ≠ n := ((List.Nodup.mem_erase_iff nd).mp hx).1
      omega
    have e : l.length ≤ (l.erase n).length + 1 := by
      rw [List.length_erase]
      split <;> omega
    omega
/-- rows of numbers of rows -/
structure Rf (rows : List (List Nat)) (f : Nat) : Prop where
  f : f < rows.length
  e : ∀ row ∈ rows, ∀ e ∈ row, e < rows.length
theorem Rf.row (R : Rf rows f) {a x : Nat} (h : x ∈ rows.getD a []) : x < rows.length := by
  by_cases z : a < rows.length
  · rw [Mon.getD_of (List.getElem?_eq_getElem z)] at h
    exact R.e _ (List.getElem_mem z) x h
  · rw [List.getD_eq_getElem?_getD, List.getElem?_eq_none (by omega)] at h
    cases h
theorem known_lt (R : Rf rows f) : ∀ {k x : Nat}, x ∈ known rows f k → x < rows.length
  | 0, x, h => by rw [List.mem_singleton.mp h]; exact R.f
  | k + 1, x, h => by
    by_cases z : (known rows f k).length ≤ k
    · rw [known_off z] at h; exact known_lt R h
    · rw [known_at (List.getElem?_eq_getElem (by omega))] at h
      rcases grow_mem.mp h with y | y
      · exact known_lt R y
      · exact R.row y
theorem ord_nd : (ord rows f).Nodup := known_nd
theorem ord_len (R : Rf rows f) : (ord rows f).length ≤ rows.length := nd_len ord_nd fun x hx => known_lt R hx
theorem ord_eq {k : Nat} (h : (known rows f k).length ≤ k) (e : k ≤ rows.length) : ord rows f = known rows f k := known_stop h e
theorem known_le (R : Rf rows f) {k : Nat} (h : k < (ord rows f).length) : k < (known rows f k).length := by
  have := ord_len R
  by_cases z : (known rows f k).length ≤ k
  · rw [ord_eq z (by omega)] at h
    exact h
  · omega
theorem known_ord (R : Rf rows f) {k : Nat} (h : k ≤ (ord rows f).length) : known rows f k <+: ord rows f := known_pre (Nat.le_trans h (ord_len R))
theorem known_row (R : Rf rows f) {k a : Nat} (h : (ord rows f)[k]? = some a) : (known rows f k)[k]? = some a ∧ known rows f (k + 1) = grow (known rows f k) (rows.getD a []) := by
  have hk := (List.getElem?_eq_some_iff.mp h).1
  have lt := known_le R hk
  have e := List.getElem?_eq_getElem lt
  have z := pre_get (known_ord R (Nat.le_of_lt hk)) e
  rw [h] at z
  rw [← z] at e
  exact ⟨e, known_at e⟩
theorem row_known (R : Rf rows f) {k a x : Nat} (h : (ord rows f)[k]? = some a) (hx : x ∈ rows.getD a []) : x ∈ known rows f (k + 1) := by
  rw [(known_row R h).2]
  exact grow_mem.mpr (.inr hx)
theorem row_ord (R : Rf rows f) {k a x : Nat} (h : (ord rows f)[k]? = some a) (hx : x ∈ rows.getD a []) : x ∈ ord rows f := (known_ord R (List.getElem?_eq_some_iff.mp h).1).subset (row_known R h hx)
theorem ord_known (R : Rf rows f) : ord rows f = known rows f (ord rows f).length := by
  have p := known_ord R (Nat.le_refl _)
  exact ord_eq p.length_le (ord_len R)
/-- the table of what is reached -/
def renum (rows : List (List Nat)) (f : Nat) : List (List Nat) := (ord rows f).map fun a => (rows.getD a []).map (idx (ord rows f))
theorem renum_len : (renum rows f).length = (ord rows f).length := List.length_map _
theorem grow_made {O : List Nat} (nd : O.Nodup) {i : Nat} : ∀ {row l : List Nat} {c : Nat} {m : List (Nat × Nat)}, grow l row <+: O → m.length + 1 = l.length → ∃ m', Mon.madeRow i c (row.map (idx O)) m = some m' ∧ m'.length + 1 = (grow l row).length
  | [], l, c, m, _, e => ⟨m, rfl, e⟩
  | x :: r, l, c, m, p, e => by
    rw [grow_cons] at p
    have pp : put l x <+: O := grow_pre.trans p
    rw [List.map_cons, Mon.madeRow, grow_cons]
    by_cases h : x ∈ l
    · rw [put_in h] at p pp ⊢
      have z := idx_pre nd pp h
      have y := idx_lt h
      rw [if_neg (by omega), if_neg (by omega)]
      exact grow_made nd p e
    · rw [put_new h] at p pp ⊢
      have z : idx O x = l.length := idx_at nd (pre_get pp (by rw [List.getElem?_append_right (Nat.le_refl _), Nat.sub_self]; rfl))
      rw [if_neg (by omega), if_pos (by omega)]
      exact grow_made nd p (by rw [List.length_append, List.length_append, List.length_singleton, List.length_singleton]; omega)
theorem renum_madeK (R : Rf rows f) : ∀ {k : Nat}, k ≤ (ord rows f).length → ∃ m, Mon.madeTab 0 ((renum rows f).take k) [] = some m ∧ m.length + 1 = (known rows f k).length
  | 0, _ => ⟨[], by rw [List.take_zero]; rfl, rfl⟩
  | k + 1, h => by
    obtain ⟨m, h1, h2⟩ := renum_madeK R (k := k) (by omega)
    have hk : k < (ord rows f).length := by omega
    have ha := List.getElem?_eq_getElem hk
    obtain ⟨_, q⟩ := known_row R ha
    have e : (renum rows f)[k]? = some ((rows.getD (ord rows f)[k] []).map (idx (ord rows f))) := by
      unfold renum
      rw [List.getElem?_map, ha]
      rfl
    obtain ⟨m', g1, g2⟩ := grow_made (O := ord rows f) ord_nd (i := k) (row := rows.getD (ord rows f)[k] []) (l := known rows f k) (c := 0) (m := m) (by rw [← q]; exact known_ord R h) h2
    have lk : k < (renum rows f).length := by rw [renum_len]; exact hk
    have ts : (renum rows f).take (k + 1) = (renum rows f).take k ++ [(rows.getD (ord rows f)[k] []).map (idx (ord rows f))] := by
      rw [List.take_succ, e]
      rfl
    refine ⟨m', ?_, by rw [q]; exact g2⟩
    have := known_le R hk
    rw [ts, Mon.madeTab_snoc, h1, Option.bind_some, List.length_take, Nat.min_eq_left (Nat.le_of_lt lk), Nat.zero_add, if_neg (by omega)]
    exact g1
theorem renum_made (R : Rf rows f) : ∃ m, Mon.madeTab 0 (renum rows f) [] = some m ∧ m.length + 1 = (renum rows f).length := by
  obtain ⟨m, a, b⟩ := renum_madeK R (Nat.le_refl (ord rows f).length)
  rw [← ord_known R] at b
  rw [← renum_len, List.take_length] at a
  exact ⟨m, a, by rw [renum_len]; exact b⟩
theorem renum_row (R : Rf rows f) {r : List Nat} (h : r ∈ renum rows f) : ∃ a, a < rows.length ∧ r.length = (rows.getD a []).length ∧ ∀ x ∈ r, x < (renum rows f).length := by
  obtain ⟨a, ha, rfl⟩ := List.mem_map.mp h
  refine ⟨a, known_lt R ha, List.length_map _, fun x hx => ?_⟩
  obtain ⟨y, hy, rfl⟩ := List.mem_map.mp hx
  obtain ⟨k, hk⟩ := List.getElem?_of_mem ha
  rw [renum_len]
  exact idx_lt (row_ord R hk hy)
theorem renum_pos : 0 < (renum rows f).length := by
  rw [renum_len]
  exact Nat.lt_of_lt_of_le (show 0 < [f].length from Nat.zero_lt_one) (known_pre (rows := rows) (f := f) (Nat.zero_le rows.length)).length_le
end
/-! ### a table in another order -/
theorem range_grow {i : Nat} : ∀ {row : List Nat} {c : Nat} {m m' : List (Nat × Nat)}, Mon.madeRow i c row m = some m' → grow (List.range (m.length + 1)) row = List.range (m'.length + 1)
  | [], c, m, m', h => by rw [Mon.madeRow] at h; cases h; rfl
  | x :: r, c, m, m', h => by
    rw [Mon.madeRow] at h
    rw [grow_cons]
    by_cases h1 : m.length + 1 < x
    · rw [if_pos h1] at h; cases h
    · rw [if_neg h1] at h
      by_cases h2 : x = m.length + 1
      · rw [if_pos h2] at h
        rw [put_new (by rw [List.mem_range]; omega), h2, ← List.range_succ]
        have := range_grow h
        rw [List.length_append, List.length_singleton] at this
        exact this
      · rw [if_neg h2] at h
        rw [put_in (by rw [List.mem_range]; omega)]
        exact range_grow h
theorem range_known {T : List (List Nat)} {m : List (Nat × Nat)} (h : Mon.madeTab 0 T [] = some m) : ∀ {k : Nat}, k ≤ T.length → ∃ m', Mon.madeTab 0 (T.take k) [] = some m' ∧ known T 0 k = List.range (m'.length + 1)
  | 0, _ => ⟨[], by rw [List.take_zero]; rfl, rfl⟩
  | k + 1, hk => by
    obtain ⟨m', h1, h2⟩ := range_known h (k := k) (by omega)
    have hr := List.getElem?_eq_getElem (show k < T.length by omega)
    obtain ⟨m0, e0, i0, m2, e2, e3⟩ := Mon.madeTab_at h hr
    rw [h1] at e0
    cases e0
    refine ⟨m2, e3, ?_⟩
    have : (known T 0 k)[k]? = some k := by rw [h2, List.getElem?_range (by omega)]
    rw [known_at this, h2, Mon.getD_of hr]
    exact range_grow e2
theorem known_table {T : List (List Nat)} {m : List (Nat × Nat)} (h : Mon.madeTab 0 T [] = some m) (lm : m.length + 1 = T.length) : known T 0 T.length = List.range T.length := by
  obtain ⟨m', a, b⟩ := range_known h (Nat.le_refl T.length)
  rw [List.take_length, h] at a
  cases a
  rw [b, lm]
theorem grow_map {nm : Nat → Nat} {N : Nat} (inj : ∀ i j, i < N → j < N → nm i = nm j → i = j) : ∀ {row l : List Nat}, (∀ x ∈ l, x < N) → (∀ x ∈ row, x < N) → grow (l.map nm) (row.map nm) = (grow l row).map nm
  | [], l, _, _ => rfl
  | x :: r, l, hl, hr => by
    rw [List.map_cons, grow_cons, grow_cons]
    have hx := hr x List.mem_cons_self
    have e : put (l.map nm) (nm x) = (put l x).map nm := by
      by_cases z : x ∈ l
      · rw [put_in z, put_in (List.mem_map_of_mem z)]
      · rw [put_new z, put_new fun y => ?_, List.map_append]
        · rfl
        · obtain ⟨w, hw, e⟩ := List.mem_map.mp y
          rw [inj w x (hl w hw) hx e] at hw
          exact z hw
    rw [e]
    refine grow_map inj (fun y hy => ?_) fun y hy => hr y (List.mem_cons_of_mem _ hy)
    rcases put_mem.mp hy with z | z
    · exact hl y z
    · rw [z]; exact hx
/-- rows that hold the table T, its row j at names j -/
structure Scat (T rows : List (List Nat)) (nm : Nat → Nat) : Prop where
  inj : ∀ i j, i < T.length → j < T.length → nm i = nm j → i = j
  row : ∀ j, j < T.length → rows.getD (nm j) [] = (T.getD j []).map nm
  len : T.length ≤ rows.length
  ent : ∀ row ∈ T, ∀ e ∈ row, e < T.length
  pos : 0 < T.length
section
variable {T rows : List (List Nat)} {nm : Nat → Nat}
theorem scat_known (S : Scat T rows nm) : ∀ {k : Nat}, known rows (nm 0) k = (known T 0 k).map nm
  | 0 => rfl
  | k + 1 => by
    have R : Rf T 0 := ⟨S.pos, S.ent⟩
    have ih := scat_known S (k := k)
    by_cases h : (known T 0 k).length ≤ k
    · rw [known_off h, known_off (by rw [ih, List.length_map]; exact h), ih]
    · have hk : k < (known T 0 k).length := by omega
      have e := List.getElem?_eq_getElem hk
      have lt := known_lt R (List.getElem_mem hk)
      rw [known_at e, known_at (show (known rows (nm 0) k)[k]? = some (nm (known T 0 k)[k]) by rw [ih, List.getElem?_map, e]; rfl), ih, S.row _ lt]
      exact grow_map S.inj (fun x hx => known_lt R hx) fun x hx => R.row hx
theorem scat_ord (S : Scat T rows nm) {m : List (Nat × Nat)} (h : Mon.madeTab 0 T [] = some m) (lm : m.length + 1 = T.length) : ord rows (nm 0) = (List.range T.length).map nm := by
  have e : known rows (nm 0) T.length = (List.range T.length).map nm := by rw [scat_known S, known_table h lm]
  rw [ord_eq (k := T.length) (by rw [e, List.length_map, List.length_range]; exact Nat.le_refl _) S.len, e]
theorem scat_renum (S : Scat T rows nm) {m : List (Nat × Nat)} (h : Mon.madeTab 0 T [] = some m) (lm : m.length + 1 = T.length) : renum rows (nm 0) = T := by
  have nd : ((List.range T.length).map nm).Nodup := by rw [← scat_ord S h lm]; exact ord_nd
  unfold renum
  rw [scat_ord S h lm]
  refine List.ext_getElem? fun j => ?_
  by_cases hj : j < T.length
  case neg => rw [List.getElem?_eq_none (by rw [List.length_map, List.length_map, List.length_range]; omega), List.getElem?_eq_none (by omega)]
  have hr := List.getElem?_eq_getElem hj
  rw [List.map_map, List.getElem?_map, List.getElem?_range hj]
  show some (List.map _ (rows.getD (nm j) [])) = _
  rw [S.row j hj, Mon.getD_of hr, List.map_map, hr]
  have : List.map (idx ((List.range T.length).map nm) ∘ nm) T[j] = List.map id T[j] := List.map_congr_left fun x hx => idx_at nd (show ((List.range T.length).map nm)[x]? = some (nm x) by
    have lx := S.ent _ (List.getElem_mem hj) x hx
    rw [List.getElem?_map, List.getElem?_range lx]
    rfl)
  rw [this, List.map_id]
end
end Lf.Reach

set_option Elab.async false
set_option linter.all false
set_option maxRecDepth 100000
set_option maxHeartbeats 8000000
namespace K69
open PySem PySem.Spec PyProof.Rows L2 Lf
/-- a dict of what is known -/
def trT (l : List Nat) : List (Key × V) := l.map fun x => (ik x, V.bl true)
theorem tr_none : ∀ {l : List Nat} {x : Nat}, x ∉ l → valV (trT l) (ik x) = none
  | [], _, _ => rfl
  | y :: r, x, h => by
    have hy : ¬ ik y = ik x := fun z => h (by rw [ik_inj z]; exact List.mem_cons_self)
    rw [trT, List.map_cons, valV_neg (p := (ik y, V.bl true)) hy]
    exact tr_none fun z => h (List.mem_cons_of_mem _ z)
theorem tr_some : ∀ {l : List Nat} {x : Nat}, x ∈ l → valV (trT l) (ik x) = some (.bl true)
  | y :: r, x, h => by
    by_cases hy : y = x
    · rw [trT, List.map_cons, hy, valV_pos (p := (ik x, V.bl true)) rfl]
    · have hy' : ¬ ik y = ik x := fun z => hy (ik_inj z)
      rw [trT, List.map_cons, valV_neg (p := (ik y, V.bl true)) hy']
      exact tr_some ((List.mem_cons.mp h).resolve_left fun z => hy z.symm)
theorem tr_put {l : List Nat} {x : Nat} (h : x ∉ l) : putK (trT l) (ik x) (.bl true) = trT (l ++ [x]) := by
  rw [putK_new _ (tr_none h), trT, trT, List.map_append]
  rfl
def spReach (K : PySem.W.Frag) : Sp := fun vs H Q _ => ∃ r f rows, vs = [.ref r, .int (f : Nat)] ∧ RowsT K H r rows ∧ Reach.Rf rows f ∧ rows.length ≤ 2000 ∧ ∀ p H', H p = none → Same H H' → H' p = some (.lst ((Reach.ord rows f).map nv)) → Q (.ref p) H'
section
variable {P : Program} {w : World} {K : PySem.W.Frag} {mg : Str → Option Value} {base : Heap}
theorem scReach : FnScope ["rows", "first", "order", "known", "place", "end"] ["rows", "first"] (defScope s_reached_from) := ⟨rfl, rfl, rfl, by decide +kernel, rfl, by decide +kernel, by decide +kernel⟩
theorem ok_reach {f : Addr} {fd : FuncData} {q : Str} (F : FunD K "reached_from" q (defArgs s_reached_from) (defBody s_reached_from) (defScope s_reached_from) [] [] f fd) (T : Txt P w K mg base) :
    FnOk P w K mg base CX0 2 f fd ["rows", "first"] (spReach K) := by
  have zn : mg "len" = none := T.fr 59 "len" rfl
  refine F.ok scReach (fun vs H Q E h => ?_) (fun cdv A outer s H vs Q E hr h => ?_)
  · obtain ⟨r, f, rows, rfl, _⟩ := h
    rfl
  · obtain ⟨r, f0, rows, rfl, R, RF, n2, k⟩ := h
    have hu : (A.deeper (envOfC q (defScope s_reached_from) s.heap.objs.size f cdv)).units + 1 < cLine := by have := hr.units; omega
    refine ⟨_, PSs.nox (pss_cons (ps_set (i := 2) scReach.nd rfl (.inl rfl) (pe_lst (pa_cons (pv 1) pa_nil)))
      (pss_cons (ps_set (i := 3) scReach.nd rfl (.inl rfl) (pe_disp (pps_cons (pv 1) pe_bl pps_nil) (by rfl) (by rfl) (fun z => by cases z) (by decide)))
      (pss_cons (ps_set (i := 4) scReach.nd rfl (.inl rfl) pe_int)
      (pss_cons (ps_while PassesOwn.never (pt_cmpR op_lt (pv 4) (pe_callB call_len_seq rfl zn boot_len (pa_cons (pv 2) pa_nil)) (nomark _))
        (pss_cons (ps_for PassesOwn.never rfl (pi_tup (pe_ix ix_tup (pv 0) (pe_ix ix_list (pv 2) (pv 4) (fun _ _ => rfl)) (fun _ _ => rfl))) (pg_name (i := 5) scReach.nd rfl (.inl rfl))
          (pss_one (ps_if (pt_cmp (pc_dnotin hu (pv 5) (pv 3)) (by rfl))
            (pss_cons (ps_dput hu (pv 3) (pv 5) pe_bl rfl)
            (pss_one (ps_expr (pe_bm PySem.F.plainAttrs_list PySem.F.slot_list_append PySem.F.type_list_append mt_append (pv 2) (pa_cons (pv 5) pa_nil))))) pss_nil)))
        (pss_one (ps_aug (i := 4) scReach.nd rfl (.inl rfl) pe_int ip_add))))
      (pss_one (ps_ret (pv 2))))))), ?_⟩
    obtain ⟨as, sr, la, srow⟩ := R.ex
    refine ⟨_, rfl, (by show 1 ≤ sizeLine; decide), fun B nB => ?_⟩
    have s1 := same_upd (o := .lst [V.int (f0 : Nat)]) nB
    have hB1 : L2.upd H B (.lst [V.int (f0 : Nat)]) B = some (.lst (([f0] : List Nat).map nv)) := upd_same
    generalize L2.upd H B (.lst [V.int (f0 : Nat)]) = H1 at s1 hB1 ⊢
    intro D nD
    have nD0 : H D = none := nil_of s1 nD
    have nDB : D ≠ B := fun z => by rw [z, hB1] at nD; cases nD
    refine ⟨_, rfl, upd_same, [(ik f0, V.bl true)], rfl, (by show 1 ≤ 15; decide), ?_⟩
    rw [L2.upd_upd]
    have s2 := s1.trans (same_upd (o := .dK (mergeK [] [(ik f0, V.bl true)])) nD)
    have hB2 := same_upd (o := .dK (mergeK [] [(ik f0, V.bl true)])) nD _ _ hB1
    have hD2 : L2.upd H1 D (.dK (mergeK [] [(ik f0, V.bl true)])) D = some (.dK (trT [f0])) := upd_same
    generalize L2.upd H1 D (.dK (mergeK [] [(ik f0, V.bl true)])) = H2 at s2 hB2 hD2 ⊢
    clear s1 hB1 nD
    refine ⟨fun i σ Hn => ∃ (v5 : Option V) (p : Nat), σ = [some (.ref r), some (.int (f0 : Nat)), some (.ref B), some (.ref D), some (.int (p : Nat)), v5] ∧ Same H Hn ∧ Hn B = some (.lst ((Reach.known rows f0 p).map nv)) ∧ Hn D = some (.dK (trT (Reach.known rows f0 p))) ∧ p ≤ (Reach.ord rows f0).length ∧ i + p = (Reach.ord rows f0).length,
      ⟨(Reach.ord rows f0).length, none, 0, rfl, s2, hB2, hD2, Nat.zero_le _, rfl⟩, ?_⟩
    rintro i σ Hn ⟨v5, p, rfl, sn, hBn, hDn, pl, im⟩
    have ol := Reach.ord_len RF
    refine ⟨_, rfl, _, rfl, B, _, rfl, .inl (SqL.of hBn), _, _, rfl, rfl, _, rfl, ?_⟩
    rw [List.length_map]
    by_cases hp : p < (Reach.known rows f0 p).length
    case neg =>
      refine ifF (decide_eq_false (by omega)) ⟨_, rfl, k B Hn nB sn ?_⟩
      rw [Reach.ord_eq (k := p) (by omega) (by omega)]
      exact hBn
    refine ifT (decide_eq_true (by omega)) ?_
    obtain ⟨a, ha⟩ := lt_get hp
    have hpo : p < (Reach.ord rows f0).length := by
      have := get_lt (Reach.pre_get (Reach.known_ord RF pl) ha)
      exact this
    have al : a < rows.length := Reach.known_lt RF (List.mem_of_getElem? ha)
    obtain ⟨row, hrow⟩ := lt_get al
    obtain ⟨b, hb⟩ := lt_get (show a < as.length by omega)
    have sb := srow a b row hb hrow
    have ek := Reach.known_at ha
    rw [Mon.getD_of hrow] at ek
    refine ⟨fun σ' H' => ∃ i', i' < i ∧ ∃ (v5 : Option V) (p : Nat), σ' = [some (.ref r), some (.int (f0 : Nat)), some (.ref B), some (.ref D), some (.int (p : Nat)), v5] ∧ Same H H' ∧ H' B = some (.lst ((Reach.known rows f0 p).map nv)) ∧ H' D = some (.dK (trT (Reach.known rows f0 p))) ∧ p ≤ (Reach.ord rows f0).length ∧ i' + p = (Reach.ord rows f0).length, fun σ' H' z => z, ?_⟩
    refine ⟨_, rfl, _, rfl, _, rfl, B, _, _, nv a, rfl, rfl, SqL.of hBn, atI_nat (get_map ha), r, as.map V.ref, _, .ref b, rfl, rfl, Lf.SqT.same sn sr, atI_nat (get_map hb), b, rfl, ⟨_, Lf.SqT.same sn sb⟩, ?_⟩
    refine for_tup (K := K) (a := b) (xs := row.map nv) (fun j σ Hc => ∃ v5 : Option V, σ = [some (.ref r), some (.int (f0 : Nat)), some (.ref B), some (.ref D), some (.int (p : Nat)), v5] ∧ Same H Hc ∧ Hc B = some (.lst ((Reach.grow (Reach.known rows f0 p) (row.take j)).map nv)) ∧ Hc D = some (.dK (trT (Reach.grow (Reach.known rows f0 p) (row.take j)))))
      ⟨v5, rfl, sn, hBn, hDn⟩ (fun j σ Hc _ ⟨_, _, s, _⟩ => Lf.SqT.same s sb) (fun j z σ Hc hz ⟨v5, eσ, sc, hBc, hDc⟩ => ?_) (fun σ Hc ⟨v5, eσ, sc, hBc, hDc⟩ => ?_)
    · obtain ⟨x, hx, rfl⟩ := map_get hz
      subst eσ
      have gs : Reach.grow (Reach.known rows f0 p) (row.take (j + 1)) = Reach.put (Reach.grow (Reach.known rows f0 p) (row.take j)) x := by rw [take_snoc hx, Reach.grow_snoc]
      have gl : (Reach.grow (Reach.known rows f0 p) (row.take j)).length ≤ rows.length := Reach.nd_len (Reach.grow_nd Reach.known_nd) fun y hy => by
        rcases Reach.grow_mem.mp hy with h | h
        · exact Reach.known_lt RF h
        · exact RF.e row (List.mem_of_getElem? hrow) y (List.mem_of_mem_take h)
      generalize hg : Reach.grow (Reach.known rows f0 p) (row.take j) = L at gs gl hBc hDc ⊢
      refine ⟨_, rfl, _, rfl, D, valV (trT L) (ik x), rfl, DGet.k (k := ik x) hDc, ?_⟩
      by_cases hm : x ∈ L
      · rw [tr_some hm]
        refine ⟨_, rfl, ifF rfl ⟨_, rfl, sc, ?_⟩⟩
        rw [gs, Reach.put_in hm]
        exact ⟨hBc, hDc⟩
      · rw [tr_none hm]
        refine ⟨_, rfl, ifT rfl ?_⟩
        refine ⟨_, rfl, _, rfl, D, _, rfl, DPut.k (k := ik x) hDc (by rw [trT, List.length_map]; show L.length < 16777216; omega), ?_⟩
        rw [tr_put hm]
        have hB5 : L2.upd Hc D (.dK (trT (L ++ [x]))) B = some (.lst (L.map nv)) := by rw [upd_ne nDB.symm]; exact hBc
        have hD5 : L2.upd Hc D (.dK (trT (L ++ [x]))) D = some (.dK (trT (L ++ [x]))) := upd_same
        have s5 : Same H (L2.upd Hc D (.dK (trT (L ++ [x])))) := fun b o e => by
          rw [upd_ne (ne_of_none e nD0)]
          exact sc b o e
        generalize L2.upd Hc D (.dK (trT (L ++ [x]))) = H5 at s5 hB5 hD5 ⊢
        refine ⟨_, rfl, .inl ⟨rfl, _, SqL.of hB5⟩, _, rfl, B, _, _, rfl, rfl, hB5, by rw [List.length_map]; show L.length < 16777216; omega, ?_⟩
        refine ⟨_, rfl, fun b o e => ?_, ?_, ?_⟩
        · rw [upd_ne (ne_of_none e nB)]
          exact s5 b o e
        · rw [gs, Reach.put_new hm, List.map_append]
          exact upd_same
        · rw [gs, Reach.put_new hm, upd_ne nDB]
          exact hD5
    · subst eσ
      rw [List.length_map, List.take_length, ← ek] at hBc hDc
      exact ⟨_, rfl, _, _, rfl, rfl, i - 1, by omega, _, p + 1, rfl, sc, hBc, hDc, hpo, by omega⟩
end
end K69

set_option Elab.async false
set_option linter.all false
set_option maxRecDepth 100000
set_option maxHeartbeats 4000000
namespace K69
open PySem PySem.Spec PyProof.Rows L2 Lf Hop Apart
theorem fstU_some {blk : List Nat} {i b t : Nat} (h : fstU blk i b = some t) : t < i ∧ bo blk t = b := by
  unfold fstU at h
  have h1 := List.find?_some h
  have h2 := List.mem_of_find?_eq_some h
  exact ⟨List.mem_range.mp h2, of_decide_eq_true h1⟩
theorem fstU_mono {blk : List Nat} {b t : Nat} : ∀ {k i : Nat}, fstU blk i b = some t → fstU blk (i + k) b = some t
  | 0, _, h => h
  | k + 1, i, h => by
    rw [← Nat.add_assoc, fstU_step, fstU_mono h]
    rfl
theorem fstU_ex {blk : List Nat} {i b s : Nat} (h : s < i) (e : bo blk s = b) : ∃ t, fstU blk i b = some t := by
  cases z : fstU blk i b with
  | some t => exact ⟨t, rfl⟩
  | none =>
    unfold fstU at z
    have := List.find?_eq_none.mp z s (List.mem_range.mpr h)
    exact (this (decide_eq_true e)).elim
theorem al_spec {blk : List Nat} {s : Nat} : al blk s ≤ s ∧ bo blk (al blk s) = bo blk s ∧ fstU blk (s + 1) (bo blk s) = some (al blk s) := by
  obtain ⟨t, ht⟩ := fstU_ex (blk := blk) (i := s + 1) (s := s) (by omega) rfl
  have e : al blk s = t := by unfold al; rw [ht]; rfl
  obtain ⟨h1, h2⟩ := fstU_some ht
  rw [e]
  exact ⟨by omega, h2, ht⟩
theorem al_eq {blk : List Nat} {s t : Nat} (h : bo blk s = bo blk t) : al blk s = al blk t := by
  have key : ∀ {s t : Nat}, s ≤ t → bo blk s = bo blk t → al blk s = al blk t := fun {s t} l h => by
    have a := (al_spec (blk := blk) (s := s)).2.2
    have b := (al_spec (blk := blk) (s := t)).2.2
    have c := fstU_mono (k := t - s) a
    rw [show s + 1 + (t - s) = t + 1 by omega, h, b] at c
    exact (Option.some.inj c).symm
  rcases Nat.le_total s t with l | l
  · exact key l h
  · exact (key l h.symm).symm
theorem al_al {blk : List Nat} {s : Nat} : al blk (al blk s) = al blk s := al_eq al_spec.2.1
/-- the first ones of all blocks -/
def fsts (blk : List Nat) (m : Nat) : List Nat := (List.range m).filter fun p => decide (p = al blk p)
theorem fsts_nd {blk : List Nat} {m : Nat} : (fsts blk m).Nodup := List.nodup_range.filter _
theorem fsts_mem {blk : List Nat} {m p : Nat} : p ∈ fsts blk m ↔ p < m ∧ p = al blk p := by
  unfold fsts
  rw [List.mem_filter, List.mem_range, decide_eq_true_iff]
theorem al_fsts {blk : List Nat} {m p : Nat} (h : p < m) : al blk p ∈ fsts blk m := fsts_mem.mpr ⟨by have := (al_spec (blk := blk) (s := p)).1; omega, al_al.symm⟩
def phi (blk : List Nat) (m p : Nat) : Nat := Reach.idx (fsts blk m) (al blk p)
theorem phi_zero {blk : List Nat} {m : Nat} (h : 0 < m) : phi blk m 0 = 0 := by
  have a : al blk 0 = 0 := by have := (al_spec (blk := blk) (s := 0)).1; omega
  unfold phi
  rw [a]
  unfold fsts
  obtain ⟨k, rfl⟩ : ∃ k, m = k + 1 := ⟨m - 1, by omega⟩
  rw [List.range_succ_eq_map, List.filter_cons, if_pos (by rw [decide_eq_true_iff]; exact a.symm)]
  unfold Reach.idx
  rw [if_pos rfl]
section
variable {mv : List (List Nat)} {wd st : Nat}
theorem rfO (F : FormM mv wd) (h : st < mv.length) : Reach.Rf mv st := ⟨h, fun row hr e he => (F.2.2.2 row hr).2 e he⟩
theorem ord_in (F : FormM mv wd) (h : st < mv.length) {x : Nat} (hx : x ∈ Reach.ord mv st) : x < mv.length := Reach.known_lt (rfO F h) hx
/-- the rows numbered as they are met -/
theorem met_at (F : FormM mv wd) (h : st < mv.length) {p x : Nat} (hp : (Reach.ord mv st)[p]? = some x) : ∃ row, mv[x]? = some row ∧ (Reach.renum mv st)[p]? = some (row.map (Reach.idx (Reach.ord mv st))) ∧ row.length = wd := by
  have xl := ord_in F h (List.mem_of_getElem? hp)
  obtain ⟨row, hrow⟩ := lt_get xl
  refine ⟨row, hrow, ?_, (F.2.2.2 row (List.mem_of_getElem? hrow)).1⟩
  unfold Reach.renum
  rw [List.getElem?_map, hp]
  show some ((mv.getD x []).map _) = _
  rw [List.getD, hrow]
  rfl
theorem met_form (F : FormM mv wd) (h : st < mv.length) : FormM (Reach.renum mv st) wd := by
  refine ⟨Reach.renum_pos, F.2.1, F.2.2.1, fun row hr => ?_⟩
  obtain ⟨a, h1, h2, h3⟩ := Reach.renum_row (rfO F h) hr
  refine ⟨?_, h3⟩
  obtain ⟨r, hr⟩ := lt_get h1
  rw [h2, List.getD, hr]
  exact (F.2.2.2 r (List.mem_of_getElem? hr)).1
theorem met_step (F : FormM mv wd) (h : st < mv.length) {p x c : Nat} (hp : (Reach.ord mv st)[p]? = some x) (hc : c < wd) : (Reach.ord mv st)[step (Reach.renum mv st) p c]? = some (step mv x c) := by
  obtain ⟨row, h1, h2, h3⟩ := met_at F h hp
  obtain ⟨e, he⟩ := lt_get (show c < row.length by omega)
  have a : step (Reach.renum mv st) p c = Reach.idx (Reach.ord mv st) e := K69.step_at h2 (by rw [List.getElem?_map, he]; rfl)
  have b : step mv x c = e := K69.step_at h1 he
  rw [a, b]
  refine Reach.idx_get (Reach.row_ord (rfO F h) hp ?_)
  rw [List.getD, h1]
  exact List.mem_of_getElem? he
theorem met_lead (F : FormM mv wd) (h : st < mv.length) : ∀ {v : List Nat} {p x : Nat}, (Reach.ord mv st)[p]? = some x → (∀ c ∈ v, c < wd) → (Reach.ord mv st)[lead (Reach.renum mv st) p v]? = some (lead mv x v)
  | [], p, x, hp, _ => hp
  | c :: v, p, x, hp, hv => by
    show (Reach.ord mv st)[lead (Reach.renum mv st) (step (Reach.renum mv st) p c) v]? = some (lead mv (step mv x c) v)
    exact met_lead F h (met_step F h hp (hv c List.mem_cons_self)) fun d hd => hv d (List.mem_cons_of_mem _ hd)
theorem ord_zero (F : FormM mv wd) (h : st < mv.length) : (Reach.ord mv st)[0]? = some st := by
  have := Reach.known_ord (rfO F h) (k := 0) (Nat.zero_le _)
  exact Reach.pre_get this (i := 0) (x := st) rfl
end
/-- the fewest states -/
def few2 (T : List (List Nat)) (blk : List Nat) : List (List Nat) := (fsts blk T.length).map fun p => (T.getD p []).map (phi blk T.length)
def fewM (ms' : List Bool) (blk : List Nat) (m : Nat) : List Bool := (fsts blk m).map fun p => ms'.getD p false
section
variable {T : List (List Nat)} {wd : Nat} {ms' : List Bool} {blk : List Nat}
theorem phi_lt {p : Nat} (h : p < T.length) : phi blk T.length p < (fsts blk T.length).length := Reach.idx_lt (al_fsts h)
theorem few_form (F : FormM T wd) : FormM (few2 T blk) wd := by
  have len : (few2 T blk).length = (fsts blk T.length).length := List.length_map _
  have pos : 0 < (fsts blk T.length).length := Nat.lt_of_le_of_lt (Nat.zero_le _) (phi_lt (blk := blk) (p := 0) F.1)
  refine ⟨by rw [len]; exact pos, F.2.1, F.2.2.1, fun row hr => ?_⟩
  rw [len]
  obtain ⟨p, hp, rfl⟩ := List.mem_map.mp hr
  obtain ⟨pl, _⟩ := fsts_mem.mp hp
  obtain ⟨r, hr⟩ := lt_get pl
  have e : T.getD p [] = r := by rw [List.getD, hr]; rfl
  obtain ⟨f1, f2⟩ := F.2.2.2 r (List.mem_of_getElem? hr)
  rw [e]
  refine ⟨by rw [List.length_map, f1], fun t ht => ?_⟩
  obtain ⟨x, hx, rfl⟩ := List.mem_map.mp ht
  exact phi_lt (f2 x hx)
theorem few_step (F : FormM T wd) (A : Alike T wd ms' blk) {p c : Nat} (hp : p < T.length) (hc : c < wd) : step (few2 T blk) (phi blk T.length p) c = phi blk T.length (step T p c) := by
  have hf := Reach.idx_get (al_fsts (blk := blk) hp)
  have al_lt : al blk p < T.length := by have := (al_spec (blk := blk) (s := p)).1; omega
  obtain ⟨row, h1, h2, h3⟩ := step_lt F al_lt hc
  have e : step (few2 T blk) (phi blk T.length p) c = phi blk T.length (step T (al blk p) c) := by
    refine K69.step_at (row := row.map (phi blk T.length)) ?_ (by rw [List.getElem?_map, h2]; rfl)
    unfold few2 phi
    rw [List.getElem?_map, hf]
    show some ((T.getD (al blk p) []).map _) = _
    rw [List.getD, h1]
    rfl
  rw [e]
  unfold phi
  rw [al_eq (A.st _ _ c al_lt hp hc al_spec.2.1)]
theorem few_lead (F : FormM T wd) (A : Alike T wd ms' blk) : ∀ {v : List Nat} {p : Nat}, p < T.length → (∀ c ∈ v, c < wd) → lead (few2 T blk) (phi blk T.length p) v = phi blk T.length (lead T p v)
  | [], p, _, _ => rfl
  | c :: v, p, hp, hv => by
    have hc := hv c List.mem_cons_self
    obtain ⟨_, _, _, h3⟩ := step_lt F hp hc
    show lead (few2 T blk) (step (few2 T blk) (phi blk T.length p) c) v = _
    rw [few_step F A hp hc]
    exact few_lead F A h3 fun d hd => hv d (List.mem_cons_of_mem _ hd)
theorem few_mark (A : Alike T wd ms' blk) (lm : ms'.length = T.length) {p : Nat} (hp : p < T.length) : mbl (fewM ms' blk T.length) (phi blk T.length p) = mbl ms' p := by
  have hf := Reach.idx_get (al_fsts (blk := blk) hp)
  have al_lt : al blk p < T.length := by have := (al_spec (blk := blk) (s := p)).1; omega
  obtain ⟨a, ha⟩ := lt_get (show al blk p < ms'.length by omega)
  obtain ⟨b, hb⟩ := lt_get (show p < ms'.length by omega)
  have e := A.mark _ _ a b ha hb al_spec.2.1
  show (fewM ms' blk T.length).getD (phi blk T.length p) false = ms'.getD p false
  unfold fewM phi
  rw [List.getD, List.getElem?_map, hf]
  show ms'.getD (al blk p) false = _
  rw [List.getD, ha, List.getD, hb, e]
end
/-- .. of an automaton have its words -/
theorem few_words {mv : List (List Nat)} {wd st : Nat} {ms : List Bool} {blk : List Nat} (F : FormM mv wd) (h : st < mv.length) (lm : ms.length = mv.length)
    (A : Alike (Reach.renum mv st) wd ((Reach.ord mv st).map fun x => ms.getD x false) blk) {v : List Nat} (hv : ∀ c ∈ v, c < wd) :
    mbl (fewM ((Reach.ord mv st).map fun x => ms.getD x false) blk (Reach.renum mv st).length) (lead (few2 (Reach.renum mv st) blk) 0 v) = mbl ms (lead mv st v) := by
  have FT := met_form F h
  have hl := met_lead F h (ord_zero F h) hv
  have ll := lead_lt FT (s := 0) FT.1 hv
  rw [← phi_zero (blk := blk) (m := (Reach.renum mv st).length) FT.1, few_lead FT A FT.1 hv, few_mark A (by rw [List.length_map, Reach.renum_len]) ll]
  show ((Reach.ord mv st).map fun x => ms.getD x false).getD _ false = ms.getD _ false
  rw [List.getD, List.getElem?_map, hl]
  rfl
end K69

set_option Elab.async false
set_option linter.all false
set_option maxRecDepth 100000
set_option maxHeartbeats 8000000
namespace K69
open PySem PySem.Spec PyProof.Rows L2 Lf Hop Apart
/-- a dict from a list with its places -/
theorem dc_enumL {K : PySem.W.Frag} {a : Addr} {xs : List V} {g : TG} {tt : TT} {tk tv : TE} {vs : List Nat} {σ : L2.St} {H1 : Hp} {D : Addr} {Qd : Hp → Prop} (Pv : Nat → Hp → Prop) (h0 : Pv 0 (upd H1 D (.dK []))) (hl : ∀ i H, i ≤ xs.length → Pv i H → SqL K H a xs)
    (hs : ∀ i y H, xs[i]? = some y → Pv i H → ∀ T, H T = none → g (.ref T) (wipe σ vs) (upd H T (.tup [.int (i : Nat), y])) fun σ2 H2 => wipe σ2 vs = wipe σ vs ∧ tt σ2 H2 fun b H3 =>
      if b = true then tk σ2 H3 fun y H4 => tv σ2 H4 fun z H5 => ∃ kvs k, y = kV k ∧ H5 D = some (.dK kvs) ∧ kvs.length < sizeLine ∧ Pv (i + 1) (upd H5 D (.dK (putK kvs k z))) else Pv (i + 1) H3) (hd : ∀ H, Pv xs.length H → Qd H) :
    ∃ W : Nat → Nat → Hp → Prop, (∃ m, W 0 m (upd H1 D (.dK []))) ∧ ∀ i m H, W i m H →
      ((Ite K a).stop i H ∧ Qd H) ∨ ((Ite K a).go i H ∧ ∃ Nx : Hp → Prop, (∀ H', Nx H' → ∃ m', m' < m ∧ W (i + 1) m' H') ∧ ∀ x H', (Ite K a).yld i H x H' → g x (wipe σ vs) H' fun σ2 H2 => wipe σ2 vs = wipe σ vs ∧ tt σ2 H2 fun b H3 =>
        if b = true then tk σ2 H3 fun y H4 => tv σ2 H4 fun z H5 => ∃ kvs k, y = kV k ∧ H5 D = some (.dK kvs) ∧ kvs.length < sizeLine ∧ Nx (upd H5 D (.dK (putK kvs k z))) else Nx H3) := by
  have w := walk_enumL (K := K) (a := a) (xs := xs)
  refine ⟨fun i m H => m = xs.length - i ∧ i ≤ xs.length ∧ Pv i H, ⟨xs.length, by simp, Nat.zero_le _, h0⟩, ?_⟩
  rintro i m H ⟨rfl, hi, p⟩
  have q := hl i H hi p
  by_cases hlt : i < xs.length
  · refine .inr ⟨w.goes i H hlt q, Pv (i + 1), fun H' p' => ⟨xs.length - (i + 1), by omega, rfl, hlt, p'⟩, fun x H' yy => ?_⟩
    obtain ⟨T, y, rfl, nT, rfl, hy⟩ := w.yields i H x H' hlt q yy
    exact hs i y H hy p T nT
  · have e : i = xs.length := by omega
    subst e
    exact .inl ⟨w.stops H q, hd H p⟩
/-- rows as far as they are built -/
def RB (H : Hp) (L : Addr) (T : List (List Nat)) (us : List Addr) : Prop := H L = some (.lst (us.map V.ref)) ∧ ∀ (j : Nat) u row, us[j]? = some u → T[j]? = some row → u ≠ L ∧ H u = some (.lst (row.map nv))
theorem RB.same {H H' : Hp} {L : Addr} {T : List (List Nat)} {us : List Addr} (h : RB H L T us) (e : Same H H') : RB H' L T us := ⟨e _ _ h.1, fun j u row h1 h2 => ⟨(h.2 j u row h1 h2).1, e _ _ (h.2 j u row h1 h2).2⟩⟩
theorem RB.snoc {H : Hp} {L M : Addr} {T : List (List Nat)} {us : List Addr} {row : List Nat} (h : RB H L T us) (hM : H M = some (.lst (row.map nv))) (hr : T[us.length]? = some row) (nML : M ≠ L) : RB (L2.upd H L (.lst (us.map V.ref ++ [.ref M]))) L T (us ++ [M]) := by
  refine ⟨by rw [upd_same, List.map_append]; rfl, fun j u rw' h1 h2 => ?_⟩
  rcases Mon.snoc_cases h1 with g | ⟨rfl, rfl⟩
  · obtain ⟨a, b⟩ := h.2 j u rw' g h2
    exact ⟨a, by rw [upd_ne a]; exact b⟩
  · rw [hr] at h2
    cases h2
    exact ⟨nML, by rw [upd_ne nML]; exact hM⟩
theorem RB.rows {K : PySem.W.Frag} {H : Hp} {L : Addr} {T : List (List Nat)} {us : List Addr} (h : RB H L T us) (l : us.length = T.length) : RowsL K H L T := ⟨us, SqL.of h.1, l, fun i a row h1 h2 => SqL.of (h.2 i a row h1 h2).2⟩
theorem dgI {H' : Hp} {D : Addr} {O : List Nat} {x : Nat} (nd : O.Nodup) (h : H' D = some (.dK (idT O))) (hx : x ∈ O) : DGet H' D (.int (x : Nat)) (some (nv (Reach.idx O x))) := by
  have z := DGet.k (k := ik x) h
  rw [idF_some (k := 0) nd (Reach.idx_get hx), Nat.zero_add] at z
  exact z
theorem fsts_step {blk : List Nat} {i : Nat} : fsts blk (i + 1) = if i = al blk i then fsts blk i ++ [i] else fsts blk i := by
  unfold fsts
  rw [List.range_succ, List.filter_append, List.filter_cons]
  by_cases z : i = al blk i
  · rw [if_pos (by rw [decide_eq_true_iff]; exact z), if_pos z]
    rfl
  · rw [if_neg (by rw [decide_eq_true_iff]; exact z), if_neg z]
    simp
theorem fsts_few {blk : List Nat} {i : Nat} : (fsts blk i).length ≤ i := by
  unfold fsts
  have := List.length_filter_le (fun p => decide (p = al blk p)) (List.range i)
  rw [List.length_range] at this
  exact this
def spFs (K : PySem.W.Frag) : Sp := fun vs H Q _ => ∃ (t pm : Addr) (mv : List (List Nat)) (wd st : Nat) (ms : List Bool), vs = [.ref t, nv st, .ref pm] ∧ RowsT K H t mv ∧ FormM mv wd ∧ mv.length ≤ 500 ∧ st < mv.length ∧ H pm = some (.lst (ms.map V.bl)) ∧ ms.length = mv.length ∧
  ∀ T r2 p2 blk H', Same H H' → H' T = some (.tup [.ref r2, .ref p2]) → RowsL K H' r2 (few2 (Reach.renum mv st) blk) → H' p2 = some (.lst ((fewM ((Reach.ord mv st).map fun x => ms.getD x false) blk (Reach.renum mv st).length).map V.bl)) →
    Alike (Reach.renum mv st) wd ((Reach.ord mv st).map fun x => ms.getD x false) blk → Q (.ref T) H'
abbrev NFs : List Str := ["rows", "start", "marks", "order", "places", "met", "alike", "firsts", "numbers", "place", "state", "end", "least", "number"]
def scFs1 : Scope := { kind := .function, names := [(".0", .local), ("state", .local), ("places", .cell), ("rows", .cell)], isGenerator := false, isCoroutine := false }
def scFs2 : Scope := { kind := .function, names := [(".0", .local), ("place", .local), ("alike", .cell), ("met", .cell), ("numbers", .cell)], isGenerator := false, isCoroutine := false }
section
variable {P : Program} {w : World} {K : PySem.W.Frag} {mg : Str → Option Value} {base : Heap}
theorem scFs : FnScope NFs ["rows", "start", "marks"] (defScope s_fewest_states) := ⟨rfl, rfl, rfl, by decide +kernel, rfl, by decide +kernel, by decide +kernel⟩
theorem ok_fs {f : Addr} {fd : FuncData} {q : Str} (F : FunD K "fewest_states" q (defArgs s_fewest_states) (defBody s_fewest_states) (defScope s_fewest_states) [] [] f fd) (T : Txt P w K mg base)
    (DR : Def P w K mg base CX0 2 "reached_from" ["rows", "first"] (spReach K)) (DL : Def P w K mg base CX0 3 "least_alike" ["rows", "marks"] (spLA K)) :
    FnOk P w K mg base CX0 4 f fd ["rows", "start", "marks"] (spFs K) := by
  have zE : mg "enumerate" = none := T.fr 56 "enumerate" rfl
  refine F.ok scFs (fun vs H Q E h => ?_) (fun cdv A outer s H vs Q E hr h => ?_)
  · obtain ⟨t, pm, mv, wd, st, ms, rfl, _⟩ := h
    rfl
  · obtain ⟨t, pm, mv, wd, st, ms, rfl, R, FM, n5, sl, hpm, lms, k⟩ := h
    have hu : (A.deeper (envOfC q (defScope s_fewest_states) s.heap.objs.size f cdv)).units + 1 < cLine := by have := hr.units; omega
    have r2 : Room 2 _ := hr.mono (by decide)
    refine ⟨_, PSs.nox (pss_cons (ps_set (i := 3) scFs.nd rfl (.inr rfl) (pe_def DR r2 pass0 rfl (pa_cons (pv 0) (pa_cons (pv 1) pa_nil))))
      (pss_cons (ps_set (i := 4) scFs.nd rfl (.inr rfl) (pe_dc (own := [("place", 9), ("state", 10)]) (g := gTup K 2 (gCons (gName 9) (gCons (gName 10) gNil))) (tk := tVar 10) (tv := tVar 9) rfl scFs.nd (pi_enumA rfl zE (pv 3)) (blkOk_by (own := [("place", 9), ("state", 10)]) (N := NFs) (sc := defScope s_fewest_states) (by decide +kernel))
          (fun _ _ _ _ _ => pg_tup rfl (pgs_cons (pg_name (i := 9) scFs.nd rfl (Or.inl rfl)) (pgs_cons (pg_name (i := 10) scFs.nd rfl (Or.inl rfl)) pgs_nil))) (fun _ _ _ _ _ => pts_nil) (fun _ _ _ _ _ => pv 10) (fun _ _ _ _ _ => pv 9)))
      (pss_cons (ps_set (i := 5) scFs.nd rfl (.inr rfl) (pe_lc (own := [("state", 10)]) (g := gName 10) (te := tLc (iTup K (tOp (rIxT K) (tVar 0) (tVar 10))) (gName 11) tYes (tDGet (tVar 4) (tVar 11)) [11]) (by rfl) scFs.nd (pi_list (pv 3)) (blkOk_by (own := [("state", 10)]) (N := NFs) (sc := defScope s_fewest_states) (by decide +kernel)) (fun _ _ _ _ _ => pg_name (i := 10) scFs.nd rfl (Or.inl rfl)) (fun _ _ _ _ _ => pts_nil)
        (fun _ _ _ _ _ => by
          refine pe_lc (own := [("end", 11)]) (g := gName 11) (by rfl) scFs.nd (pi_tup (pe_ix ix_tup (pv 0) (pv 10) (fun _ _ => rfl))) (blkOk_by (own := [("end", 11)]) (N := NFs) (sc := scFs1) (by decide +kernel)) (fun _ _ _ _ _ => ?_) (fun _ _ _ _ _ => pts_nil) (fun _ _ _ _ _ => ?_)
          · exact pg_name (i := 11) scFs.nd rfl (Or.inl rfl)
          · exact pe_dget hu (pv 4) (pv 11) (fun _ _ => rfl))))
      (pss_cons (ps_set (i := 6) scFs.nd rfl (.inr rfl) (pe_def DL hr pass0 rfl (pa_cons (pv 5) (pa_cons (pe_lc (own := [("state", 10)]) (g := gName 10) (te := tOp (rIxL K) (tVar 2) (tVar 10)) (by rfl) scFs.nd (pi_list (pv 3)) (blkOk_by (own := [("state", 10)]) (N := NFs) (sc := defScope s_fewest_states) (by decide +kernel)) (fun _ _ _ _ _ => pg_name (i := 10) scFs.nd rfl (Or.inl rfl)) (fun _ _ _ _ _ => pts_nil)
        (fun _ _ _ _ _ => by exact pe_ix ix_list (pv 2) (pv 10) (fun _ _ => rfl))) pa_nil))))
      (pss_cons (ps_setLc (i := 7) (own := [("place", 9), ("least", 12)]) (g := gTup K 2 (gCons (gName 9) (gCons (gName 12) gNil))) (te := tVar 9) rfl scFs.nd rfl rfl (by rfl) (pi_enumA rfl zE (pv 6)) (blkOk_by (own := [("place", 9), ("least", 12)]) (N := NFs) (sc := defScope s_fewest_states) (by decide +kernel)) (fun _ _ _ _ _ => pg_tup rfl (pgs_cons (pg_name (i := 9) scFs.nd rfl (Or.inl rfl)) (pgs_cons (pg_name (i := 12) scFs.nd rfl (Or.inl rfl)) pgs_nil)))
        (fun _ _ _ _ _ => by exact pts_one (pt_cmpR op_eq (pv 9) (pv 12) (nomark _))) (fun _ _ _ _ _ => pv 9))
      (pss_cons (ps_set (i := 8) scFs.nd rfl (.inr rfl) (pe_dc (own := [("number", 13), ("place", 9)]) (g := gTup K 2 (gCons (gName 13) (gCons (gName 9) gNil))) (tk := tVar 9) (tv := tVar 13) rfl scFs.nd (pi_enumA rfl zE (pv 7)) (blkOk_by (own := [("number", 13), ("place", 9)]) (N := NFs) (sc := defScope s_fewest_states) (by decide +kernel))
          (fun _ _ _ _ _ => pg_tup rfl (pgs_cons (pg_name (i := 13) scFs.nd rfl (Or.inl rfl)) (pgs_cons (pg_name (i := 9) scFs.nd rfl (Or.inl rfl)) pgs_nil))) (fun _ _ _ _ _ => pts_nil) (fun _ _ _ _ _ => pv 9) (fun _ _ _ _ _ => pv 13)))
      (pss_one (ps_ret (pe_tup (pa_cons (pe_lc (own := [("place", 9)]) (g := gName 9) (te := tLc (iList K (tOp (rIxL K) (tVar 5) (tVar 9))) (gName 11) tYes (tDGet (tVar 8) (tOp (rIxL K) (tVar 6) (tVar 11))) [11]) (by rfl) scFs.nd (pi_list (pv 7)) (blkOk_by (own := [("place", 9)]) (N := NFs) (sc := defScope s_fewest_states) (by decide +kernel)) (fun _ _ _ _ _ => pg_name (i := 9) scFs.nd rfl (Or.inl rfl)) (fun _ _ _ _ _ => pts_nil)
        (fun _ _ _ _ _ => by
          refine pe_lc (own := [("end", 11)]) (g := gName 11) (by rfl) scFs.nd (pi_list (pe_ix ix_list (pv 5) (pv 9) (fun _ _ => rfl))) (blkOk_by (own := [("end", 11)]) (N := NFs) (sc := scFs2) (by decide +kernel)) (fun _ _ _ _ _ => ?_) (fun _ _ _ _ _ => pts_nil) (fun _ _ _ _ _ => ?_)
          · exact pg_name (i := 11) scFs.nd rfl (Or.inl rfl)
          · exact pe_dget hu (pv 8) (pe_ix ix_list (pv 6) (pv 11) (fun _ _ => rfl)) (fun _ _ => rfl)))
        (pa_cons (pe_lc (own := [("place", 9)]) (g := gName 9) (te := tOp (rIxL K) (tVar 2) (tOp (rIxL K) (tVar 3) (tVar 9))) (by rfl) scFs.nd (pi_list (pv 7)) (blkOk_by (own := [("place", 9)]) (N := NFs) (sc := defScope s_fewest_states) (by decide +kernel)) (fun _ _ _ _ _ => pg_name (i := 9) scFs.nd rfl (Or.inl rfl)) (fun _ _ _ _ _ => pts_nil)
        (fun _ _ _ _ _ => by exact pe_ix ix_list (pv 2) (pe_ix ix_list (pv 3) (pv 9) (fun _ _ => rfl)) (fun _ _ => rfl))) pa_nil))))))))))), ?_⟩
    have RF := rfO FM sl
    have ol := Reach.ord_len RF
    have nd := Reach.ord_nd (rows := mv) (f := st)
    have FT := met_form FM sl
    have lT : (Reach.renum mv st).length = (Reach.ord mv st).length := Reach.renum_len
    obtain ⟨as, sr, la, srow⟩ := R.ex
    refine ⟨_, rfl, _, rfl, t, st, mv, rfl, R, RF, by omega, fun p H1 np s1 hp => ?_⟩
    obtain ⟨O, hO⟩ : ∃ O, O = Reach.ord mv st := ⟨_, rfl⟩
    rw [← hO] at hp ol nd lT
    refine ⟨_, rfl, p, _, rfl, .inl ⟨SqL.of hp, fun D nD => ?_⟩⟩
    have nDp : D ≠ p := fun z => by rw [z, hp] at nD; cases nD
    refine dc_enumL (K := K) (a := p) (xs := O.map nv) (fun i Hc => But D H1 Hc ∧ Hc D = some (.dK (idT (O.take i)))) ⟨But.upd, upd_same⟩ (fun i Hc _ ⟨bc, _⟩ => SqL.of (bc _ _ nDp.symm hp)) (fun i y Hc hy ⟨bc, hD⟩ T0 nT => ?_) (fun Hc ⟨bc, hD⟩ => ?_)
    · obtain ⟨x, hx, rfl⟩ := map_get hy
      refine ⟨T0, _, rfl, SqT.of upd_same, rfl, _, _, rfl, _, _, rfl, rfl, rfl, yesT ?_⟩
      have nTD : T0 ≠ D := fun z => by rw [z, hD] at nT; cases nT
      have ln : (O.take i).length = i := by rw [List.length_take]; have := get_lt hx; omega
      have new : x ∉ O.take i := nodup_take nd hx
      refine ⟨_, rfl, _, rfl, idT (O.take i), ik x, rfl, by rw [upd_ne nTD.symm]; exact hD, by rw [idF_len, ln]; have := get_lt hx; show i < 16777216; omega, ?_, ?_⟩
      · refine But.trans (fun b o nb e => ?_) But.upd
        have e' := bc b o nb e
        rw [upd_ne (ne_of_none e' nT)]
        exact e'
      · have z := idT_put new
        rw [ln] at z
        rw [upd_same, take_snoc hx, ← z]
    rw [List.length_map, List.take_length] at hD
    have s3 : Same H Hc := fun b o e => bc b o (ne_of_none (s1 b o e) nD) (s1 b o e)
    have hp3 := bc _ _ nDp.symm hp
    clear bc hp s1 nD
    dsimp only
    refine ⟨_, rfl, p, rfl, ⟨_, SqL.of hp3⟩, fun L nL => ?_⟩
    have nLp : L ≠ p := fun z => by rw [z, hp3] at nL; cases nL
    have nLD : L ≠ D := fun z => by rw [z, hD] at nL; cases nL
    refine lc_list (K := K) (a := p) (xs := O.map nv) (fun i Hd => But L Hc Hd ∧ ∃ us : List Addr, us.length = i ∧ RB Hd L (Reach.renum mv st) us) ⟨But.upd, [], rfl, upd_same, fun j u row h => by simp at h⟩ (fun i Hd _ ⟨bd, _⟩ => SqL.of (bd _ _ nLp.symm hp3)) (fun i z Hd hz ⟨bd, us, lu, rb⟩ => ?_) (fun Hd ⟨bd, us, lu, rb⟩ => ?_)
    · obtain ⟨x, hx, rfl⟩ := map_get hz
      have il := get_lt hx
      refine ⟨rfl, yesT ?_⟩
      obtain ⟨row, hrow, eR, lrow⟩ := met_at FM sl (by rw [← hO]; exact hx)
      rw [← hO] at eR
      obtain ⟨b, hb⟩ := lt_get (show x < as.length by rw [la]; exact get_lt hrow)
      have sb := srow x b row hb hrow
      have sd : Same H Hd := fun b o e => bd b o (ne_of_none (s3 b o e) nL) (s3 b o e)
      have hDd := bd _ _ nLD.symm hD
      have inO : ∀ y ∈ row, y ∈ O := fun y hy => by
        rw [hO] at hx ⊢
        exact Reach.row_ord RF hx (by rw [Mon.getD_of hrow]; exact hy)
      refine ⟨_, rfl, _, rfl, t, as.map V.ref, _, .ref b, rfl, rfl, Lf.SqT.same sd sr, atI_nat (get_map hb), b, rfl, ⟨_, Lf.SqT.same sd sb⟩, fun M nM => ?_⟩
      have nMD : M ≠ D := fun z => by rw [z, hDd] at nM; cases nM
      have nML : M ≠ L := fun z => by rw [z, rb.1] at nM; cases nM
      refine lc_tup (K := K) (a := b) (xs := row.map nv) (fun j He => But M Hd He ∧ He M = some (.lst (((row.take j).map (Reach.idx O)).map nv))) ⟨But.upd, upd_same⟩ (fun j He _ ⟨be, _⟩ => Lf.SqT.same (fun b o e => be b o (ne_of_none (sd b o e) nM) (sd b o e)) sb) (fun j z He hz ⟨be, hM⟩ => ?_) (fun He ⟨be, hM⟩ => ?_)
      · obtain ⟨y, hy, rfl⟩ := map_get hz
        refine ⟨rfl, yesT ?_⟩
        refine ⟨_, rfl, _, rfl, D, _, rfl, dgI nd (be _ _ nMD.symm hDd) (inO y (List.mem_of_getElem? hy)), _, hM, ?_, But.trans be But.upd, ?_⟩
        · rw [List.length_map, List.length_map, List.length_take]
          have := get_lt hy
          have := FM.2.2.1
          show min j row.length < 16777216
          omega
        · rw [upd_same, take_snoc hy, List.map_append, List.map_append]
          rfl
      · rw [List.length_map, List.take_length] at hM
        have se := Same.but (L2.Same.refl _) nM be
        have rb2 := rb.same se
        exact ⟨_, rb2.1, by rw [List.length_map, lu]; show i < 16777216; omega, (bd.trans (But.of se)).trans But.upd, us ++ [M], by rw [List.length_append, lu]; rfl, rb2.snoc hM (by rw [lu]; exact eR) nML⟩
    rw [List.length_map] at lu
    have s4 : Same Hc Hd := fun b o e => bd b o (ne_of_none e nL) e
    have RL : RowsL K Hd L (Reach.renum mv st) := rb.rows (by rw [lu, lT])
    have nLs := nL
    have hp4 := s4 _ _ hp3
    have hD4 := s4 _ _ hD
    have s4 := s3.trans s4
    clear bd rb nL lu us
    dsimp only
    have lms' : (O.map fun x => ms.getD x false).length = (Reach.renum mv st).length := by rw [List.length_map, lT]
    refine ⟨_, rfl, _, rfl, p, rfl, ⟨_, SqL.of hp4⟩, fun B nB => ?_⟩
    have nBp : B ≠ p := fun z => by rw [z, hp4] at nB; cases nB
    refine lc_list (K := K) (a := p) (xs := O.map nv) (fun i He => But B Hd He ∧ He B = some (.lst (((O.take i).map fun x => ms.getD x false).map V.bl))) ⟨But.upd, upd_same⟩ (fun i He _ ⟨be, _⟩ => SqL.of (be _ _ nBp.symm hp4)) (fun i z He hz ⟨be, hB⟩ => ?_) (fun He ⟨be, hB⟩ => ?_)
    · obtain ⟨x, hx, rfl⟩ := map_get hz
      refine ⟨rfl, yesT ?_⟩
      have xl : x < mv.length := ord_in FM sl (by rw [← hO]; exact List.mem_of_getElem? hx)
      obtain ⟨m, hm⟩ := lt_get (show x < ms.length by omega)
      have se := Same.but (L2.Same.refl _) nB be
      refine ⟨_, rfl, _, rfl, pm, _, _, .bl m, rfl, rfl, SqL.of (se _ _ (s4 _ _ hpm)), atI_nat (get_map hm), _, hB, ?_, be.trans But.upd, ?_⟩
      · rw [List.length_map, List.length_map, List.length_take]
        have := get_lt hx
        show min i O.length < 16777216
        omega
      · rw [upd_same, take_snoc hx, List.map_append, List.map_append, List.map_cons, List.map_nil, List.map_cons, List.map_nil, show ms.getD x false = m by rw [List.getD, hm]; rfl]
    rw [List.length_map, List.take_length] at hB
    have se := Same.but (L2.Same.refl _) nB be
    refine ⟨L, B, Reach.renum mv st, wd, _, rfl, RL.same se, FT, by omega, hB, lms', fun D2 blk H6 s6 nD2 hD2 AL => ?_⟩
    have RL6 := (RL.same se).same s6
    have s6' := (s4.trans se).trans s6
    have hp6 := s6 _ _ (se _ _ hp4)
    clear be hB RL s4 hD4 hp4 hD hp3 s3 se s6
    dsimp only
    have m5 : (Reach.renum mv st).length ≤ 500 := by omega
    refine ⟨_, rfl, D2, _, rfl, .inl ⟨SqL.of hD2, fun Fa nFa => ?_⟩⟩
    have nFD : Fa ≠ D2 := fun z => by rw [z, hD2] at nFa; cases nFa
    refine lc_it (walk_enumL (K := K) (a := D2) (xs := (List.range (Reach.renum mv st).length).map fun s => nv (al blk s))) (fun i Hc => But Fa H6 Hc ∧ Hc Fa = some (.lst ((fsts blk i).map nv))) ⟨But.upd, upd_same⟩ (fun i Hc _ ⟨bc, _⟩ => SqL.of (bc _ _ nFD.symm hD2)) (fun i y Hc H' hi ⟨bc, hF⟩ yl => ?_) (fun Hc ⟨bc, hF⟩ => ?_)
    · obtain ⟨T0, y0, rfl, nT0, rfl, hy0⟩ := yl
      obtain ⟨i', hi', rfl⟩ := map_get hy0
      have il := get_lt hi'
      rw [List.length_range] at il
      rw [List.getElem?_range il] at hi'
      cases hi'
      refine ⟨T0, _, rfl, SqT.of upd_same, rfl, _, _, rfl, _, _, rfl, rfl, rfl, _, rfl, _, rfl, rfl, _, rfl, ?_⟩
      have u5 := same_upd (o := .tup [.int (i : Nat), nv (al blk i)]) nT0
      have b5 := bc.trans (But.of u5)
      have hF5 := u5 _ _ hF
      generalize L2.upd Hc T0 (.tup [.int (i : Nat), nv (al blk i)]) = H7 at b5 hF5 ⊢
      clear u5 nT0 bc hF
      refine ite2 (fun e => ?_) (fun e => ?_)
      · have e2 : ((i : Nat) : Int) = ((al blk i : Nat) : Int) := V.int.inj (of_decide_eq_true e)
        have fl := fsts_few (blk := blk) (i := i)
        refine ⟨_, rfl, _, hF5, by rw [List.length_map]; show (fsts blk i).length < 16777216; omega, b5.trans But.upd, ?_⟩
        rw [upd_same, fsts_step, if_pos (by omega), List.map_append]
        rfl
      · refine ⟨b5, ?_⟩
        rw [fsts_step, if_neg (fun z => e (decide_eq_true (by rw [← z])))]
        exact hF5
    rw [List.length_map, List.length_range] at hF
    have s7 : Same H6 Hc := fun b o e => bc _ _ (ne_of_none e nFa) e
    have RL7 := RL6.same s7
    have hp7 := s7 _ _ hp6
    have hA7 := s7 _ _ hD2
    have sH7 := s6'.trans s7
    have fnd := fsts_nd (blk := blk) (m := (Reach.renum mv st).length)
    have ffew := fsts_few (blk := blk) (i := (Reach.renum mv st).length)
    clear bc nFa RL6 hp6 hD2 s6' s7 nD2
    obtain ⟨m, hm0⟩ : ∃ m, m = (Reach.renum mv st).length := ⟨_, rfl⟩
    obtain ⟨Fl, hFl⟩ : ∃ Fl, Fl = fsts blk m := ⟨_, rfl⟩
    have Flm : ∀ q ∈ Fl, q < (Reach.renum mv st).length := fun q hq => by rw [hFl] at hq; rw [← hm0]; exact (fsts_mem.mp hq).1
    rw [← hm0, ← hFl] at hF fnd ffew
    dsimp only
    refine ⟨_, rfl, Fa, _, rfl, .inl ⟨SqL.of hF, fun Dn nDn => ?_⟩⟩
    have nDF : Dn ≠ Fa := fun z => by rw [z, hF] at nDn; cases nDn
    refine dc_enumL (K := K) (a := Fa) (xs := Fl.map nv) (fun i He => But Dn Hc He ∧ He Dn = some (.dK (idT (Fl.take i)))) ⟨But.upd, upd_same⟩ (fun i He _ ⟨bc, _⟩ => SqL.of (bc _ _ nDF.symm hF)) (fun i y He hy ⟨bc, hD⟩ T0 nT => ?_) (fun He ⟨bc, hD⟩ => ?_)
    · obtain ⟨x, hx, rfl⟩ := map_get hy
      refine ⟨T0, _, rfl, SqT.of upd_same, rfl, _, _, rfl, _, _, rfl, rfl, rfl, yesT ?_⟩
      have nTD : T0 ≠ Dn := fun z => by rw [z, hD] at nT; cases nT
      have ln : (Fl.take i).length = i := by rw [List.length_take]; have := get_lt hx; omega
      have new : x ∉ Fl.take i := nodup_take fnd hx
      refine ⟨_, rfl, _, rfl, idT (Fl.take i), ik x, rfl, by rw [upd_ne nTD.symm]; exact hD, by rw [idF_len, ln]; have := get_lt hx; show i < 16777216; omega, ?_, ?_⟩
      · refine But.trans (fun b o nb e => ?_) But.upd
        have e' := bc b o nb e
        rw [upd_ne (ne_of_none e' nT)]
        exact e'
      · have z := idT_put new
        rw [ln] at z
        rw [upd_same, take_snoc hx, ← z]
    rw [List.length_map, List.take_length] at hD
    have s8 : Same Hc He := fun b o e => bc _ _ (ne_of_none e nDn) e
    have RL8 := RL7.same s8
    have hp8 := s8 _ _ hp7
    have hA8 := s8 _ _ hA7
    have hF8 := s8 _ _ hF
    have sH8 := sH7.trans s8
    clear bc nDn RL7 hp7 hA7 hF sH7 s8
    obtain ⟨bs, sb, lb, brow⟩ := RL8.ex
    dsimp only
    refine ⟨_, rfl, Fa, rfl, ⟨_, SqL.of hF8⟩, fun L2' nL => ?_⟩
    have nLF : L2' ≠ Fa := fun z => by rw [z, hF8] at nL; cases nL
    refine lc_list (K := K) (a := Fa) (xs := Fl.map nv) (fun i Hd => But L2' He Hd ∧ ∃ us : List Addr, us.length = i ∧ RB Hd L2' (few2 (Reach.renum mv st) blk) us) ⟨But.upd, [], rfl, upd_same, fun j u row h => by simp at h⟩ (fun i Hd _ ⟨bd, _⟩ => SqL.of (bd _ _ nLF.symm hF8)) (fun i z Hd hz ⟨bd, us, lu, rb⟩ => ?_) (fun Hd ⟨bd, us, lu, rb⟩ => ?_)
    · obtain ⟨x, hx, rfl⟩ := map_get hz
      have il := get_lt hx
      refine ⟨rfl, yesT ?_⟩
      have xl := Flm x (List.mem_of_getElem? hx)
      obtain ⟨row, hrow⟩ := lt_get xl
      obtain ⟨b, hb⟩ := lt_get (show x < bs.length by rw [lb]; exact xl)
      have sbx := brow x b row hb hrow
      have sd := Same.but (L2.Same.refl _) nL bd
      obtain ⟨lrow, rowlt⟩ := FT.2.2.2 row (List.mem_of_getElem? hrow)
      have eR : (few2 (Reach.renum mv st) blk)[i]? = some (row.map (phi blk m)) := by
        unfold few2
        rw [← hm0, ← hFl, List.getElem?_map, hx]
        show some (List.map _ ((Reach.renum mv st).getD x [])) = _
        rw [Mon.getD_of hrow]
      refine ⟨_, rfl, _, rfl, L, _, _, .ref b, rfl, rfl, L2.Same.seq sd sb, atI_nat (get_map hb), b, rfl, ⟨_, L2.Same.seq sd sbx⟩, fun M nM => ?_⟩
      have nML : M ≠ L2' := fun z => by rw [z, rb.1] at nM; cases nM
      refine lc_list (K := K) (a := b) (xs := row.map nv) (fun j Hf => But M Hd Hf ∧ Hf M = some (.lst (((row.take j).map (phi blk m)).map nv))) ⟨But.upd, upd_same⟩ (fun j Hf _ ⟨be, _⟩ => L2.Same.seq (sd.trans (Same.but (L2.Same.refl _) nM be)) sbx) (fun j z Hf hz ⟨be, hM⟩ => ?_) (fun Hf ⟨be, hM⟩ => ?_)
      · obtain ⟨y, hy, rfl⟩ := map_get hz
        have yl := rowlt y (List.mem_of_getElem? hy)
        have sf := sd.trans (Same.but (L2.Same.refl _) nM be)
        refine ⟨rfl, yesT ?_⟩
        refine ⟨_, rfl, _, rfl, _, rfl, D2, _, _, nv (al blk y), rfl, rfl, SqL.of (sf _ _ hA8), atI_nat (j := y) (by rw [List.getElem?_map, List.getElem?_range yl]; rfl), Dn, _, rfl, dgI fnd (sf _ _ hD) (by rw [hFl, hm0]; exact al_fsts yl), _, hM, ?_, But.trans be But.upd, ?_⟩
        · rw [List.length_map, List.length_map, List.length_take]
          have := get_lt hy
          have := FM.2.2.1
          show min j row.length < 16777216
          omega
        · rw [upd_same, take_snoc hy, List.map_append, List.map_append, hFl]
          rfl
      · rw [List.length_map, List.take_length] at hM
        have se := Same.but (L2.Same.refl _) nM be
        have rb2 := rb.same se
        exact ⟨_, rb2.1, by rw [List.length_map, lu]; show i < 16777216; omega, (bd.trans (But.of se)).trans But.upd, us ++ [M], by rw [List.length_append, lu]; rfl, rb2.snoc hM (by rw [lu]; exact eR) nML⟩
    rw [List.length_map] at lu
    have s9 := Same.but (L2.Same.refl _) nL bd
    have R9 : RowsL K Hd L2' (few2 (Reach.renum mv st) blk) := rb.rows (by rw [lu]; unfold few2; rw [List.length_map, ← hm0, hFl])
    have hp9 := s9 _ _ hp8
    have hF9 := s9 _ _ hF8
    have sH9 := sH8.trans s9
    clear bd rb nL lu us sb brow hp8 hF8 sH8 hA8 hD RL8 s9
    refine ⟨_, rfl, Fa, rfl, ⟨_, SqL.of hF9⟩, fun M nM => ?_⟩
    have nMF : M ≠ Fa := fun z => by rw [z, hF9] at nM; cases nM
    refine lc_list (K := K) (a := Fa) (xs := Fl.map nv) (fun i Hf => But M Hd Hf ∧ Hf M = some (.lst (((Fl.take i).map fun q => (O.map fun x => ms.getD x false).getD q false).map V.bl))) ⟨But.upd, upd_same⟩ (fun i Hf _ ⟨be, _⟩ => SqL.of (be _ _ nMF.symm hF9)) (fun i z Hf hz ⟨be, hB⟩ => ?_) (fun Hf ⟨be, hB⟩ => ?_)
    · obtain ⟨q0, hq, rfl⟩ := map_get hz
      refine ⟨rfl, yesT ?_⟩
      have ql := Flm q0 (List.mem_of_getElem? hq)
      obtain ⟨x, hx⟩ := lt_get (show q0 < O.length by omega)
      have xl : x < mv.length := ord_in FM sl (by rw [← hO]; exact List.mem_of_getElem? hx)
      obtain ⟨b, hb⟩ := lt_get (show x < ms.length by omega)
      have sf := Same.but (L2.Same.refl _) nM be
      refine ⟨_, rfl, _, rfl, _, rfl, p, _, _, nv x, rfl, rfl, SqL.of (sf _ _ hp9), atI_nat (get_map hx), pm, _, _, .bl b, rfl, rfl, SqL.of (sf _ _ (sH9 _ _ hpm)), atI_nat (get_map hb), _, hB, ?_, be.trans But.upd, ?_⟩
      · rw [List.length_map, List.length_map, List.length_take]
        have := get_lt hq
        show min i Fl.length < 16777216
        omega
      · rw [upd_same, take_snoc hq, List.map_append, List.map_append, List.map_cons, List.map_nil, List.map_cons, List.map_nil, show (O.map fun x => ms.getD x false).getD q0 false = b by rw [List.getD, List.getElem?_map, hx]; show ms.getD x false = b; rw [List.getD, hb]; rfl]
    rw [List.length_map, List.take_length] at hB
    have sf := Same.but (L2.Same.refl _) nM be
    refine ⟨(by show 2 ≤ sizeLine; decide), fun T1 nT1 => ?_⟩
    have sT := same_upd (o := .tup [.ref L2', .ref M]) nT1
    refine k T1 L2' M blk _ ((sH9.trans sf).trans sT) upd_same ((R9.same sf).same sT) ?_ (by rw [← hO]; exact AL)
    rw [sT _ _ hB, hFl, hm0, hO]
    rfl
end
end K69

set_option Elab.async false
set_option linter.all false
set_option maxRecDepth 100000
set_option maxHeartbeats 4000000
/-! A lambda with two parameters that is kept in a name, handed to a def of the module and called there. -/
namespace Lf
open PySem PySem.Spec PyProof.Rows L2 LamX
/-- the names of such a lambda: its two parameters, captured ones, globals -/
structure LamV (sc scope : Scope) (N : List Str) (x1 x2 : Str) : Prop where
  kind : scope.kind = .function
  co : scope.isCoroutine = false
  gen : scope.isGenerator = false
  ne : (x1 == x2) = false
  l1 : scope.names.lookup x1 = some .local
  l2 : scope.names.lookup x2 = some .local
  cell : ∀ y ∈ scope.names, y.2 ≠ .cell
  free : ∀ y ∈ scope.names, y.2 = .free → sc.names.lookup y.1 = some .cell ∨ sc.names.lookup y.1 = some .free
  dis : ∀ x ∈ N, scope.names.lookup x ≠ some .local
def lamVB (sc scope : Scope) (N : List Str) (x1 x2 : Str) : Bool :=
  (decide (scope.kind = .function) && !scope.isCoroutine && !scope.isGenerator) && (!(x1 == x2) && decide (scope.names.lookup x1 = some .local) && decide (scope.names.lookup x2 = some .local)) &&
  ((scope.names.all fun y => !decide (y.2 = .cell)) && (scope.names.all fun y => !decide (y.2 = .free) || (decide (sc.names.lookup y.1 = some .cell) || decide (sc.names.lookup y.1 = some .free))) && N.all fun x => !decide (scope.names.lookup x = some .local))
theorem lamV_by {sc scope : Scope} {N : List Str} {x1 x2 : Str} (h : lamVB sc scope N x1 x2 = true) : LamV sc scope N x1 x2 := by
  unfold lamVB at h
  simp only [Bool.and_eq_true, Bool.or_eq_true, Bool.not_eq_true', decide_eq_true_eq, decide_eq_false_iff_not, List.all_eq_true] at h
  obtain ⟨⟨⟨⟨a1, a2⟩, a3⟩, ⟨b1, b2⟩, b3⟩, ⟨c1, c2⟩, c3⟩ := h
  exact ⟨a1, a2, a3, b1, b2, b3, c1, fun y hy e => (c2 y hy).elim (fun z => absurd e z) id, c3⟩
abbrev vObj (X : Cx) (params : Arguments) (body : Expr) (scope : Scope) (pm : Value) (c' : Addr) (ctv : Value) : Obj :=
  PySem.W.kla_obj "<lambda>" (X.env.qual ++ "<lambda>") params body scope (cloFrom X.env.cells scope.names []) pm c' ctv
abbrev vFn (X : Cx) (params : Arguments) (body : Expr) (scope : Scope) (pm : Value) (c' : Addr) (ctv : Value) : FuncData :=
  PySem.W.kla_fn "<lambda>" (X.env.qual ++ "<lambda>") params body scope (cloFrom X.env.cells scope.names []) pm (.ref c') ctv
/-- where the body runs: its parameters ahead of the names of the def that made it -/
def lamCxV (X : Cx) (A : Around) (outer : List Env) (s : Shared) (H : Hp) (scope : Scope) (f c' : Addr) (x1 x2 : Str) : Cx :=
  { lamCx X A outer s H C8.E0 scope f c' with N := x1 :: x2 :: X.N, xe := fun _ _ => False }
section
variable {X : Cx} {pins : List (Addr × Obj)} {σ : L2.St} {H HZ : Hp} {s s1 : Shared} {scope : Scope} {x1 x2 : Str}
theorem LamV.has (L : LamV X.env.scope scope X.N x1 x2) (ok : X.Ok) : ∀ y ∈ scope.names, y.2 = .free → ∃ c, X.env.cells.lookup y.1 = some c := fun y hy e =>
  (L.free y hy e).elim (fun k => ok.has _ (.inl k)) (fun k => ok.has _ (.inr k))
theorem LamV.clo (L : LamV X.env.scope scope X.N x1 x2) (ok : X.Ok) {y : Str} {c : Addr} (e : (cloFrom X.env.cells scope.names []).lookup y = some c) : X.env.cells.lookup y = some c := by
  rcases cloFrom_mem (PySem.mem_of_lookup e) with hm | ⟨h1, h2⟩
  · cases hm
  · obtain ⟨c1, hc⟩ := L.has ok _ h1 rfl
    have hc2 : X.env.cells.lookup y = some c1 := hc
    rw [h2, hc2]
    rfl
theorem lam_startV {A : Around} {outer : List Env} {f c' : Addr} {h₁ : Heap} {tk : Nat} {v1 v2 : V} {u1 u2 : Value} (I : Inv X pins σ H s) (L : LamV X.env.scope scope X.N x1 x2) (e0 : Env0 X.prog X.w X.K X.mg X.base A outer s1 HZ) (hd : A.handled = none)
    (un : Un (frs X.stack) [] H HZ s.heap s1.heap) (hns : h₁.Ns s1.heap.objs.size fun y => ([(x1, u1), (x2, u2)] : List (Str × Value)).reverse.lookup y) (kp : ∀ b o, s1.heap.get? b = some o → h₁.get? b = some o) (r1 : RelV v1 u1) (r2 : RelV v2 u2) :
    Inv (lamCxV X A outer s1 HZ scope f c' x1 x2) [] (some v1 :: some v2 :: σ) HZ { s1 with heap := h₁, toks := tk } := by
  have noEx : ∀ b : Addr, b ∉ (lamCxV X A outer s1 HZ scope f c' x1 x2).ex := fun b z => nomatch (show b ∈ ([] : List Addr) from z)
  have got : ∀ {y}, scope.names.lookup y = some .free → ∃ c, (cloFrom X.env.cells scope.names []).lookup y = some c := fun {y} hl =>
    mem_lookup (cloFrom_has (cells := X.env.cells) (acc := []) (show (y, NameKind.free) ∈ scope.names from PySem.mem_of_lookup hl))
  have noCell : ∀ {y}, scope.names.lookup y ≠ some .cell := fun {y} k => L.cell _ (PySem.mem_of_lookup k) rfl
  have stays : ∀ {c : Addr} {v : Option Value}, H c = none → s.heap.IsCell c v → h₁.IsCell c v := fun {c v} n ⟨o, ho, hd⟩ =>
    (un.any ho n (fun z => nomatch z)).elim fun sl q => ⟨_, kp _ _ q, hd⟩
  have hne : x1 ≠ x2 := fun z => by
    have := L.ne
    rw [z] at this
    simp at this
  refine { ok := ?ok, os := rfl, bare := e0.bare, base := Un.kept kp, loc := ⟨_, hns, ?loc⟩, cell := ?cell, free := e0.hok.fresh (Nat.le_refl _), freeC := ?freeC, pin := ?pin, hok := e0.hok.kept kp, len := congrArg (· + 2) I.len }
  case ok =>
    refine { mod := e0.mod, kind := L.kind, glob := rfl, blt := rfl, above := Nat.le_refl _, inj := ?inj, has := ?has, cab := ?cab, hd := fun _ => hd, frames := Around.frames_deeper e0.frames, stk := .inr ⟨rfl, rfl⟩, exf := fun b z => absurd z (noEx b), bs := e0.bs, bsz := e0.bsz, noex := fun b _ _ => noEx b, exfs := fun b z => absurd z (noEx b), funs := e0.funs, frf := e0.frf }
    case inj => exact fun y z c a b => I.ok.inj y z c (L.clo I.ok a) (L.clo I.ok b)
    case has =>
      intro y hy
      have hy2 : scope.names.lookup y = some .cell ∨ scope.names.lookup y = some .free := hy
      exact hy2.elim (fun k => absurd k noCell) got
    case cab =>
      intro y c z
      have z2 : false = true := z
      cases z2
  case loc =>
    intro i y v a b d
    have d2 : Vis scope y := d
    match i with
    | 0 =>
      cases a
      cases b
      refine ⟨u1, r1, .inl ⟨L.l1, ?_⟩⟩
      show ([(x2, u2), (x1, u1)] : List (Str × Value)).lookup x1 = some u1
      simp [List.lookup, L.ne]
    | 1 =>
      cases a
      cases b
      refine ⟨u2, r2, .inl ⟨L.l2, ?_⟩⟩
      show ([(x2, u2), (x1, u1)] : List (Str × Value)).lookup x2 = some u2
      simp [List.lookup]
    | i + 2 =>
      have a2 : X.N[i]? = some y := a
      have b2 : σ[i]? = some (some v) := b
      rcases d2 with k | k | k
      · exact absurd k (L.dis y (List.mem_of_getElem? a2))
      · exact absurd k noCell
      · obtain ⟨m, _, hl⟩ := I.loc
        have out := L.free _ (PySem.mem_of_lookup k) rfl
        obtain ⟨w', r, q⟩ := hl i y v a2 b2 (out.elim (fun k => .inr (.inl k)) fun k => .inr (.inr k))
        obtain ⟨c2, h2⟩ := got k
        refine ⟨w', r, .inr ⟨.inr k, c2, h2, ?_⟩⟩
        have c1 := L.clo I.ok h2
        rcases q with ⟨k2, _⟩ | ⟨_, c3, e3, z⟩
        · have k3 : X.env.scope.names.lookup y = some .local := k2
          have o2 : X.env.scope.names.lookup y = some .cell ∨ X.env.scope.names.lookup y = some .free := out
          rcases o2 with o2 | o2 <;> rw [o2] at k3 <;> cases k3
        · rw [c1] at e3
          cases e3
          exact stays (I.freeC y _ c1) z
  case cell =>
    intro y c e
    obtain ⟨w', z⟩ := I.cell y c (L.clo I.ok e)
    exact ⟨w', stays (I.freeC y c (L.clo I.ok e)) z⟩
  case freeC =>
    intro y c e
    obtain ⟨v, o, ho, hd⟩ := I.cell y c (L.clo I.ok e)
    exact un.free c o ho (I.freeC y c (L.clo I.ok e)) (fun z => nomatch z)
  case pin => exact fun q hq => nomatch (show q ∈ ([] : List (Addr × Obj)) ++ [] from hq)
/-- a def's body, entered at s from X -/
abbrev zCx (X : Cx) (Ng : List Str) (qg : Str) (sg : Scope) (g : Addr) (cdg : Value) (s : Shared) (H : Hp) : Cx :=
  (cxOf C8.CX0 X.prog X.w X.K X.mg X.base Ng qg sg g cdg X.A X.stack s H C8.E0).nox
/-- what is called by a name of the body, with two things -/
def ActV (Z : Cx) (a : Str) (i : Nat) (f : Addr) (r : List V → Hp → VK → Prop) : Prop := ∀ {e1 e2 : Expr} {ta : TA} {p1 p2 : Pos}, PA Z [e1, e2] ta → (starEach [e1, e2] Z.env = (false, eval e1 Z.env) :: starEach [e2] Z.env) → ((backTo p2 (starEach [e2] Z.env)).any (·.1) = false) →
  PE Z (.Call (.Name a p1) [e1, e2] [] p2) (fun σ H Q => σ[i]? = some (some (.ref f)) ∧ ta σ H fun vs H1 => r vs H1 Q)
theorem call_nm {Z : Cx} {pinsZ : List (Addr × Obj)} {σZ : L2.St} {HZ : Hp} {sZ : Shared} {a : Str} {i : Nat} {f : Addr} {es : List Expr} {p1 p2 : Pos} {R E' : Value → Shared → Prop} (IZ : Inv Z pinsZ σZ HZ sZ) (hN : Z.N[i]? = some a) (hv : Vis Z.env.scope a) (hd : (a == ("__debug__" : Str)) = false) (hcd : (a == ("__classdict__" : Str)) = false) (hs : σZ[i]? = some (some (.ref f))) (hE : E' = Z.xe)
    (h : ∀ s1, Inv Z pinsZ σZ HZ s1 → wpAny (model Z.prog Z.w) Z.A (callWith p2 (.ref f) [] (backTo p2 (starEach es Z.env)) []) R E' s1) :
    wpAny (model Z.prog Z.w) Z.A (eval (.Call (.Name a p1) es [] p2) Z.env) R E' sZ := by
  subst hE
  refine wpAny_Call_Name_kw ?_
  have look := (pe_var (pos := p1) (i := i) hN hv hd hcd).run pinsZ sZ σZ HZ (fun v H1 => v = .ref f ∧ H1 = HZ) IZ ⟨.ref f, hs, rfl, rfl⟩
  refine thn look fun u s1 q => ?_
  obtain ⟨v, H1, I1, rv, rfl, rfl⟩ := q
  obtain rfl : u = Value.ref f := rv
  exact h s1 I1
/-- .. such a lambda -/
theorem actV {Ng : List Str} {qg : Str} {sg : Scope} {g f c' : Addr} {cdg pm ctv : Value} {params : Arguments} {body : Expr} {k i : Nat} {a : Str} {tb : TE} (I : Inv X pins σ H s) (L : LamV X.env.scope scope X.N x1 x2) (hf : s.heap.get? f = some (vObj X params body scope pm c' ctv)) (hfn : H f = none) (hfr : f ∉ frs X.stack)
    (hbind : ∀ u1 u2, bindArgs (vFn X params body scope pm c' ctv) ⟨[u1, u2], []⟩ = pure [(x1, u1), (x2, u2)]) (hr : Room (k + 1) (X.A.deeper (envOfC qg sg s.heap.objs.size g cdg)))
    (hbody : ∀ (A : Around) (outer : List Env) (s : Shared) (H : Hp), Room k (A.deeper (lamEnv X scope s.heap.objs.size f c')) → PE (lamCxV X A outer s H scope f c' x1 x2) body tb)
    (hN : Ng[i]? = some a) (hv : Vis sg a) (hd : (a == ("__debug__" : Str)) = false := by decide) (hcd : (a == ("__classdict__" : Str)) = false := by decide) :
    ActV (zCx X Ng qg sg g cdg s H) a i f (fun vs H1 Q => ∃ v1 v2, vs = [v1, v2] ∧ H1 c' = some (CodeO c' (X.env.qual ++ "<lambda>")) ∧ tb (some v1 :: some v2 :: σ) H1 Q) := by
  intro e1 e2 ta p1 p2 ha hst hpl
  refine ⟨fun pinsZ sZ σZ HZ Q IZ h => ?_⟩
  obtain ⟨hs, hta⟩ := h
  refine call_nm (Z := zCx X Ng qg sg g cdg s H) IZ hN hv hd hcd hs rfl fun s1 I1 => ?_
  have kept : ∀ {H2 s2}, Inv (zCx X Ng qg sg g cdg s H) pinsZ σZ H2 s2 → s2.heap.get? f = some (vObj X params body scope pm c' ctv) := fun {H2 s2} I2 =>
    I2.base.keep f _ hf hfn hfr (fun z => nomatch (show f ∈ ([] : List Addr) from z))
  refine PySem.W.callWith_F ⟨_, _, _, _, kept I1⟩ (thn (ha.run p2 pinsZ s1 σZ HZ _ I1 hta) fun us s2 q => ⟨?_, ?_⟩) hst hpl
  · obtain ⟨vs, H2, I2, r2, q2⟩ := q
    exact ⟨_, _, _, _, kept I2⟩
  · obtain ⟨vs, H2, I2, r2, v1, v2, rfl, hc, ht⟩ := q
    obtain ⟨u1, u2, rfl, ra, rb⟩ := vals2 r2
    all_goals
        have un : Un (frs X.stack) [] H H2 s.heap s2.heap := I2.base
        obtain ⟨⟨oc, cs, t, hoc, hdc, hvc⟩, _, _⟩ := I2.hok c' _ hc
        have ran : codeAny (model X.prog X.w) (X.A.deeper (envOfC qg sg s.heap.objs.size g cdg)) (.call (.ref f) ⟨[u1, u2], []⟩) (CR C8.CX0 (envOfC qg sg s.heap.objs.size g cdg :: X.stack) X.prog X.w H2 s2 Q C8.E0) s2 := by
          refine PySem.W.kla_callFunE hr.depth (kept I2) rfl L.co L.gen rfl ⟨c', oc, cs, t, rfl, hoc, hdc, hvc⟩ ?_
          rw [hbind u1 u2]
          refine wpAny_pure (wpAny_newFunctionEnv L.cell (fun y hy => ?_) (fun h₁ hns hsb => ⟨I2.nolimit.fresh _ hsb, ?_⟩) L.kind)
          · simp only [List.mem_cons, List.not_mem_nil, or_false] at hy
            rcases hy with rfl | rfl
            · exact L.l1
            · exact L.l2
          · have kp : ∀ b o, s2.heap.get? b = some o → h₁.get? b = some o := fun b o e => hsb.extBut b o (Nat.ne_of_lt (Heap.lt_size e)) (Heap.get?_push_of_some _ e)
            have J := lam_startV (f := f) (c' := c') (tk := s2.toks + ([(x1, u1), (x2, u2)] : List (Str × Value)).length) I L I2.env0 hr.hd un hns kp ra rb
            have run := (hbody _ _ s2 H2 (hr.deeper _)).run [] _ _ H2 Q J ht
            exact PySem.W.kla_codeExpr (wpAny_mono run (fun v s' hq => by
              obtain ⟨w', H', J', rv, q⟩ := hq
              exact ⟨w', H', J'.os, J'.bare, J'.base, J'.hok, rv, q⟩) fun e s' hq => hq.elim)
        refine wpAny_call (codeAny_mono ran fun r s' hq => ?_)
        cases r with
        | error e => exact hq.elim
        | ok fl =>
          cases fl with
          | ret u => exact I2.after hq
          | next => exact hq.elim
          | brk => exact hq.elim
          | cont => exact hq.elim
/-- .. a def of the module -/
theorem actK {Z : Cx} {a : Str} {ps : List Str} {sp : Sp} {k i : Nat} {f : Addr} (fn : ∃ fd, PySem.W.keepIn Z.K (.ref f) = true ∧ FnOk Z.prog Z.w Z.K Z.mg Z.base C8.CX0 k f fd ps sp ∧ Binds Z.K fd ps []) (hr : Room k Z.A) (hx : Passes C8.CX0 Z C8.E0)
    (hN : Z.N[i]? = some a) (hv : Vis Z.env.scope a) (hd : (a == ("__debug__" : Str)) = false := by decide) (hcd : (a == ("__classdict__" : Str)) = false := by decide) :
    ActV Z a i f (fun vs H1 Q => sp vs H1 Q C8.E0) := by
  intro e1 e2 ta p1 p2 ha hst hpl
  obtain ⟨fd, kp, F, b⟩ := fn
  refine ⟨fun pinsZ sZ σZ HZ Q IZ h => ?_⟩
  obtain ⟨hs, hta⟩ := h
  refine call_nm IZ hN hv hd hcd hs rfl fun s1 I1 => ?_
  refine PySem.W.callWith_K (h₀ := Z.base) I1.ok.mod.kin kp (thn (ha.run p2 pinsZ s1 σZ HZ _ I1 hta) fun us s2 q => ⟨?_, ?_⟩) hst hpl
  · obtain ⟨vs, H2, I2, _⟩ := q
    exact I2.kIn
  · obtain ⟨vs, H2, I2, r, q⟩ := q
    exact run_fn F hr b .nil hx I2 r (by rw [List.append_nil]; exact q)
/-- a def called whose body is walked where it is called -/
theorem pe_inl {x : Str} {g : Addr} {k : Nat} {pg : Arguments} {bg : List Stmt} {sg : Scope} {dV kV doc pm cdv ct oc : Value} {an od : Option Addr} {osl : Array (Option Value)} {Ng ps : List Str} {e : Expr} {es : List Expr} {ta : TA} {p pos : Pos} {TT : L2.St → List V → Hp → VK → Prop}
    (hg : Gl X x) (hm : X.mg x = some (.ref g)) (hk : PySem.W.keepIn X.K (.ref g) = true) (lk : X.K.lookup g = some ⟨oc, od, .func (PySem.W.fnOf x x pg bg sg dV kV doc pm an cdv ct), osl⟩) (hcg : PySem.W.codeIn X.K cdv x = true)
    (hb : L2.Binds X.K (PySem.W.fnOf x x pg bg sg dV kV doc pm an cdv ct) ps []) (Sg : FnScope Ng ps sg) (hr : Room (k + 1) X.A) (ha : PA X (e :: es) ta) (len : ∀ σ vs H Q, TT σ vs H Q → vs.length = ps.length)
    (hbody : ∀ pins σ H s vs Q, Inv X pins σ H s → TT σ vs H Q → Room k (X.A.deeper (envOfC x sg s.heap.objs.size g cdv)) → ∃ t, PSs (zCx X Ng x sg g cdv s H) bg t ∧ t { nx := fun _ H' => Q .non H', rt := Q } (L2.start Ng vs) H)
    (hdb : (x == ("__debug__" : Str)) = false := by decide +kernel) (he : starEach (e :: es) X.env = (false, eval e X.env) :: starEach es X.env := by rfl) (hpl : (backTo pos (starEach es X.env)).any (·.1) = false := by rfl) :
    PE X (.Call (.Name x p) (e :: es) [] pos) (fun σ H Q => ta σ H fun vs H1 => TT σ vs H1 Q) := by
  refine ⟨fun pins s σ H Q I h => wpAny_Call_Name_kw (ld_glob I hg hm ?_ hdb)⟩
  refine PySem.W.callWith_K (h₀ := X.base) I.ok.mod.kin hk (thn (ha.run pos pins s σ H _ I h) fun us s1 q => ⟨?_, ?_⟩) he hpl
  · obtain ⟨_, _, I1, _⟩ := q
    exact I1.kIn
  · obtain ⟨vs, H1, I1, rv, q⟩ := q
    have lv := len _ _ _ _ q
    have lu : us.length = ps.length := by rw [← rv.length, lv]
    have bnd := hb s1 us I1.kIn (by rw [List.append_nil]; exact lu)
    rw [List.append_nil] at bnd
    have ran : codeAny (model X.prog X.w) X.A (.call (.ref g) ⟨us, []⟩) (CR C8.CX0 X.stack X.prog X.w H1 s1 Q C8.E0) s1 :=
      run_ofS (N := Ng) (ps := ps) (us := us) (vs := vs) lk hcg Sg hr I1.env0 bnd rv lv fun room => by
        obtain ⟨t, ht, hq⟩ := hbody pins σ H1 s1 vs Q I1 q room
        exact ⟨t, ht.nox, hq⟩
    refine wpAny_call (codeAny_mono ran fun r s2 hq => ?_)
    cases r with
    | error e => exact (show False from hq).elim
    | ok fl =>
      cases fl with
      | ret u => exact I1.after hq
      | next => exact (show False from hq).elim
      | brk => exact (show False from hq).elim
      | cont => exact (show False from hq).elim
theorem off_stack (I : Inv X pins σ H s) {f : Addr} (nl : f ≠ X.env.locals) (nf : f ∉ X.fs) : f ∉ frs X.stack := by
  rcases I.ok.stk with e | ⟨e, fr⟩
  · rw [e]; exact nf
  · rw [e]
    intro z
    have z2 : f ∈ (X.env :: X.outer).filterMap (·.frame) := z
    rw [List.filterMap_cons, fr] at z2
    rcases List.mem_cons.mp z2 with z3 | z3
    · exact nl z3
    · exact nf z3
theorem on_stack (I : Inv X pins σ H s) {f : Addr} (n : f ∉ frs X.stack) : f ∉ X.fs := by
  rcases I.ok.stk with e | ⟨e, fr⟩
  · rw [e] at n; exact n
  · intro z
    refine n ?_
    rw [e]
    show f ∈ (X.env :: X.outer).filterMap (·.frame)
    rw [List.filterMap_cons, fr]
    exact List.mem_cons_of_mem _ z
/-- what stays known of a pinned lambda -/
theorem pin_at {q : Addr × Obj} {pn : List (Addr × Obj)} {xe : Value → Shared → Prop} (I : Inv (X.tr (q :: pn) xe) pins σ H s) : s.heap.get? q.1 = some q.2 ∧ H q.1 = none ∧ q.1 ∉ frs X.stack := by
  obtain ⟨a, b, c, d, _⟩ := I.pin q (List.mem_append_left _ List.mem_cons_self)
  exact ⟨a, b, off_stack I c d⟩
/-- x = lambda ..: what follows knows the object -/
theorem pss_lam {T : List (Addr × Str)} {c P : Addr} {params : Arguments} {body : Expr} {x : Str} {i : Nat} {np lpos pos : Pos} {rest : List Stmt} {u : Addr → Addr → Value → Value → List (Addr × Obj) → TS} (TB : TabB X.base X.mg c P) (hcode : X.env.code = .ref c) (hm : (P, X.env.qual ++ "<lambda>") ∈ T) (hu : ∀ p ∈ T, p.1 = P → p.2 = X.env.qual ++ "<lambda>") (L : LamV X.env.scope scope X.N x1 x2)
    (hdef : defaultsOf params X.env = ([], [])) (hg : PG X (.Name x np) (gName i))
    (hrest : ∀ (f c' : Addr) (pm ctv : Value) (pn : List (Addr × Obj)), PSs (X.tr ((f, vObj X params body scope pm c' ctv) :: pn) X.xe) rest (u f c' pm ctv pn))
    (hs : swapsWithSole [.Name x np] (.Lambda params body scope lpos) pos.line X.env = pure false := by rfl) (hw : swappedStores [.Name x np] (.Lambda params body scope lpos) X.env = pure none := by rfl) (h1 : (assignEach [.Name x np] X.env).map (·.2) = [assign (.Name x np) X.env] := by rfl) :
    PSs X (.Assign [.Name x np] (.Lambda params body scope lpos) pos :: rest) (fun D σ H => Tabs T H ∧ ∀ f c' pm ctv pn H1, ExtN H H1 → Tabs T H1 → H1 c' = some (CodeO c' (X.env.qual ++ "<lambda>")) → u f c' pm ctv pn D (σ.set i (some (.ref f))) H1) := by
  refine ⟨fun pins s σ H D I h => ?_⟩
  obtain ⟨tb, h⟩ := h
  refine wpAny_execs_cons (wpAny_Assign_stores ?_ hs hw)
  refine lam_make2 I TB hcode hm hu tb hdef (L.has I.ok) fun f c' pm ctv H1 s1 I1 eN T1 hf hfn hfr hco => ?_
  rw [h1]
  have nl : f ≠ X.env.locals := fun z => by
    obtain ⟨m, ⟨o, es, ep, ho, hd, _⟩, _⟩ := I1.loc
    rw [← z, hf] at ho
    cases ho
    cases hd
  have nf : f ∉ X.fs := on_stack I1 hfr
  have I2 : Inv X ((f, vObj X params body scope pm c' ctv) :: pins) σ H1 s1 := by
    refine { I1 with pin := fun p hp => ?_ }
    rcases List.mem_append.mp hp with a | a
    · exact I1.pin p (List.mem_append_left _ a)
    · rcases List.mem_cons.mp a with rfl | a
      · exact ⟨hf, hfn, nl, nf, fun v z => nomatch z⟩
      · exact I1.pin p (List.mem_append_right _ a)
  have done := h f c' pm ctv (X.pn ++ pins) H1 eN T1 hco
  refine thn (hg.run ((f, vObj X params body scope pm c' ctv) :: pins) s1 σ H1 (.ref f) (.ref f) (fun σ2 H2 => σ2 = σ.set i (some (.ref f)) ∧ H2 = H1) I2 rfl ⟨rfl, rfl⟩) fun _ s2 q => ?_
  show wpAny _ _ (execs rest X.env) _ _ s2
  obtain ⟨σ2, H2, I3, rfl, rfl⟩ := q
  have I4 : Inv (X.tr ((f, vObj X params body scope pm c' ctv) :: (X.pn ++ pins)) X.xe) [] (σ.set i (some (.ref f))) H2 s2 := by
    refine { I3 with ok := I3.ok.toTry _ _, pin := fun p hp => ?_ }
    rw [List.append_nil] at hp
    rcases List.mem_cons.mp hp with rfl | a
    · exact I3.pin _ (List.mem_append_right _ List.mem_cons_self)
    · rcases List.mem_append.mp a with a | a
      · exact I3.pin p (List.mem_append_left _ a)
      · exact I3.pin p (List.mem_append_right _ (List.mem_cons_of_mem _ a))
  have back : ∀ {σ' H' s'}, Inv (X.tr ((f, vObj X params body scope pm c' ctv) :: (X.pn ++ pins)) X.xe) [] σ' H' s' → Inv X pins σ' H' s' := fun {σ' H' s'} J => by
    refine { J with ok := I.ok, pin := fun p hp => ?_ }
    exact J.pin p (List.mem_append_left _ (List.mem_cons_of_mem _ hp))
  refine thn ((hrest f c' pm ctv (X.pn ++ pins)).run [] s2 _ H2 D I4 done) fun fl s3 q => ?_
  cases fl with
  | next => obtain ⟨σ', H', J, r⟩ := q; exact ⟨σ', H', back J, r⟩
  | brk => obtain ⟨σ', H', J, r⟩ := q; exact ⟨σ', H', back J, r⟩
  | cont => obtain ⟨σ', H', J, r⟩ := q; exact ⟨σ', H', back J, r⟩
  | ret v => obtain ⟨a, σ', H', J, r⟩ := q; exact ⟨a, σ', H', back J, r⟩
end
end Lf

set_option Elab.async false
set_option linter.all false
set_option maxRecDepth 100000
set_option maxHeartbeats 4000000
/-! A lambda with one parameter that is handed to a def of the module within the call. -/
namespace Lf
open PySem PySem.Spec PyProof.Rows L2 LamX
/-- the names of such a lambda: its parameter, captured ones, globals -/
structure LamV1 (sc scope : Scope) (N : List Str) (x1 : Str) : Prop where
  kind : scope.kind = .function
  co : scope.isCoroutine = false
  gen : scope.isGenerator = false
  l1 : scope.names.lookup x1 = some .local
  cell : ∀ y ∈ scope.names, y.2 ≠ .cell
  free : ∀ y ∈ scope.names, y.2 = .free → sc.names.lookup y.1 = some .cell ∨ sc.names.lookup y.1 = some .free
  dis : ∀ x ∈ N, scope.names.lookup x ≠ some .local
def lamVB1 (sc scope : Scope) (N : List Str) (x1 : Str) : Bool :=
  (decide (scope.kind = .function) && !scope.isCoroutine && !scope.isGenerator) && (decide (scope.names.lookup x1 = some .local)) &&
  ((scope.names.all fun y => !decide (y.2 = .cell)) && (scope.names.all fun y => !decide (y.2 = .free) || (decide (sc.names.lookup y.1 = some .cell) || decide (sc.names.lookup y.1 = some .free))) && N.all fun x => !decide (scope.names.lookup x = some .local))
theorem lamV1_by {sc scope : Scope} {N : List Str} {x1 : Str} (h : lamVB1 sc scope N x1 = true) : LamV1 sc scope N x1 := by
  unfold lamVB1 at h
  simp only [Bool.and_eq_true, Bool.or_eq_true, Bool.not_eq_true', decide_eq_true_eq, decide_eq_false_iff_not, List.all_eq_true] at h
  obtain ⟨⟨⟨⟨a1, a2⟩, a3⟩, b2⟩, ⟨c1, c2⟩, c3⟩ := h
  exact ⟨a1, a2, a3, b2, c1, fun y hy e => (c2 y hy).elim (fun z => absurd e z) id, c3⟩
/-- where the body runs: its parameters ahead of the names of the def that made it -/
def lamCxV1 (X : Cx) (A : Around) (outer : List Env) (s : Shared) (H : Hp) (scope : Scope) (f c' : Addr) (x1 : Str) : Cx :=
  { lamCx X A outer s H C8.E0 scope f c' with N := x1 :: X.N, xe := fun _ _ => False }
section
variable {X : Cx} {pins : List (Addr × Obj)} {σ : L2.St} {H HZ : Hp} {s s1 : Shared} {scope : Scope} {x1 : Str}
theorem LamV1.has (L : LamV1 X.env.scope scope X.N x1) (ok : X.Ok) : ∀ y ∈ scope.names, y.2 = .free → ∃ c, X.env.cells.lookup y.1 = some c := fun y hy e =>
  (L.free y hy e).elim (fun k => ok.has _ (.inl k)) (fun k => ok.has _ (.inr k))
theorem LamV1.clo (L : LamV1 X.env.scope scope X.N x1) (ok : X.Ok) {y : Str} {c : Addr} (e : (cloFrom X.env.cells scope.names []).lookup y = some c) : X.env.cells.lookup y = some c := by
  rcases cloFrom_mem (PySem.mem_of_lookup e) with hm | ⟨h1, h2⟩
  · cases hm
  · obtain ⟨c1, hc⟩ := L.has ok _ h1 rfl
    have hc2 : X.env.cells.lookup y = some c1 := hc
    rw [h2, hc2]
    rfl
theorem lam_startV1 {A : Around} {outer : List Env} {f c' : Addr} {h₁ : Heap} {tk : Nat} {v1 : V} {u1 : Value} (I : Inv X pins σ H s) (L : LamV1 X.env.scope scope X.N x1) (e0 : Env0 X.prog X.w X.K X.mg X.base A outer s1 HZ) (hd : A.handled = none)
    (un : Un (frs X.stack) [] H HZ s.heap s1.heap) (hns : h₁.Ns s1.heap.objs.size fun y => ([(x1, u1)] : List (Str × Value)).reverse.lookup y) (kp : ∀ b o, s1.heap.get? b = some o → h₁.get? b = some o) (r1 : RelV v1 u1) :
    Inv (lamCxV1 X A outer s1 HZ scope f c' x1) [] (some v1 :: σ) HZ { s1 with heap := h₁, toks := tk } := by
  have noEx : ∀ b : Addr, b ∉ (lamCxV1 X A outer s1 HZ scope f c' x1).ex := fun b z => nomatch (show b ∈ ([] : List Addr) from z)
  have got : ∀ {y}, scope.names.lookup y = some .free → ∃ c, (cloFrom X.env.cells scope.names []).lookup y = some c := fun {y} hl =>
    mem_lookup (cloFrom_has (cells := X.env.cells) (acc := []) (show (y, NameKind.free) ∈ scope.names from PySem.mem_of_lookup hl))
  have noCell : ∀ {y}, scope.names.lookup y ≠ some .cell := fun {y} k => L.cell _ (PySem.mem_of_lookup k) rfl
  have stays : ∀ {c : Addr} {v : Option Value}, H c = none → s.heap.IsCell c v → h₁.IsCell c v := fun {c v} n ⟨o, ho, hd⟩ =>
    (un.any ho n (fun z => nomatch z)).elim fun sl q => ⟨_, kp _ _ q, hd⟩
  refine { ok := ?ok, os := rfl, bare := e0.bare, base := Un.kept kp, loc := ⟨_, hns, ?loc⟩, cell := ?cell, free := e0.hok.fresh (Nat.le_refl _), freeC := ?freeC, pin := ?pin, hok := e0.hok.kept kp, len := congrArg (· + 1) I.len }
  case ok =>
    refine { mod := e0.mod, kind := L.kind, glob := rfl, blt := rfl, above := Nat.le_refl _, inj := ?inj, has := ?has, cab := ?cab, hd := fun _ => hd, frames := Around.frames_deeper e0.frames, stk := .inr ⟨rfl, rfl⟩, exf := fun b z => absurd z (noEx b), bs := e0.bs, bsz := e0.bsz, noex := fun b _ _ => noEx b, exfs := fun b z => absurd z (noEx b), funs := e0.funs, frf := e0.frf }
    case inj => exact fun y z c a b => I.ok.inj y z c (L.clo I.ok a) (L.clo I.ok b)
    case has =>
      intro y hy
      have hy2 : scope.names.lookup y = some .cell ∨ scope.names.lookup y = some .free := hy
      exact hy2.elim (fun k => absurd k noCell) got
    case cab =>
      intro y c z
      have z2 : false = true := z
      cases z2
  case loc =>
    intro i y v a b d
    have d2 : Vis scope y := d
    match i with
    | 0 =>
      cases a
      cases b
      refine ⟨u1, r1, .inl ⟨L.l1, ?_⟩⟩
      show ([(x1, u1)] : List (Str × Value)).lookup x1 = some u1
      simp [List.lookup]
    | i + 1 =>
      have a2 : X.N[i]? = some y := a
      have b2 : σ[i]? = some (some v) := b
      rcases d2 with k | k | k
      · exact absurd k (L.dis y (List.mem_of_getElem? a2))
      · exact absurd k noCell
      · obtain ⟨m, _, hl⟩ := I.loc
        have out := L.free _ (PySem.mem_of_lookup k) rfl
        obtain ⟨w', r, q⟩ := hl i y v a2 b2 (out.elim (fun k => .inr (.inl k)) fun k => .inr (.inr k))
        obtain ⟨c2, h2⟩ := got k
        refine ⟨w', r, .inr ⟨.inr k, c2, h2, ?_⟩⟩
        have c1 := L.clo I.ok h2
        rcases q with ⟨k2, _⟩ | ⟨_, c3, e3, z⟩
        · have k3 : X.env.scope.names.lookup y = some .local := k2
          have o2 : X.env.scope.names.lookup y = some .cell ∨ X.env.scope.names.lookup y = some .free := out
          rcases o2 with o2 | o2 <;> rw [o2] at k3 <;> cases k3
        · rw [c1] at e3
          cases e3
          exact stays (I.freeC y _ c1) z
  case cell =>
    intro y c e
    obtain ⟨w', z⟩ := I.cell y c (L.clo I.ok e)
    exact ⟨w', stays (I.freeC y c (L.clo I.ok e)) z⟩
  case freeC =>
    intro y c e
    obtain ⟨v, o, ho, hd⟩ := I.cell y c (L.clo I.ok e)
    exact un.free c o ho (I.freeC y c (L.clo I.ok e)) (fun z => nomatch z)
  case pin => exact fun q hq => nomatch (show q ∈ ([] : List (Addr × Obj)) ++ [] from hq)
/-- what is called by a name of the body, with two things -/
def ActV1 (Z : Cx) (a : Str) (i : Nat) (f : Addr) (r : List V → Hp → VK → Prop) : Prop := ∀ {e1 : Expr} {ta : TA} {p1 p2 : Pos}, PA Z [e1] ta → (starEach [e1] Z.env = (false, eval e1 Z.env) :: starEach [] Z.env) → ((backTo p2 (starEach [] Z.env)).any (·.1) = false) →
  PE Z (.Call (.Name a p1) [e1] [] p2) (fun σ H Q => σ[i]? = some (some (.ref f)) ∧ ta σ H fun vs H1 => r vs H1 Q)
/-- .. such a lambda -/
theorem actV1 {Ng : List Str} {qg : Str} {sg : Scope} {g f c' : Addr} {cdg pm ctv : Value} {params : Arguments} {body : Expr} {k i : Nat} {a : Str} {tb : TE} (I : Inv X pins σ H s) (L : LamV1 X.env.scope scope X.N x1) (hf : s.heap.get? f = some (vObj X params body scope pm c' ctv)) (hfn : H f = none) (hfr : f ∉ frs X.stack)
    (hbind : ∀ u1, bindArgs (vFn X params body scope pm c' ctv) ⟨[u1], []⟩ = pure [(x1, u1)]) (hr : Room (k + 1) (X.A.deeper (envOfC qg sg s.heap.objs.size g cdg)))
    (hbody : ∀ (A : Around) (outer : List Env) (s : Shared) (H : Hp), Room k (A.deeper (lamEnv X scope s.heap.objs.size f c')) → PE (lamCxV1 X A outer s H scope f c' x1) body tb)
    (hN : Ng[i]? = some a) (hv : Vis sg a) (hd : (a == ("__debug__" : Str)) = false := by decide) (hcd : (a == ("__classdict__" : Str)) = false := by decide) :
    ActV1 (zCx X Ng qg sg g cdg s H) a i f (fun vs H1 Q => ∃ v1, vs = [v1] ∧ H1 c' = some (CodeO c' (X.env.qual ++ "<lambda>")) ∧ tb (some v1 :: σ) H1 Q) := by
  intro e1 ta p1 p2 ha hst hpl
  refine ⟨fun pinsZ sZ σZ HZ Q IZ h => ?_⟩
  obtain ⟨hs, hta⟩ := h
  refine call_nm (Z := zCx X Ng qg sg g cdg s H) IZ hN hv hd hcd hs rfl fun s1 I1 => ?_
  have kept : ∀ {H2 s2}, Inv (zCx X Ng qg sg g cdg s H) pinsZ σZ H2 s2 → s2.heap.get? f = some (vObj X params body scope pm c' ctv) := fun {H2 s2} I2 =>
    I2.base.keep f _ hf hfn hfr (fun z => nomatch (show f ∈ ([] : List Addr) from z))
  refine PySem.W.callWith_F ⟨_, _, _, _, kept I1⟩ (thn (ha.run p2 pinsZ s1 σZ HZ _ I1 hta) fun us s2 q => ⟨?_, ?_⟩) hst hpl
  · obtain ⟨vs, H2, I2, r2, q2⟩ := q
    exact ⟨_, _, _, _, kept I2⟩
  · obtain ⟨vs, H2, I2, r2, v1, rfl, hc, ht⟩ := q
    obtain ⟨u1, rfl, ra⟩ := vals1 r2
    all_goals
        have un : Un (frs X.stack) [] H H2 s.heap s2.heap := I2.base
        obtain ⟨⟨oc, cs, t, hoc, hdc, hvc⟩, _, _⟩ := I2.hok c' _ hc
        have ran : codeAny (model X.prog X.w) (X.A.deeper (envOfC qg sg s.heap.objs.size g cdg)) (.call (.ref f) ⟨[u1], []⟩) (CR C8.CX0 (envOfC qg sg s.heap.objs.size g cdg :: X.stack) X.prog X.w H2 s2 Q C8.E0) s2 := by
          refine PySem.W.kla_callFunE hr.depth (kept I2) rfl L.co L.gen rfl ⟨c', oc, cs, t, rfl, hoc, hdc, hvc⟩ ?_
          rw [hbind u1]
          refine wpAny_pure (wpAny_newFunctionEnv L.cell (fun y hy => ?_) (fun h₁ hns hsb => ⟨I2.nolimit.fresh _ hsb, ?_⟩) L.kind)
          · simp only [List.mem_cons, List.not_mem_nil, or_false] at hy
            subst hy
            exact L.l1
          · have kp : ∀ b o, s2.heap.get? b = some o → h₁.get? b = some o := fun b o e => hsb.extBut b o (Nat.ne_of_lt (Heap.lt_size e)) (Heap.get?_push_of_some _ e)
            have J := lam_startV1 (f := f) (c' := c') (tk := s2.toks + ([(x1, u1)] : List (Str × Value)).length) I L I2.env0 hr.hd un hns kp ra
            have run := (hbody _ _ s2 H2 (hr.deeper _)).run [] _ _ H2 Q J ht
            exact PySem.W.kla_codeExpr (wpAny_mono run (fun v s' hq => by
              obtain ⟨w', H', J', rv, q⟩ := hq
              exact ⟨w', H', J'.os, J'.bare, J'.base, J'.hok, rv, q⟩) fun e s' hq => hq.elim)
        refine wpAny_call (codeAny_mono ran fun r s' hq => ?_)
        cases r with
        | error e => exact hq.elim
        | ok fl =>
          cases fl with
          | ret u => exact I2.after hq
          | next => exact hq.elim
          | brk => exact hq.elim
          | cont => exact hq.elim

theorem pin_at1 {q : Addr × Obj} (I : Inv X (q :: pins) σ H s) : s.heap.get? q.1 = some q.2 ∧ H q.1 = none ∧ q.1 ∉ frs X.stack := by
  obtain ⟨a, b, c, d, _⟩ := I.pin q (List.mem_append_right _ List.mem_cons_self)
  exact ⟨a, b, off_stack I c d⟩
theorem unpin {q : Addr × Obj} {H' : Hp} {s' : Shared} (J : Inv X (q :: pins) σ H' s') : Inv X pins σ H' s' :=
  { J with pin := fun p hp => J.pin p ((List.mem_append.mp hp).elim (fun z => List.mem_append_left _ z) fun z => List.mem_append_right _ (List.mem_cons_of_mem _ z)) }
/-- x(e1, lambda .., e3), the body of x walked where it is called -/
theorem pe_inlM {T : List (Addr × Str)} {c P : Addr} {params : Arguments} {body : Expr} {lpos : Pos} {x : Str} {g : Addr} {k : Nat} {pg : Arguments} {bg : List Stmt} {sg : Scope} {dV kV doc pm cdv ct oc : Value} {an od : Option Addr} {osl : Array (Option Value)} {Ng ps : List Str} {e1 e3 : Expr} {t1 t3 : TE} {p pos : Pos} {TT : Addr → Addr → L2.St → List V → Hp → VK → Prop}
    (hg : Gl X x) (hm : X.mg x = some (.ref g)) (hk : PySem.W.keepIn X.K (.ref g) = true) (lk : X.K.lookup g = some ⟨oc, od, .func (PySem.W.fnOf x x pg bg sg dV kV doc pm an cdv ct), osl⟩) (hcg : PySem.W.codeIn X.K cdv x = true)
    (hb : L2.Binds X.K (PySem.W.fnOf x x pg bg sg dV kV doc pm an cdv ct) ps []) (Sg : FnScope Ng ps sg) (hr : Room (k + 1) X.A) (h1 : PE X e1 t1) (h3 : PE X e3 t3) (lps : ps.length = 3)
    (TB : TabB X.base X.mg c P) (hcode : X.env.code = .ref c) (hmT : (P, X.env.qual ++ "<lambda>") ∈ T) (hu : ∀ p ∈ T, p.1 = P → p.2 = X.env.qual ++ "<lambda>") (hfree : ∀ y ∈ scope.names, y.2 = .free → X.env.scope.names.lookup y.1 = some .cell ∨ X.env.scope.names.lookup y.1 = some .free) (hdef : defaultsOf params X.env = ([], []))
    (hbody : ∀ f c' pmv ctv σ H s v1 v3 Q pinsOf, Inv X ((f, vObj X params body scope pmv c' ctv) :: pinsOf) σ H s → TT f c' σ [v1, .ref f, v3] H Q → Room k (X.A.deeper (envOfC x sg s.heap.objs.size g cdv)) → ∃ t, PSs (zCx X Ng x sg g cdv s H) bg t ∧ t { nx := fun _ H' => Q .non H', rt := Q } (L2.start Ng [v1, .ref f, v3]) H)
    (hdb : (x == ("__debug__" : Str)) = false := by decide +kernel) (hst : backTo pos (starEach [e1, .Lambda params body scope lpos, e3] X.env) = [(false, eval e1 X.env), (false, eval (.Lambda params body scope lpos) X.env), (false, eval e3 X.env)] := by rfl)
    (he : starEach [e1, .Lambda params body scope lpos, e3] X.env = (false, eval e1 X.env) :: starEach [.Lambda params body scope lpos, e3] X.env := by rfl) (hpl : (backTo pos (starEach [.Lambda params body scope lpos, e3] X.env)).any (·.1) = false := by rfl) :
    PE X (.Call (.Name x p) [e1, .Lambda params body scope lpos, e3] [] pos) (fun σ H Q => t1 σ H fun v1 H1 => Tabs T H1 ∧ ∀ f c' H2, ExtN H1 H2 → Tabs T H2 → H2 c' = some (CodeO c' (X.env.qual ++ "<lambda>")) → t3 σ H2 fun v3 H3 => TT f c' σ [v1, .ref f, v3] H3 Q) := by
  refine ⟨fun pins s σ H Q I h => wpAny_Call_Name_kw (ld_glob I hg hm ?_ hdb)⟩
  refine PySem.W.callWith_K (h₀ := X.base) I.ok.mod.kin hk ?_ he hpl
  rw [hst]
  refine Calls.spliced_cons (thn (h1.run pins s σ H _ I h) fun u1 s1 ⟨v1, H1, I1, r1, tb, q1⟩ => ?_)
  refine Calls.spliced_cons (lam_make2 I1 TB hcode hmT hu tb hdef (fun y hy e => (hfree y hy e).elim (fun z => I1.ok.has _ (.inl z)) fun z => I1.ok.has _ (.inr z)) fun f c' pmv ctv H2 s2 I2 eN T2 hf hfn hfr hco => ?_)
  have nl : f ≠ X.env.locals := fun z => by
    obtain ⟨m, ⟨o, es, ep, ho, hd, _⟩, _⟩ := I2.loc
    rw [← z, hf] at ho
    cases ho
    cases hd
  have nf : f ∉ X.fs := on_stack I2 hfr
  have I3 : Inv X ((f, vObj X params body scope pmv c' ctv) :: pins) σ H2 s2 := by
    refine { I2 with pin := fun p hp => ?_ }
    rcases List.mem_append.mp hp with a | a
    · exact I2.pin p (List.mem_append_left _ a)
    · rcases List.mem_cons.mp a with rfl | a
      · exact ⟨hf, hfn, nl, nf, fun v z => nomatch z⟩
      · exact I2.pin p (List.mem_append_right _ a)
  refine Calls.spliced_cons (thn (h3.run _ s2 σ H2 _ I3 (q1 f c' H2 eN T2 hco)) fun u3 s3 ⟨v3, H3, I4, r3, q3⟩ => Calls.spliced_nil ⟨I4.kIn, ?_⟩)
  have rv : Vals [v1, V.ref f, v3] [u1, .ref f, u3] := .cons r1 (.cons rfl (.cons r3 .nil))
  have bnd := hb s3 [u1, .ref f, u3] I4.kIn (by rw [List.append_nil, lps]; rfl)
  rw [List.append_nil] at bnd
  have ran : codeAny (model X.prog X.w) X.A (.call (.ref g) ⟨[u1, .ref f, u3], []⟩) (CR C8.CX0 X.stack X.prog X.w H3 s3 Q C8.E0) s3 :=
    run_ofS (N := Ng) (ps := ps) (us := [u1, .ref f, u3]) (vs := [v1, V.ref f, v3]) lk hcg Sg hr I4.env0 bnd rv (by rw [lps]; rfl) fun room => by
      obtain ⟨t, ht, hq⟩ := hbody f c' pmv ctv σ H3 s3 v1 v3 Q pins I4 q3 room
      exact ⟨t, ht.nox, hq⟩
  refine wpAny_call (codeAny_mono ran fun r s2 hq => ?_)
  cases r with
  | error e => exact (show False from hq).elim
  | ok fl =>
    cases fl with
    | ret u =>
      obtain ⟨v, H', J, rr, qq⟩ := I4.after hq
      exact ⟨v, H', unpin J, rr, qq⟩
    | next => exact (show False from hq).elim
    | brk => exact (show False from hq).elim
    | cont => exact (show False from hq).elim
end
end Lf

set_option Elab.async false
set_option linter.all false
set_option maxRecDepth 100000
set_option maxHeartbeats 4000000
/-! for and comprehensions over a list or a tuple, told once. -/
namespace Lf
open PySem PySem.Spec PyProof.Rows L2
def iSeq (K : PySem.W.Frag) (tl : TE) : TI := fun σ H R => tl σ H fun x H1 => ∃ a, x = .ref a ∧ (((∃ xs, SqL K H1 a xs) ∧ R (Itl K a) H1) ∨ ((∃ xs, SqT K H1 a xs) ∧ R (Itt K a) H1))
theorem pi_seq {X : Cx} {tg l : Expr} {tl : TE} (hl : PE X l tl) : PI X tg l (iSeq X.K tl) := by
  refine ⟨fun pins s σ H R I h => ?_⟩
  refine thn (hl.run pins s σ H _ I h) fun v s1 ⟨x, H1, I1, r1, q1⟩ => ?_
  obtain ⟨a, e, q⟩ := q1
  subst e
  cases r1
  rcases q with ⟨⟨xs, hq⟩, q⟩ | ⟨⟨xs, hq⟩, q⟩
  · obtain ⟨its, rv, p, hz⟩ := I1.list hq
    refine wpAny_pyIter_list p.isList ?_
    refine ⟨s1.heap.objs.size, [s1.heap.objs.size], _, _, H1, rfl, I1.kept (t' := s1.toks) fun b o e => Heap.get?_push_of_some _ e, turn_list a _, ⟨_, Heap.get?_push_size _ rfl, rfl, rfl⟩, fun b hb => ?_, q⟩
    have e : b = s1.heap.objs.size := by simpa using hb
    subst e
    exact I1.fpOk (Nat.le_refl _) (I1.hok.fresh (Nat.le_refl _))
  · obtain ⟨its, rv, p, hz⟩ := I1.tuple hq
    refine wpAny_pyIter_tuple (show s1.heap.IsTuple a its.toArray from p) ?_
    refine ⟨s1.heap.objs.size, [s1.heap.objs.size], _, _, H1, rfl, I1.kept (t' := s1.toks) fun b o e => Heap.get?_push_of_some _ e, turn_tuple a _, ⟨_, Heap.get?_push_size _ rfl, rfl, rfl⟩, fun b hb => ?_, q⟩
    have e : b = s1.heap.objs.size := by simpa using hb
    subst e
    exact I1.fpOk (Nat.le_refl _) (I1.hok.fresh (Nat.le_refl _))
theorem for_seq {K : PySem.W.Frag} {a : Addr} {xs : List V} {g : TG} {tb : TS} {D : Ends} {σ : L2.St} {H : Hp} (Pv : Nat → L2.St → Hp → Prop) (h0 : Pv 0 σ H) (hl : ∀ i σ H, i ≤ xs.length → Pv i σ H → SqL K H a xs ∨ SqT K H a xs)
    (st : ∀ i σ' H', i ≤ xs.length → Pv i σ' H' → (SqL K H a xs → SqL K H' a xs) ∧ (SqT K H a xs → SqT K H' a xs))
    (hs : ∀ i x σ H, xs[i]? = some x → Pv i σ H → g x σ H fun σ2 H2 => tb { D with nx := Pv (i + 1), ct := Pv (i + 1), bk := D.nx } σ2 H2) (hd : ∀ σ H, Pv xs.length σ H → D.nx σ H) :
    ((∃ xs, SqL K H a xs) ∧ ForB (Itl K a) g tb D σ H) ∨ ((∃ xs, SqT K H a xs) ∧ ForB (Itt K a) g tb D σ H) := by
  rcases hl 0 _ _ (Nat.zero_le _) h0 with h | h
  · exact .inl ⟨⟨_, h⟩, for_list (K := K) (a := a) (xs := xs) Pv h0 (fun i σ H hi p => (st i σ H hi p).1 h) hs hd⟩
  · exact .inr ⟨⟨_, h⟩, for_tup (K := K) (a := a) (xs := xs) Pv h0 (fun i σ H hi p => (st i σ H hi p).2 h) hs hd⟩
/-- .. that stays -/
theorem for_seqS {K : PySem.W.Frag} {a : Addr} {xs : List V} {g : TG} {tb : TS} {D : Ends} {σ : L2.St} {H0 H : Hp} (sq : SqL K H0 a xs ∨ SqT K H0 a xs) (Pv : Nat → L2.St → Hp → Prop) (h0 : Pv 0 σ H) (hG : ∀ i σ' H', i ≤ xs.length → Pv i σ' H' → Same H0 H')
    (hs : ∀ i x σ H, xs[i]? = some x → Pv i σ H → g x σ H fun σ2 H2 => tb { D with nx := Pv (i + 1), ct := Pv (i + 1), bk := D.nx } σ2 H2) (hd : ∀ σ H, Pv xs.length σ H → D.nx σ H) :
    ((∃ xs, SqL K H a xs) ∧ ForB (Itl K a) g tb D σ H) ∨ ((∃ xs, SqT K H a xs) ∧ ForB (Itt K a) g tb D σ H) := by
  rcases sq with h | h
  · exact .inl ⟨⟨_, L2.Same.seq (hG 0 _ _ (Nat.zero_le _) h0) h⟩, for_list (K := K) (a := a) (xs := xs) Pv h0 (fun i σ H hi p => L2.Same.seq (hG i σ H hi p) h) hs hd⟩
  · exact .inr ⟨⟨_, Lf.SqT.same (hG 0 _ _ (Nat.zero_le _) h0) h⟩, for_tup (K := K) (a := a) (xs := xs) Pv h0 (fun i σ H hi p => Lf.SqT.same (hG i σ H hi p) h) hs hd⟩
end Lf

set_option Elab.async false
set_option linter.all false
set_option maxRecDepth 100000
set_option maxHeartbeats 4000000
/-! Comprehensions told by what each of their things is. -/
namespace Lf
open PySem PySem.Spec PyProof.Rows L2
theorem snocC {α : Type} {l : List α} {j : Nat} {x y : α} (h : (l ++ [y])[j]? = some x) : l[j]? = some x ∨ j = l.length ∧ x = y := by
  by_cases c : j < l.length
  · exact .inl (by rwa [List.getElem?_append_left c] at h)
  · have := (List.getElem?_eq_some_iff.mp h).1
    rw [List.length_append, List.length_singleton] at this
    have e : j = l.length := by omega
    subst e
    rw [List.getElem?_append_right (Nat.le_refl _), Nat.sub_self] at h
    exact .inr ⟨rfl, (Option.some.inj h).symm⟩
/-- what one thing of a comprehension into D must be, and stay whatever is written to D -/
def ElR (te : TE) (σ : L2.St) (H1 : Hp) (Re : Nat → V → Hp → Prop) (i : Nat) : Prop := ∀ D Hc acc, ∀ Q' : VK, H1 D = none → Same H1 Hc → Hc D = some (.lst acc) → (∀ y H4, Same Hc H4 → (∀ H', But D H4 H' → Re i y H') → Q' y H4) → te σ Hc Q'
/-- the whole of it -/
def DoneR (n : Nat) (H1 : Hp) (Re : Nat → V → Hp → Prop) (Q : VK) : Prop := ∀ D H' ys, H1 D = none → Same H1 H' → H' D = some (.lst ys) → ys.length = n → (∀ i y, ys[i]? = some y → Re i y H') → Q (.ref D) H'
section
variable {K : PySem.W.Frag} {a : Addr} {xs : List V} {k : Nat} {te : TE} {vs : List Nat} {σ : L2.St} {H1 : Hp} {Q : VK} {Re : Nat → V → Hp → Prop}
/-- as far as i things -/
def PvR (H1 : Hp) (D : Addr) (Re : Nat → V → Hp → Prop) (i : Nat) (Hc : Hp) : Prop := But D H1 Hc ∧ ∃ ys, Hc D = some (.lst ys) ∧ ys.length = i ∧ ∀ j y, ys[j]? = some y → ∀ H', But D Hc H' → Re j y H'
theorem PvR.zero {D : Addr} : PvR H1 D Re 0 (L2.upd H1 D (.lst [])) := ⟨But.upd, [], upd_same, rfl, fun j y h => by simp at h⟩
theorem PvR.step {D : Addr} {i : Nat} {Hc H4 : Hp} {y : V} (nD : H1 D = none) (p : PvR H1 D Re i Hc) (li : i < sizeLine) (s : Same Hc H4) (r : ∀ H', But D H4 H' → Re i y H') : ∃ acc, H4 D = some (.lst acc) ∧ acc.length < sizeLine ∧ PvR H1 D Re (i + 1) (L2.upd H4 D (.lst (acc ++ [y]))) := by
  obtain ⟨b, ys, hD, ly, py⟩ := p
  refine ⟨ys, s _ _ hD, by rw [ly]; exact li, (b.trans (But.of s)).trans But.upd, ys ++ [y], upd_same, by rw [List.length_append, ly]; rfl, fun j z h H' b' => ?_⟩
  have b2 : But D H4 H' := But.upd.trans b'
  rcases snocC h with h | ⟨e, rfl⟩
  · exact py j z h H' ((But.of s).trans b2)
  · rw [e, ly]
    exact r H' b2
theorem PvR.done {D : Addr} {n : Nat} {Hc : Hp} (nD : H1 D = none) (p : PvR H1 D Re n Hc) (q : DoneR n H1 Re Q) : Q (.ref D) Hc := by
  obtain ⟨b, ys, hD, ly, py⟩ := p
  exact q D Hc ys nD (Same.but (L2.Same.refl _) nD b) hD ly fun i y h => py i y h Hc fun _ _ _ e => e
theorem yesR {σ : L2.St} {H : Hp} {A B : Hp → Prop} (h : A H) : tYes σ H fun b H3 => if b = true then A H3 else B H3 := by
  show if true = true then A H else B H
  rw [if_pos rfl]
  exact h
theorem lc_listR (sq : SqL K H1 a xs) (lx : xs.length ≤ sizeLine) (hw : ∀ x, wipe (List.set (wipe σ vs) k (some x)) vs = wipe σ vs) (el : ∀ i x, xs[i]? = some x → ElR te (List.set (wipe σ vs) k (some x)) H1 Re i) (dn : DoneR xs.length H1 Re Q) :
    tLc (fun _ _ R => R (Itl K a) H1) (gName k) tYes te vs σ H1 Q := by
  intro D nD
  refine lc_list (K := K) (a := a) (xs := xs) (PvR H1 D Re) PvR.zero (fun i H hi p => L2.Same.seq (Same.but (L2.Same.refl _) nD p.1) sq) (fun i x Hc hx p => ?_) fun H p => p.done nD dn
  refine ⟨hw x, yesR ?_⟩
  obtain ⟨_, ys, hD, _⟩ := id p
  exact el i x hx D Hc ys _ nD (Same.but (L2.Same.refl _) nD p.1) hD fun y H4 s r => p.step nD (Nat.lt_of_lt_of_le (List.getElem?_eq_some_iff.mp hx).1 lx) s r
theorem lc_tupR (sq : SqT K H1 a xs) (lx : xs.length ≤ sizeLine) (hw : ∀ x, wipe (List.set (wipe σ vs) k (some x)) vs = wipe σ vs) (el : ∀ i x, xs[i]? = some x → ElR te (List.set (wipe σ vs) k (some x)) H1 Re i) (dn : DoneR xs.length H1 Re Q) :
    tLc (fun _ _ R => R (Itt K a) H1) (gName k) tYes te vs σ H1 Q := by
  intro D nD
  refine lc_tup (K := K) (a := a) (xs := xs) (PvR H1 D Re) PvR.zero (fun i H hi p => Lf.SqT.same (Same.but (L2.Same.refl _) nD p.1) sq) (fun i x Hc hx p => ?_) fun H p => p.done nD dn
  refine ⟨hw x, yesR ?_⟩
  obtain ⟨_, ys, hD, _⟩ := id p
  exact el i x hx D Hc ys _ nD (Same.but (L2.Same.refl _) nD p.1) hD fun y H4 s r => p.step nD (Nat.lt_of_lt_of_le (List.getElem?_eq_some_iff.mp hx).1 lx) s r
theorem lc_rangeR {lo : Int} {n : Nat} (lx : n ≤ sizeLine) (hw : ∀ x, wipe (List.set (wipe σ vs) k (some x)) vs = wipe σ vs) (el : ∀ i : Nat, i < n → ElR te (List.set (wipe σ vs) k (some (.int (lo + i)))) H1 Re i) (dn : DoneR n H1 Re Q) :
    tLc (fun _ _ R => R (Itr lo n) H1) (gName k) tYes te vs σ H1 Q := by
  intro D nD
  refine lc_range (lo := lo) (n := n) (PvR H1 D Re) PvR.zero (fun i Hc hi p => ?_) fun H p => p.done nD dn
  refine ⟨hw _, yesR ?_⟩
  obtain ⟨_, ys, hD, _⟩ := id p
  exact el i hi D Hc ys _ nD (Same.but (L2.Same.refl _) nD p.1) hD fun y H4 s r => p.step nD (Nat.lt_of_lt_of_le hi lx) s r
/-- over a list or a tuple -/
theorem lc_seqR (sq : SqL K H1 a xs ∨ SqT K H1 a xs) (lx : xs.length ≤ sizeLine) (hw : ∀ x, wipe (List.set (wipe σ vs) k (some x)) vs = wipe σ vs) (el : ∀ i x, xs[i]? = some x → ElR te (List.set (wipe σ vs) k (some x)) H1 Re i) (dn : DoneR xs.length H1 Re Q) :
    ∃ b, V.ref a = .ref b ∧ (((∃ xs, SqL K H1 b xs) ∧ tLc (fun _ _ R => R (Itl K b) H1) (gName k) tYes te vs σ H1 Q) ∨ ((∃ xs, SqT K H1 b xs) ∧ tLc (fun _ _ R => R (Itt K b) H1) (gName k) tYes te vs σ H1 Q)) := by
  rcases sq with h | h
  · exact ⟨a, rfl, .inl ⟨⟨_, h⟩, lc_listR h lx hw el dn⟩⟩
  · exact ⟨a, rfl, .inr ⟨⟨_, h⟩, lc_tupR h lx hw el dn⟩⟩
theorem tlc_seq {ri : Nat} (hr : σ[ri]? = some (some (.ref a))) (sq : SqL K H1 a xs ∨ SqT K H1 a xs) (lx : xs.length ≤ sizeLine) (hw : ∀ x, wipe (List.set (wipe σ vs) k (some x)) vs = wipe σ vs) (el : ∀ i x, xs[i]? = some x → ElR te (List.set (wipe σ vs) k (some x)) H1 Re i) (dn : DoneR xs.length H1 Re Q) :
    tLc (iSeq K (tVar ri)) (gName k) tYes te vs σ H1 Q := ⟨.ref a, hr, lc_seqR sq lx hw el dn⟩
theorem tlc_seqE {tv : TE} (hv : ∀ R : VK, R (.ref a) H1 → tv σ H1 R) (sq : SqL K H1 a xs ∨ SqT K H1 a xs) (lx : xs.length ≤ sizeLine) (hw : ∀ x, wipe (List.set (wipe σ vs) k (some x)) vs = wipe σ vs) (el : ∀ i x, xs[i]? = some x → ElR te (List.set (wipe σ vs) k (some x)) H1 Re i) (dn : DoneR xs.length H1 Re Q) :
    tLc (iSeq K tv) (gName k) tYes te vs σ H1 Q := hv _ (lc_seqR sq lx hw el dn)
theorem tlc_listE {tv : TE} (hv : ∀ R : VK, R (.ref a) H1 → tv σ H1 R) (sq : SqL K H1 a xs) (lx : xs.length ≤ sizeLine) (hw : ∀ x, wipe (List.set (wipe σ vs) k (some x)) vs = wipe σ vs) (el : ∀ i x, xs[i]? = some x → ElR te (List.set (wipe σ vs) k (some x)) H1 Re i) (dn : DoneR xs.length H1 Re Q) :
    tLc (iList K tv) (gName k) tYes te vs σ H1 Q := hv _ ⟨a, rfl, ⟨_, sq⟩, lc_listR sq lx hw el dn⟩
theorem tlc_tupE {tv : TE} (hv : ∀ R : VK, R (.ref a) H1 → tv σ H1 R) (sq : SqT K H1 a xs) (lx : xs.length ≤ sizeLine) (hw : ∀ x, wipe (List.set (wipe σ vs) k (some x)) vs = wipe σ vs) (el : ∀ i x, xs[i]? = some x → ElR te (List.set (wipe σ vs) k (some x)) H1 Re i) (dn : DoneR xs.length H1 Re Q) :
    tLc (iTup K tv) (gName k) tYes te vs σ H1 Q := hv _ ⟨a, rfl, ⟨_, sq⟩, lc_tupR sq lx hw el dn⟩
def LcOk (K : PySem.W.Frag) (a : Addr) (g : TG) (tt : TT) (te : TE) (vs : List Nat) (σ : L2.St) (H1 : Hp) (Q : VK) : Prop :=
  ((∃ xs, SqL K H1 a xs) ∧ tLc (fun _ _ R => R (Itl K a) H1) g tt te vs σ H1 Q) ∨ ((∃ xs, SqT K H1 a xs) ∧ tLc (fun _ _ R => R (Itt K a) H1) g tt te vs σ H1 Q)
/-- over what a reading gives -/
theorem lc_in {tv : TE} {g : TG} {tt : TT} (h : tv σ H1 fun x H2 => ∃ a, x = .ref a ∧ LcOk K a g tt te vs σ H2 Q) : tLc (iSeq K tv) g tt te vs σ H1 Q := h
theorem LcOk.of (sq : SqL K H1 a xs ∨ SqT K H1 a xs) (lx : xs.length ≤ sizeLine) (hw : ∀ x, wipe (List.set (wipe σ vs) k (some x)) vs = wipe σ vs) (el : ∀ i x, xs[i]? = some x → ElR te (List.set (wipe σ vs) k (some x)) H1 Re i) (dn : DoneR xs.length H1 Re Q) : LcOk K a (gName k) tYes te vs σ H1 Q := by
  rcases sq with h | h
  · exact .inl ⟨⟨_, h⟩, lc_listR h lx hw el dn⟩
  · exact .inr ⟨⟨_, h⟩, lc_tupR h lx hw el dn⟩
theorem tcb_k {r : List V → Hp → VK → Prop} (h : te σ H1 fun x H2 => r [x] H2 Q) : tCB r (tCons te tNil) σ H1 Q := h
theorem tcons_k {ta : TA} {Qs : List V → Hp → Prop} (h : te σ H1 fun x H2 => ta σ H2 fun us H3 => Qs (x :: us) H3) : tCons te ta σ H1 Qs := h
theorem ret_k {D : Ends} (h : te σ H1 D.rt) : tRet te D σ H1 := h
theorem make_k {C : Addr} {sp : Sp} {dvs : List V} {E : XK} (h : te σ H1 fun y H2 => ∀ x dx, H2 x = none → H2 dx = none → dx ≠ x → sp (.ref x :: ([y] ++ dvs)) (L2.upd (L2.upd H2 dx (.own x)) x (.ins C dx [])) (fun v H3 => v = .non ∧ Q (.ref x) H3) E) : tMake C sp dvs E (tCons te tNil) σ H1 Q := h
theorem make_k3 {C : Addr} {sp : Sp} {dvs : List V} {E : XK} {ta : TA} (h : te σ H1 fun y H2 => ta σ H2 fun ys H3 => ∀ x dx, H3 x = none → H3 dx = none → dx ≠ x → sp (.ref x :: ((y :: ys) ++ dvs)) (L2.upd (L2.upd H3 dx (.own x)) x (.ins C dx [])) (fun v H3 => v = .non ∧ Q (.ref x) H3) E) : tMake C sp dvs E (tCons te ta) σ H1 Q := h
/-- a value that is told alone -/
theorem ElR.val {i : Nat} {f : V → Prop} (h : ∀ Hc (Q' : VK), Same H1 Hc → (∀ y H4, Same Hc H4 → f y → Q' y H4) → te σ Hc Q') : ElR te σ H1 (fun j y _ => j = i → f y) i :=
  fun D Hc acc Q' _ s _ k => h Hc Q' s fun y H4 s4 fy => k y H4 s4 fun _ _ _ => fy
end
end Lf

set_option Elab.async false
set_option linter.all false
set_option maxRecDepth 100000
set_option maxHeartbeats 8000000
namespace K69
open PySem PySem.Spec PyProof.Rows L2 Lf LamX
abbrev dWw : He.Defn := ("_what_words_do", none)
abbrev NWw : List Str := ["rows", "letters", "letter", "end"]
abbrev NFf : List Str := ["first", "moves", "most", "found", "numbers", "rows", "ends", "end"]
theorem scFf : FnScope NFf ["first", "moves", "most"] (defScope s_found_from) := ⟨rfl, rfl, rfl, by decide +kernel, rfl, by decide +kernel, by decide +kernel⟩
abbrev cWw (P : Program) (w : World) (K : PySem.W.Frag) (mg : Str → Option Value) (base : Heap) (A0 : Around) (outer : List Env) (s : Shared) (H : Hp) (E : XK) : Cx :=
  (cxOf C8.CX0 P w K mg base NWw "_what_words_do" (defScope s_what_words_do) (He.fAd K dWw) (.ref (He.cT K dWw).1) A0 outer s H E).nox
/-- what found_from has found, as it lies -/
structure LayF (H : Hp) (pf pn pr : Addr) (as bs : List Addr) (found rows : List (List Nat)) : Prop where
  f : H pf = some (.lst (as.map V.ref))
  fl : as.length = found.length
  fe : ∀ (j : Nat) a x, as[j]? = some a → found[j]? = some x → H a = some (.tup (x.map nv))
  d : H pn = some (.dT (dtab found))
  t : H pr = some (.lst (bs.map V.ref))
  tl : bs.length = rows.length
  te : ∀ (j : Nat) b r, bs[j]? = some b → rows[j]? = some r → H b = some (.lst (r.map nv)) ∧ b ≠ pf ∧ b ≠ pr
  ne : pf ≠ pr
theorem LayF.same {H H' : Hp} {pf pn pr : Addr} {as bs : List Addr} {found rows : List (List Nat)} (L : LayF H pf pn pr as bs found rows) (s : Same H H') : LayF H' pf pn pr as bs found rows :=
  ⟨s _ _ L.f, L.fl, fun j a x h1 h2 => s _ _ (L.fe j a x h1 h2), s _ _ L.d, s _ _ L.t, L.tl, fun j b r h1 h2 => ⟨s _ _ (L.te j b r h1 h2).1, (L.te j b r h1 h2).2⟩, L.ne⟩
theorem LayF.add {H : Hp} {pf pn pr e : Addr} {as bs : List Addr} {found rows : List (List Nat)} {x : List Nat} (L : LayF H pf pn pr as bs found rows) (he : H e = some (.tup (x.map nv))) :
    LayF (L2.upd (L2.upd H pn (.dT (dtab (found ++ [x])))) pf (.lst (as.map V.ref ++ [.ref e]))) pf pn pr (as ++ [e]) bs (found ++ [x]) rows := by
  have n1 : pn ≠ pf := fun z => by have := L.d; rw [z, L.f] at this; cases this
  have n2 : pn ≠ pr := fun z => by have := L.d; rw [z, L.t] at this; cases this
  have tup : ∀ {a : Addr} {ys : List V}, H a = some (.tup ys) → L2.upd (L2.upd H pn (.dT (dtab (found ++ [x])))) pf (.lst (as.map V.ref ++ [.ref e])) a = some (.tup ys) := fun {a ys} h => by
    rw [upd_ne (fun z => by rw [z, L.f] at h; cases h), upd_ne (fun z => by rw [z, L.d] at h; cases h)]
    exact h
  refine ⟨by rw [upd_same, List.map_append]; rfl, by rw [List.length_append, List.length_append, L.fl]; rfl, fun j a y h1 h2 => ?_, by rw [upd_ne n1, upd_same], by rw [upd_ne L.ne.symm, upd_ne n2.symm]; exact L.t, L.tl, fun j b r h1 h2 => ?_, L.ne⟩
  · rcases Mon.snoc_cases h1 with g1 | ⟨z1, rfl⟩
    · rcases Mon.snoc_cases h2 with g2 | ⟨z2, rfl⟩
      · exact tup (L.fe j a y g1 g2)
      · have := get_lt g1
        rw [L.fl] at this
        omega
    · rcases Mon.snoc_cases h2 with g2 | ⟨z2, rfl⟩
      · have := get_lt g2
        rw [← L.fl] at this
        omega
      · exact tup he
  · obtain ⟨a1, a2, a3⟩ := L.te j b r h1 h2
    exact ⟨by rw [upd_ne a2, upd_ne (fun z => by rw [z, L.d] at a1; cases a1)]; exact a1, a2, a3⟩
theorem LayF.row {H : Hp} {pf pn pr p : Addr} {as bs : List Addr} {found rows : List (List Nat)} {r : List Nat} (L : LayF H pf pn pr as bs found rows) (hp : H p = some (.lst (r.map nv))) (np : p ≠ pf ∧ p ≠ pr) :
    LayF (L2.upd H pr (.lst (bs.map V.ref ++ [.ref p]))) pf pn pr as (bs ++ [p]) found (rows ++ [r]) := by
  have tup : ∀ {a : Addr} {ys : List V}, H a = some (.tup ys) → L2.upd H pr (.lst (bs.map V.ref ++ [.ref p])) a = some (.tup ys) := fun {a ys} h => by
    rw [upd_ne (fun z => by rw [z, L.t] at h; cases h)]
    exact h
  refine ⟨by rw [upd_ne L.ne]; exact L.f, L.fl, fun j a y h1 h2 => tup (L.fe j a y h1 h2), by rw [upd_ne (fun z => by have := L.d; rw [z, L.t] at this; cases this)]; exact L.d, by rw [upd_same, List.map_append]; rfl, by rw [List.length_append, List.length_append, L.tl]; rfl, fun j b q h1 h2 => ?_, L.ne⟩
  rcases Mon.snoc_cases h1 with g1 | ⟨z1, rfl⟩
  · rcases Mon.snoc_cases h2 with g2 | ⟨z2, rfl⟩
    · obtain ⟨a1, a2, a3⟩ := L.te j b q g1 g2
      exact ⟨by rw [upd_ne a3]; exact a1, a2, a3⟩
    · have := get_lt g1
      rw [L.tl] at this
      omega
  · rcases Mon.snoc_cases h2 with g2 | ⟨z2, rfl⟩
    · have := get_lt g2
      rw [← L.tl] at this
      omega
    · exact ⟨by rw [upd_ne np.2]; exact hp, np⟩
theorem few256 {n : Nat} {gens found rows : List (List Nat)} {i c : Nat} {row : List Nat} {m : List (Nat × Nat)} (n1 : 1 ≤ n) (n4 : n ≤ 4) (B : Mon.Bfs n gens i c found rows row m) : found.length ≤ 256 := by
  have g1 := B.few
  have g2 : n ^ n ≤ 256 := by
    have : n = 1 ∨ n = 2 ∨ n = 3 ∨ n = 4 := by omega
    rcases this with rfl | rfl | rfl | rfl <;> decide
  omega
section
variable {P : Program} {w : World} {K : PySem.W.Frag} {mg : Str → Option Value} {base : Heap}
/-- found_from, walked where it is called with a lambda -/
theorem ff (T : Txt P w K mg base) {A0 : Around} {outer : List Env} {s0 : Shared} {H0 : Hp} {E0' : XK} {g : Addr} {cdg : Value} {s : Shared} {H : Hp} {a fm : Addr} {r : List V → Hp → VK → Prop} {Q : VK} {n : Nat} {gens : List (List Nat)}
    (hr : Room 1 ((cWw P w K mg base A0 outer s0 H0 E0').A.deeper (envOfC "found_from" (defScope s_found_from) s.heap.objs.size g cdg)))
    (act : ActV1 (zCx (cWw P w K mg base A0 outer s0 H0 E0') NFf "found_from" (defScope s_found_from) g cdg s H) "moves" 1 fm r)
    (ha : H a = some (.tup ((Mon.idm n).map nv))) (n1 : 1 ≤ n) (n4 : n ≤ 4) (gv : ∀ g ∈ gens, Mon.Valid n g) (g1 : 1 ≤ gens.length) (g4 : gens.length ≤ 6)
    (hrr : ∀ H1 b x Q1, Same H H1 → H1 b = some (.tup (x.map nv)) → Mon.Valid n x → (∀ p (es : List Addr) H2, Same H1 H2 → H1 p = none → H2 p = some (.lst (es.map V.ref)) → es.length = gens.length → (∀ (c : Nat) e gg, es[c]? = some e → gens[c]? = some gg → H2 e = some (.tup ((Mon.comp x gg).map nv))) → Q1 (.ref p) H2) → r [.ref b] H1 Q1)
    (k : ∀ Tt pf pn pr as bs found rows m H', Same H H' → H' Tt = some (.tup [.ref pf, .ref pr]) → LayF H' pf pn pr as bs found rows → Mon.Tab n gens found rows → Mon.madeTab 0 rows [] = some m → m.length + 1 = rows.length → Q (.ref Tt) H') :
    ∃ t, PSs (zCx (cWw P w K mg base A0 outer s0 H0 E0') NFf "found_from" (defScope s_found_from) g cdg s H) (defBody s_found_from) t ∧ t { nx := fun _ H' => Q .non H', rt := Q } (L2.start NFf [.ref a, .ref fm, .int 500]) H := by
  have zn : mg "len" = none := T.fr 59 "len" rfl
  have hu : ((cWw P w K mg base A0 outer s0 H0 E0').A.deeper (envOfC "found_from" (defScope s_found_from) s.heap.objs.size g cdg)).units + 1 < cLine := by have := hr.units; omega
  refine ⟨_, pss_cons (ps_set (i := 3) scFf.nd rfl (.inl rfl) (pe_lst (pa_cons (pv 0) pa_nil)))
    (pss_cons (ps_set (i := 4) scFf.nd rfl (.inr rfl) (pe_dispT1 hu (pv 0) pe_int))
    (pss_cons (ps_set (i := 5) scFf.nd rfl (.inl rfl) (pe_lst pa_nil))
    (pss_cons (ps_while PassesOwn.never (pt_cmpR op_lt (pe_callB call_len_seq rfl zn boot_len (pa_cons (pv 5) pa_nil)) (pe_callB call_len_seq rfl zn boot_len (pa_cons (pv 3) pa_nil)) (nomark _))
      (pss_cons (ps_set (i := 6) scFf.nd rfl (.inl rfl) (act (pa_cons (pe_ix ix_list (pv 3) (pe_callB call_len_seq rfl zn boot_len (pa_cons (pv 5) pa_nil)) (fun _ _ => rfl)) pa_nil) rfl rfl))
      (pss_cons (ps_for PassesOwn.never rfl (pi_list (pv 6)) (pg_name (i := 7) scFf.nd rfl (.inl rfl))
        (pss_one (ps_if (pt_cmp (pc_dnotin hu (pv 7) (pv 4)) (by rfl))
          (pss_cons (ps_if (pt_cmpR op_eq (pe_callB call_len_seq rfl zn boot_len (pa_cons (pv 3) pa_nil)) (pv 2) (nomark _)) (pss_one ps_never) pss_nil)
          (pss_cons (ps_dput hu (pv 4) (pv 7) (pe_callB call_len_seq rfl zn boot_len (pa_cons (pv 3) pa_nil)) rfl)
          (pss_one (ps_expr (pe_bm PySem.F.plainAttrs_list PySem.F.slot_list_append PySem.F.type_list_append mt_append (pv 3) (pa_cons (pv 7) pa_nil)))))) pss_nil)))
      (pss_one (ps_expr (pe_bm PySem.F.plainAttrs_list PySem.F.slot_list_append PySem.F.type_list_append mt_append (pv 5) (pa_cons (pe_lc (own := [("end", 7)]) (g := gName 7) (te := tDGet (tVar 4) (tVar 7)) (by rfl) scFf.nd (pi_list (pv 6)) (blkOk_by (own := [("end", 7)]) (N := NFf) (sc := defScope s_found_from) (by decide +kernel)) (fun _ _ _ _ _ => pg_name (i := 7) scFf.nd rfl (Or.inl rfl)) (fun _ _ _ _ _ => pts_nil)
        (fun _ _ _ _ _ => by exact pe_dget hu (pv 4) (pv 7) (fun _ _ => rfl))) pa_nil)))))))
    (pss_one (ps_ret (pe_tup (pa_cons (pv 3) (pa_cons (pv 5) pa_nil)))))))), ?_⟩
  refine ⟨_, rfl, (by show 1 ≤ sizeLine; decide), fun pf nf => ?_⟩
  have hf1 : L2.upd H pf (.lst [.ref a]) pf = some (.lst ([a].map V.ref)) := upd_same
  have s1 := same_upd (o := .lst [.ref a]) nf
  have h1 := s1 _ _ ha
  generalize L2.upd H pf (.lst [.ref a]) = H1 at s1 h1 hf1 ⊢
  intro pn nn
  have u2 := same_upd (o := .dT []) nn
  have s2 := s1.trans u2
  have h2 := u2 _ _ h1
  have hf2 := u2 _ _ hf1
  have hn2 : L2.upd H1 pn (.dT []) pn = some (.dT []) := upd_same
  have hn0 : H pn = none := nil_of s1 nn
  generalize L2.upd H1 pn (.dT []) = H2 at s2 h2 hf2 hn2 ⊢
  refine ⟨_, rfl, kt (Mon.idm n), a, _, hn2, rfl, by rw [kt_map]; exact h2, rfl, ?_⟩
  have s3 : Same H (L2.upd H2 pn (.dT [(kt (Mon.idm n), .int 0)])) := fun b o e => by
    rw [upd_ne (ne_of_none e hn0)]
    exact s2 b o e
  have e1 : pn ≠ pf := fun z => by rw [z, hf2] at hn2; cases hn2
  have e4 : a ≠ pn := fun z => by rw [z, hn2] at h2; cases h2
  have hf3 : L2.upd H2 pn (.dT [(kt (Mon.idm n), .int 0)]) pf = some (.lst ([a].map V.ref)) := by rw [upd_ne e1.symm]; exact hf2
  have h3 : L2.upd H2 pn (.dT [(kt (Mon.idm n), .int 0)]) a = some (.tup ((Mon.idm n).map nv)) := by rw [upd_ne e4]; exact h2
  have hn3 : L2.upd H2 pn (.dT [(kt (Mon.idm n), .int 0)]) pn = some (.dT (dtab [Mon.idm n])) := upd_same
  generalize L2.upd H2 pn (.dT [(kt (Mon.idm n), .int 0)]) = H3 at s3 hf3 h3 hn3 ⊢
  clear s2 h2 hf2 hn2 u2 hf1 h1 s1 nn
  refine ⟨(by show 0 ≤ sizeLine; decide), fun pr nr => ?_⟩
  have u4 := same_upd (o := .lst []) nr
  have s4 := s3.trans u4
  have hr0 : H pr = none := nil_of s3 nr
  have L0 : LayF (L2.upd H3 pr (.lst [])) pf pn pr [a] [] [Mon.idm n] [] := by
    refine ⟨u4 _ _ hf3, rfl, fun j b x g1 g2 => ?_, u4 _ _ hn3, upd_same, rfl, fun j b r g1 g2 => (by simp at g1), ne_of_none hf3 nr⟩
    cases j with
    | zero =>
      cases g1
      cases g2
      exact u4 _ _ h3
    | succ j => simp at g1
  generalize L2.upd H3 pr (.lst []) = H4 at s4 L0 ⊢
  clear u4 s3 hf3 h3 hn3 nr
  refine ⟨fun M σ Hn => ∃ (i : Nat) (v6 v7 : Option V), i + M = 300 ∧ σ = [some (.ref a), some (.ref fm), some (.int 500), some (.ref pf), some (.ref pn), some (.ref pr), v6, v7] ∧ Same H Hn ∧ ∃ as bs found rows m, LayF Hn pf pn pr as bs found rows ∧ Mon.Bfs n gens i 0 found rows [] m,
    ⟨300, 0, none, none, rfl, rfl, s4, [a], [], [Mon.idm n], [], [], L0, Mon.Bfs.start gv⟩, ?_⟩
  rintro MM σ Hn ⟨i, v6, v7, iM, rfl, sn, as, bs, found, rows, m, L, B⟩
  have fw := few256 n1 n4 B
  refine ⟨_, rfl, pr, bs.map V.ref, rfl, .inl (SqL.of L.t), _, rfl, pf, as.map V.ref, rfl, .inl (SqL.of L.f), _, _, rfl, rfl, _, rfl, ?_⟩
  rw [List.length_map, L.tl, B.len, List.length_map, L.fl]
  by_cases il : i < found.length
  · rw [decide_eq_true (show ((i : Nat) : Int) < ((found.length : Nat) : Int) by omega)]
    refine ifT rfl ⟨_, fun σ' H' z => z, ?_⟩
    obtain ⟨x, hx⟩ := lt_get il
    obtain ⟨ax, hax⟩ := lt_get (show i < as.length by rw [L.fl]; exact il)
    have vx := B.val x (List.mem_of_getElem? hx)
    refine ⟨rfl, _, rfl, _, rfl, pr, bs.map V.ref, rfl, .inl (SqL.of L.t), pf, as.map V.ref, _, .ref ax, rfl, rfl, SqL.of L.f, (by rw [List.length_map, L.tl, B.len]; exact atI_nat (get_map hax)), ?_⟩
    refine hrr Hn ax x _ sn (L.fe i ax x hax hx) vx fun p es H5 s5 np hp el ee => ?_
    have s6 := sn.trans s5
    have L6 := L.same s5
    have pn1 : p ≠ pf := (ne_of_none L.f np).symm
    have pn2 : p ≠ pn := (ne_of_none L.d np).symm
    have pn3 : p ≠ pr := (ne_of_none L.t np).symm
    clear L sn s5
    refine ⟨_, rfl, p, rfl, ⟨_, SqL.of hp⟩, ?_⟩
    refine for_list (K := K) (a := p) (xs := es.map V.ref) (fun c σ' Hc => ∃ v7 : Option V, σ' = [some (.ref a), some (.ref fm), some (.int 500), some (.ref pf), some (.ref pn), some (.ref pr), some (.ref p), v7] ∧ Same H Hc ∧ Hc p = some (.lst (es.map V.ref)) ∧ (∀ (c : Nat) e gg, es[c]? = some e → gens[c]? = some gg → Hc e = some (.tup ((Mon.comp x gg).map nv))) ∧
      ∃ as found m row, LayF Hc pf pn pr as bs found rows ∧ Mon.Bfs n gens i c found rows row m ∧ found[i]? = some x) ⟨_, rfl, s6, hp, ee, as, found, m, [], L6, B, hx⟩ (fun c σ' Hc _ ⟨_, _, _, h, _⟩ => SqL.of h) ?_ ?_
    · rintro c z σ' Hc hz ⟨v7, rfl, sc, hp, ee, as, found, m, row, L, B, hx⟩
      obtain ⟨e, he, rfl⟩ := map_get hz
      have hc := get_lt he
      obtain ⟨gg, hgg⟩ := lt_get (show c < gens.length by omega)
      have hee := ee c e gg he hgg
      have fw := few256 n1 n4 B
      have hN : Hc e = some (.tup ((kt (Mon.comp x gg)).map kV)) := by rw [kt_map]; exact hee
      have ne1 : e ≠ pf := fun z => by rw [z, L.f] at hee; cases hee
      have ne2 : e ≠ pn := fun z => by have := L.d; rw [← z, hee] at this; cases this
      have nx1 : ∀ {v : Addr} {o : HO}, H v = some o → v ≠ pn ∧ v ≠ pf := fun {v o} q => ⟨ne_of_none q hn0, ne_of_none q (show H pf = none from nf)⟩
      refine ⟨_, rfl, _, rfl, pn, _, rfl, DGet.t L.d hN, _, rfl, ?_⟩
      by_cases hm : Mon.comp x gg ∈ found
      · obtain ⟨t, ht⟩ := List.getElem?_of_mem hm
        have hv : valV (dtab found) (kt (Mon.comp x gg)) = some (nv t) := by
          have := dtabF_some (k := 0) B.nd ht
          rwa [Nat.zero_add] at this
        rw [hv]
        refine ifF rfl ?_
        exact ⟨_, rfl, sc, hp, ee, as, found, m, row ++ [t], L, B.old hx hgg ht, hx⟩
      · have hv : valV (dtab found) (kt (Mon.comp x gg)) = none := dtabF_none hm
        rw [hv]
        refine ifT rfl ?_
        refine ⟨_, rfl, pf, as.map V.ref, rfl, .inl (SqL.of L.f), _, rfl, ?_⟩
        rw [List.length_map, L.fl]
        refine ⟨rfl, _, rfl, ?_⟩
        refine ifF (decide_eq_false (fun z => by have := V.int.inj z; omega)) ?_
        refine ⟨_, rfl, pf, as.map V.ref, rfl, .inl (SqL.of L.f), _, rfl, _, rfl, pn, _, rfl, DPut.t L.d hN (by rw [dtabF_len]; show found.length < 16777216; omega), ?_⟩
        rw [List.length_map, L.fl, dtab_put hm]
        have e1 : pn ≠ pf := fun z => by have := L.d; rw [z, L.f] at this; cases this
        have hf10 : L2.upd Hc pn (.dT (dtab (found ++ [Mon.comp x gg]))) pf = some (.lst (as.map V.ref)) := by rw [upd_ne e1.symm]; exact L.f
        refine ⟨_, rfl, .inl ⟨rfl, _, SqL.of hf10⟩, _, rfl, pf, as.map V.ref, _, rfl, rfl, hf10, (by rw [List.length_map, L.fl]; show found.length < 16777216; omega), ?_⟩
        have LA := L.add hee
        have keep : ∀ (b : Addr) (o : HO), b ≠ pn → b ≠ pf → Hc b = some o → L2.upd (L2.upd Hc pn (.dT (dtab (found ++ [Mon.comp x gg])))) pf (.lst (as.map V.ref ++ [.ref e])) b = some o := fun b o n1 n2 q => by
          rw [upd_ne n2, upd_ne n1]
          exact q
        refine ⟨_, rfl, fun b o q => keep b o (ne_of_none q hn0) (ne_of_none q nf) (sc b o q), keep _ _ pn2 pn1 hp, fun c' e' gg' q1 q2 => keep _ _ (fun z => by have := ee c' e' gg' q1 q2; rw [z, L.d] at this; cases this) (fun z => by have := ee c' e' gg' q1 q2; rw [z, L.f] at this; cases this) (ee c' e' gg' q1 q2), as ++ [e], found ++ [Mon.comp x gg], _, row ++ [found.length], LA, B.new hx hgg hm, Mon.get_app _ hx⟩
    · rintro σ' Hc ⟨v7, rfl, sc, hp, ee, as, found, m, row, L, B, hx⟩
      have fw := few256 n1 n4 B
      rw [List.length_map, el] at B
      refine ⟨_, rfl, .inl ⟨rfl, _, SqL.of L.t⟩, ?_⟩
      refine tcons_k (tlc_listE (K := K) (a := p) (xs := es.map V.ref) (Re := fun j y _ => ∃ t, row[j]? = some t ∧ y = nv t) (fun R h => ⟨_, rfl, h⟩) (SqL.of hp) (by rw [List.length_map, el]; show gens.length ≤ 16777216; omega) (fun x => by rfl) (fun j z hz => ?_) (fun D H' ys nD sD hD ly hy => ?_))
      · obtain ⟨e, he, rfl⟩ := map_get hz
        have hj := get_lt he
        obtain ⟨gg, hgg⟩ := lt_get (show j < gens.length by omega)
        obtain ⟨t, ht⟩ := lt_get (show j < row.length by rw [B.rlen]; omega)
        intro D Hd acc Q' nD sD hD kk
        obtain ⟨x', g', e1, e2, e3⟩ := B.rent j t ht
        have q1 := e1.symm.trans hx
        have q2 := e2.symm.trans hgg
        cases q1
        cases q2
        have hv : valV (dtab found) (kt (Mon.comp x gg)) = some (nv t) := by
          have := dtabF_some (k := 0) B.nd e3
          rwa [Nat.zero_add] at this
        have hN : Hd e = some (.tup ((kt (Mon.comp x gg)).map kV)) := by rw [kt_map]; exact sD _ _ (ee j e gg he hgg)
        exact ⟨_, rfl, _, rfl, pn, nv t, rfl, hv ▸ DGet.t (sD _ _ L.d) hN, kk _ _ (L2.Same.refl _) fun H' _ => ⟨t, ht, rfl⟩⟩
      · have L' := L.same sD
        rw [List.length_map] at ly
        have ey : ys = row.map nv := by
          refine List.ext_getElem? fun j => ?_
          by_cases hj : j < ys.length
          · obtain ⟨y, hy'⟩ := lt_get hj
            obtain ⟨t, ht, rfl⟩ := hy j y hy'
            rw [hy', List.getElem?_map, ht]
            rfl
          · rw [List.getElem?_eq_none (by omega), List.getElem?_eq_none (by rw [List.length_map, B.rlen]; omega)]
        rw [ey] at hD
        have LR := L'.row hD ⟨(ne_of_none L.f nD).symm, (ne_of_none L.t nD).symm⟩
        refine ⟨pr, bs.map V.ref, _, rfl, rfl, L'.t, by rw [List.length_map, L.tl, B.len]; show i < 16777216; omega, 300 - (i + 1), by omega, i + 1, _, _, by omega, rfl, ?_, as, bs ++ [D], found, rows ++ [row], m, ?_, B.next rfl (by omega) hx⟩
        · exact fun b o e => by
            rw [upd_ne (ne_of_none e hr0)]
            exact sD _ _ (sc _ _ e)
        · exact LR
  · rw [decide_eq_false (show ¬ ((i : Nat) : Int) < ((found.length : Nat) : Int) by omega)]
    refine ifF rfl ?_
    refine ⟨_, rfl, _, rfl, (by show 2 ≤ sizeLine; decide), fun T nT => ?_⟩
    obtain ⟨Tb, hm, lm⟩ := B.tab (by omega)
    have u := same_upd (o := .tup [.ref pf, .ref pr]) nT
    exact k T pf pn pr as bs found rows m _ (sn.trans u) upd_same (L.same u) Tb hm lm
end
end K69

set_option Elab.async false
set_option linter.all false
set_option maxRecDepth 100000
set_option maxHeartbeats 4000000
/-! A lambda whose one parameter lies in a cell (a comprehension within reads it), handed to a def of the module within the call. -/
namespace Lf
open PySem PySem.Spec PyProof.Rows L2 LamX
theorem layC_none {clo : List (Str × Addr)} : ∀ {n : Nat} {l : List (Str × NameKind)}, (∀ y ∈ l, y.2 ≠ .cell) → cellsFrom n l clo = clo
  | _, [], _ => rfl
  | n, (x, k) :: r, h => by
    unfold cellsFrom
    have : (k == NameKind.cell) = false := by simpa using h (x, k) List.mem_cons_self
    rw [this]
    exact layC_none fun y hy => h y (List.mem_cons_of_mem _ hy)
theorem pushC_none : ∀ {h : Heap} {l : List (Str × NameKind)}, (∀ y ∈ l, y.2 ≠ .cell) → pushCells h l = h
  | _, [], _ => rfl
  | _, (x, k) :: r, h => by
    unfold pushCells
    have : (k == NameKind.cell) = false := by simpa using h (x, k) List.mem_cons_self
    rw [this]
    exact pushC_none fun y hy => h y (List.mem_cons_of_mem _ hy)
section
variable {M : Model} {A : Around} {E : Value → Shared → Prop} {s : Shared}
/-- the environment of a call whose one parameter lies in a cell -/
theorem new_c1 {scope : Scope} {globals : Addr} {clo : List (Str × Addr)} {x1 : Str} {u1 : Value} {tl : List (Str × NameKind)} {qual : Str} {func : Option Addr} {code : Value} {builtins : Addr} {Q : Env → Shared → Prop}
    (hn : scope.names = (x1, .cell) :: tl) (ht : ∀ y ∈ tl, y.2 ≠ .cell) (hk : scope.kind = .function)
    (hQ : ∀ h', h'.Ns s.heap.objs.size (fun _ => none) → h'.IsCell (s.heap.objs.size + 1) (some u1) → (∀ b o, s.heap.get? b = some o → h'.get? b = some o) →
      Q (newEnv scope s.heap.objs.size globals ((x1, s.heap.objs.size + 1) :: clo) qual func code none builtins) { s with heap := h' }) :
    wpAny M A (newFunctionEnv scope globals clo [(x1, u1)] qual func code none builtins) Q E s := by
  simp only [newFunctionEnv, Option.isSome_none, Bool.false_eq_true, if_false]
  refine wpAny_bind (wpAny_alloc ?_)
  refine wpAny_bind (wpAny_layCells _ (fun name kind cells => by cases hkc : kind == NameKind.cell <;> simp [hkc]) _ _ _ _ ?_)
  rw [show ({ s with heap := s.heap.push { cls := .type "frame", data := .dict #[] } } : Shared).heap.objs.size = s.heap.objs.size + 1 from Heap.size_push ..]
  have e1 : cellsFrom (s.heap.objs.size + 1) scope.names clo = (x1, s.heap.objs.size + 1) :: clo := by
    rw [hn]
    unfold cellsFrom
    rw [show (NameKind.cell == NameKind.cell) = true from rfl]
    exact layC_none ht
  have e2 : pushCells (s.heap.push { cls := .type "frame", data := .dict #[] }) scope.names = (s.heap.push { cls := .type "frame", data := .dict #[] }).push { cls := .type "cell", data := .cell none } := by
    rw [hn]
    unfold pushCells
    rw [show (NameKind.cell == NameKind.cell) = true from rfl]
    exact pushC_none ht
  rw [e1]
  show wpAny M A _ _ _ { s with heap := pushCells (s.heap.push { cls := .type "frame", data := .dict #[] }) scope.names }
  rw [e2]
  have hs1 : (s.heap.push { cls := .type "frame", data := .dict #[] }).objs.size = s.heap.objs.size + 1 := Heap.size_push ..
  rw [List.forIn_cons]
  refine wpAny_bind (wpAny_bind (wpAny_bind (wpAny_storeName_cell (c := s.heap.objs.size + 1) (v₀ := none) hk ?_ ?_ ?_ fun h' hc hb => wpAny_pure ?_)))
  · show scope.names.lookup x1 = some .cell
    rw [hn]
    simp [List.lookup]
  · show ((x1, s.heap.objs.size + 1) :: clo).lookup x1 = some (s.heap.objs.size + 1)
    simp [List.lookup]
  · refine ⟨{ cls := .type "cell", data := .cell none }, ?_, rfl⟩
    rw [← hs1]
    exact Heap.get?_push_size _ rfl
  · dsimp only [List.forIn_nil]
    have k0 : ∀ b o, (s.heap.push { cls := .type "frame", data := .dict #[] }).get? b = some o → ((s.heap.push { cls := .type "frame", data := .dict #[] }).push { cls := .type "cell", data := .cell none }).get? b = some o := fun b o e => Heap.get?_push_of_some _ e
    refine wpAny_pure (wpAny_pure (hQ h' (((Heap.Ns.new s.heap (.type "frame")).keeps k0).sameBut hb (Nat.ne_of_lt (Nat.lt_succ_self _))) hc fun b o e => ?_))
    have lt := Heap.lt_size e
    exact hb.extBut b o (Nat.ne_of_lt (Nat.lt_succ_of_lt lt)) (k0 b o (Heap.get?_push_of_some _ e))
end
/-- the names of such a lambda: its parameter ahead, in a cell; captured ones, globals -/
structure LamC1 (sc scope : Scope) (N : List Str) (x1 : Str) : Prop where
  kind : scope.kind = .function
  co : scope.isCoroutine = false
  gen : scope.isGenerator = false
  names : scope.names = (x1, .cell) :: scope.names.tail
  cell : ∀ y ∈ scope.names.tail, y.2 ≠ .cell ∧ y.1 ≠ x1
  free : ∀ y ∈ scope.names, y.2 = .free → sc.names.lookup y.1 = some .cell ∨ sc.names.lookup y.1 = some .free
  dis : ∀ x ∈ N, scope.names.lookup x ≠ some .local ∧ x ≠ x1
def lamCB1 (sc scope : Scope) (N : List Str) (x1 : Str) : Bool :=
  (decide (scope.kind = .function) && !scope.isCoroutine && !scope.isGenerator) && (decide (scope.names = (x1, .cell) :: scope.names.tail)) &&
  ((scope.names.tail.all fun y => !decide (y.2 = .cell) && !decide (y.1 = x1)) && (scope.names.all fun y => !decide (y.2 = .free) || (decide (sc.names.lookup y.1 = some .cell) || decide (sc.names.lookup y.1 = some .free))) && N.all fun x => !decide (scope.names.lookup x = some .local) && !decide (x = x1))
theorem lamC1_by {sc scope : Scope} {N : List Str} {x1 : Str} (h : lamCB1 sc scope N x1 = true) : LamC1 sc scope N x1 := by
  unfold lamCB1 at h
  simp only [Bool.and_eq_true, Bool.or_eq_true, Bool.not_eq_true', decide_eq_true_eq, decide_eq_false_iff_not, List.all_eq_true] at h
  obtain ⟨⟨⟨⟨a1, a2⟩, a3⟩, b2⟩, ⟨c1, c2⟩, c3⟩ := h
  exact ⟨a1, a2, a3, b2, c1, fun y hy e => (c2 y hy).elim (fun z => absurd e z) id, c3⟩
abbrev lamEnvC (X : Cx) (scope : Scope) (L f c' : Addr) (x1 : Str) : Env := PySem.W.envX (X.env.qual ++ "<lambda>") scope L f (.ref c') ((x1, L + 1) :: cloFrom X.env.cells scope.names [])
/-- where the body runs: its parameter ahead of the names of the def that made it -/
def lamCxC1 (X : Cx) (A : Around) (outer : List Env) (s : Shared) (H : Hp) (scope : Scope) (f c' : Addr) (x1 : Str) : Cx :=
  { lamCx X A outer s H C8.E0 scope f c' with
    A := A.deeper (lamEnvC X scope s.heap.objs.size f c' x1)
    N := x1 :: X.N
    env := lamEnvC X scope s.heap.objs.size f c' x1
    stack := lamEnvC X scope s.heap.objs.size f c' x1 :: outer
    xe := fun _ _ => False }
section
variable {X : Cx} {pins : List (Addr × Obj)} {σ : L2.St} {H HZ : Hp} {s s1 : Shared} {scope : Scope} {x1 : Str}
theorem LamC1.has (L : LamC1 X.env.scope scope X.N x1) (ok : X.Ok) : ∀ y ∈ scope.names, y.2 = .free → ∃ c, X.env.cells.lookup y.1 = some c := fun y hy e =>
  (L.free y hy e).elim (fun k => ok.has _ (.inl k)) (fun k => ok.has _ (.inr k))
theorem LamC1.clo (L : LamC1 X.env.scope scope X.N x1) (ok : X.Ok) {y : Str} {c : Addr} (e : (cloFrom X.env.cells scope.names []).lookup y = some c) : X.env.cells.lookup y = some c ∧ (y, NameKind.free) ∈ scope.names := by
  rcases cloFrom_mem (PySem.mem_of_lookup e) with hm | ⟨h1, h2⟩
  · cases hm
  · obtain ⟨c1, hc⟩ := L.has ok _ h1 rfl
    have hc2 : X.env.cells.lookup y = some c1 := hc
    refine ⟨?_, h1⟩
    rw [h2, hc2]
    rfl
theorem LamC1.ne (L : LamC1 X.env.scope scope X.N x1) {y : Str} (h : (y, NameKind.free) ∈ scope.names) : y ≠ x1 := by
  rw [L.names] at h
  rcases List.mem_cons.mp h with e | h
  · cases e
  · exact (L.cell _ h).2
/-- a cell of the lambda's environment -/
theorem LamC1.cases (L : LamC1 X.env.scope scope X.N x1) (ok : X.Ok) {n : Addr} {y : Str} {c : Addr} (e : ((x1, n) :: cloFrom X.env.cells scope.names []).lookup y = some c) : (y = x1 ∧ c = n) ∨ (y ≠ x1 ∧ (cloFrom X.env.cells scope.names []).lookup y = some c ∧ X.env.cells.lookup y = some c) := by
  rw [List.lookup_cons] at e
  cases hb : y == x1 with
  | true =>
    rw [hb] at e
    cases e
    exact .inl ⟨beq_iff_eq.mp hb, rfl⟩
  | false =>
    rw [hb] at e
    exact .inr ⟨fun z => by rw [z] at hb; simp at hb, e, (L.clo ok e).1⟩
theorem LamC1.look (L : LamC1 X.env.scope scope X.N x1) {n : Addr} {y : Str} {c : Addr} (e : (cloFrom X.env.cells scope.names []).lookup y = some c) (ne : y ≠ x1) : ((x1, n) :: cloFrom X.env.cells scope.names []).lookup y = some c := by
  rw [List.lookup_cons]
  have : (y == x1) = false := by simpa using ne
  rw [this]
  exact e
theorem LamC1.cellIs (L : LamC1 X.env.scope scope X.N x1) {y : Str} (h : scope.names.lookup y = some .cell) : y = x1 := by
  have hm := PySem.mem_of_lookup h
  rw [L.names] at hm
  rcases List.mem_cons.mp hm with e | hm
  · cases e
    rfl
  · exact absurd rfl (L.cell _ hm).1
theorem lam_startC1 {A : Around} {outer : List Env} {f c' : Addr} {h₁ : Heap} {v1 : V} {u1 : Value} (I : Inv X pins σ H s) (L : LamC1 X.env.scope scope X.N x1) (e0 : Env0 X.prog X.w X.K X.mg X.base A outer s1 HZ) (hd : A.handled = none)
    (un : Un (frs X.stack) [] H HZ s.heap s1.heap) (hns : h₁.Ns s1.heap.objs.size fun _ => none) (hcl : h₁.IsCell (s1.heap.objs.size + 1) (some u1)) (kp : ∀ b o, s1.heap.get? b = some o → h₁.get? b = some o) (r1 : RelV v1 u1) :
    Inv (lamCxC1 X A outer s1 HZ scope f c' x1) [] (some v1 :: σ) HZ { s1 with heap := h₁ } := by
  have noEx : ∀ b : Addr, b ∉ (lamCxC1 X A outer s1 HZ scope f c' x1).ex := fun b z => nomatch (show b ∈ ([] : List Addr) from z)
  have got : ∀ {y}, scope.names.lookup y = some .free → ∃ c, (cloFrom X.env.cells scope.names []).lookup y = some c := fun {y} hl =>
    mem_lookup (cloFrom_has (cells := X.env.cells) (acc := []) (show (y, NameKind.free) ∈ scope.names from PySem.mem_of_lookup hl))
  have stay0 : ∀ {c : Addr} {v : Option Value}, H c = none → s.heap.IsCell c v → s1.heap.IsCell c v := fun {c v} n ⟨o, ho, hd⟩ =>
    (un.any ho n (fun z => nomatch z)).elim fun sl q => ⟨_, q, hd⟩
  have stays : ∀ {c : Addr} {v : Option Value}, H c = none → s.heap.IsCell c v → h₁.IsCell c v := fun {c v} n z => by
    obtain ⟨o, ho, hd⟩ := stay0 n z
    exact ⟨o, kp _ _ ho, hd⟩
  have old : ∀ {y c}, X.env.cells.lookup y = some c → c < s1.heap.objs.size := fun {y c} e => by
    obtain ⟨v, z⟩ := I.cell y c e
    obtain ⟨o, ho, _⟩ := stay0 (I.freeC y c e) z
    exact Heap.lt_size ho
  refine { ok := ?ok, os := rfl, bare := e0.bare, base := Un.kept kp, loc := ⟨_, hns, ?loc⟩, cell := ?cell, free := e0.hok.fresh (Nat.le_refl _), freeC := ?freeC, pin := ?pin, hok := e0.hok.kept kp, len := congrArg (· + 1) I.len }
  case ok =>
    refine { mod := e0.mod, kind := L.kind, glob := rfl, blt := rfl, above := Nat.le_refl _, inj := ?inj, has := ?has, cab := ?cab, hd := fun _ => hd, frames := Around.frames_deeper e0.frames, stk := .inr ⟨rfl, rfl⟩, exf := fun b z => absurd z (noEx b), bs := e0.bs, bsz := e0.bsz, noex := fun b _ _ => noEx b, exfs := fun b z => absurd z (noEx b), funs := e0.funs, frf := e0.frf }
    case inj =>
      intro y z c a b
      rcases L.cases I.ok a with ⟨y1, e1⟩ | ⟨y1, _, e1⟩
      · rcases L.cases I.ok b with ⟨z1, e2⟩ | ⟨z1, _, e2⟩
        · rw [y1, z1]
        · have := old e2
          rw [e1] at this
          exact absurd (Nat.lt_of_succ_lt this) (Nat.lt_irrefl _)
      · rcases L.cases I.ok b with ⟨z1, e2⟩ | ⟨z1, _, e2⟩
        · have := old e1
          rw [e2] at this
          exact absurd (Nat.lt_of_succ_lt this) (Nat.lt_irrefl _)
        · exact I.ok.inj y z c e1 e2
    case has =>
      intro y hy
      have hy2 : scope.names.lookup y = some .cell ∨ scope.names.lookup y = some .free := hy
      rcases hy2 with k | k
      · refine ⟨s1.heap.objs.size + 1, ?_⟩
        rw [L.cellIs k]
        show ((x1, s1.heap.objs.size + 1) :: cloFrom X.env.cells scope.names []).lookup x1 = _
        simp [List.lookup]
      · obtain ⟨c, hc⟩ := got k
        exact ⟨c, L.look hc (L.ne (PySem.mem_of_lookup k))⟩
    case cab =>
      intro y c z
      have z2 : false = true := z
      cases z2
  case loc =>
    intro i y v a b d
    have d2 : Vis scope y := d
    match i with
    | 0 =>
      cases a
      cases b
      refine ⟨u1, r1, .inr ⟨.inl ?_, s1.heap.objs.size + 1, ?_, hcl⟩⟩
      · show scope.names.lookup x1 = some .cell
        rw [L.names]
        simp [List.lookup]
      · show ((x1, s1.heap.objs.size + 1) :: cloFrom X.env.cells scope.names []).lookup x1 = _
        simp [List.lookup]
    | i + 1 =>
      have a2 : X.N[i]? = some y := a
      have b2 : σ[i]? = some (some v) := b
      have dd := L.dis y (List.mem_of_getElem? a2)
      rcases d2 with k | k | k
      · exact absurd k dd.1
      · exact absurd (L.cellIs k) dd.2
      · obtain ⟨m, _, hl⟩ := I.loc
        have out := L.free _ (PySem.mem_of_lookup k) rfl
        obtain ⟨w', r, q⟩ := hl i y v a2 b2 (out.elim (fun k => .inr (.inl k)) fun k => .inr (.inr k))
        obtain ⟨c2, h2⟩ := got k
        refine ⟨w', r, .inr ⟨.inr k, c2, L.look h2 dd.2, ?_⟩⟩
        have c1 := (L.clo I.ok h2).1
        rcases q with ⟨k2, _⟩ | ⟨_, c3, e3, z⟩
        · have k3 : X.env.scope.names.lookup y = some .local := k2
          have o2 : X.env.scope.names.lookup y = some .cell ∨ X.env.scope.names.lookup y = some .free := out
          rcases o2 with o2 | o2 <;> rw [o2] at k3 <;> cases k3
        · rw [c1] at e3
          cases e3
          exact stays (I.freeC y _ c1) z
  case cell =>
    intro y c e
    rcases L.cases I.ok e with ⟨_, e1⟩ | ⟨_, _, e1⟩
    · rw [e1]
      exact ⟨_, hcl⟩
    · obtain ⟨w', z⟩ := I.cell y c e1
      exact ⟨w', stays (I.freeC y c e1) z⟩
  case freeC =>
    intro y c e
    rcases L.cases I.ok e with ⟨_, e1⟩ | ⟨_, _, e1⟩
    · rw [e1]
      exact e0.hok.fresh (Nat.le_succ _)
    · obtain ⟨v, o, ho, hd⟩ := I.cell y c e1
      exact un.free c o ho (I.freeC y c e1) (fun z => nomatch z)
  case pin => exact fun q hq => nomatch (show q ∈ ([] : List (Addr × Obj)) ++ [] from hq)
/-- .. such a lambda -/
theorem actC1 {Ng : List Str} {qg : Str} {sg : Scope} {g f c' : Addr} {cdg pm ctv : Value} {params : Arguments} {body : Expr} {k i : Nat} {a : Str} {tb : TE} (I : Inv X pins σ H s) (L : LamC1 X.env.scope scope X.N x1) (hf : s.heap.get? f = some (vObj X params body scope pm c' ctv)) (hfn : H f = none) (hfr : f ∉ frs X.stack)
    (hbind : ∀ u1, bindArgs (vFn X params body scope pm c' ctv) ⟨[u1], []⟩ = pure [(x1, u1)]) (hr : Room (k + 1) (X.A.deeper (envOfC qg sg s.heap.objs.size g cdg)))
    (hbody : ∀ (A : Around) (outer : List Env) (s : Shared) (H : Hp), Room k (A.deeper (lamEnvC X scope s.heap.objs.size f c' x1)) → PE (lamCxC1 X A outer s H scope f c' x1) body tb)
    (hN : Ng[i]? = some a) (hv : Vis sg a) (hd : (a == ("__debug__" : Str)) = false := by decide) (hcd : (a == ("__classdict__" : Str)) = false := by decide) :
    ActV1 (zCx X Ng qg sg g cdg s H) a i f (fun vs H1 Q => ∃ v1, vs = [v1] ∧ H1 c' = some (CodeO c' (X.env.qual ++ "<lambda>")) ∧ tb (some v1 :: σ) H1 Q) := by
  intro e1 ta p1 p2 ha hst hpl
  refine ⟨fun pinsZ sZ σZ HZ Q IZ h => ?_⟩
  obtain ⟨hs, hta⟩ := h
  refine call_nm (Z := zCx X Ng qg sg g cdg s H) IZ hN hv hd hcd hs rfl fun s1 I1 => ?_
  have kept : ∀ {H2 s2}, Inv (zCx X Ng qg sg g cdg s H) pinsZ σZ H2 s2 → s2.heap.get? f = some (vObj X params body scope pm c' ctv) := fun {H2 s2} I2 =>
    I2.base.keep f _ hf hfn hfr (fun z => nomatch (show f ∈ ([] : List Addr) from z))
  refine PySem.W.callWith_F ⟨_, _, _, _, kept I1⟩ (thn (ha.run p2 pinsZ s1 σZ HZ _ I1 hta) fun us s2 q => ⟨?_, ?_⟩) hst hpl
  · obtain ⟨vs, H2, I2, r2, q2⟩ := q
    exact ⟨_, _, _, _, kept I2⟩
  · obtain ⟨vs, H2, I2, r2, v1, rfl, hc, ht⟩ := q
    obtain ⟨u1, rfl, ra⟩ := vals1 r2
    all_goals
        have un : Un (frs X.stack) [] H H2 s.heap s2.heap := I2.base
        obtain ⟨⟨oc, cs, t, hoc, hdc, hvc⟩, _, _⟩ := I2.hok c' _ hc
        have ran : codeAny (model X.prog X.w) (X.A.deeper (envOfC qg sg s.heap.objs.size g cdg)) (.call (.ref f) ⟨[u1], []⟩) (CR C8.CX0 (envOfC qg sg s.heap.objs.size g cdg :: X.stack) X.prog X.w H2 s2 Q C8.E0) s2 := by
          refine PySem.W.kla_callFunE hr.depth (kept I2) rfl L.co L.gen rfl ⟨c', oc, cs, t, rfl, hoc, hdc, hvc⟩ ?_
          rw [hbind u1]
          refine wpAny_pure (new_c1 L.names (fun y hy => (L.cell y hy).1) L.kind fun h₁ hns hcl kp => ⟨I2.nolimit.keeps kp, ?_⟩)
          have J := lam_startC1 (f := f) (c' := c') I L I2.env0 hr.hd un hns hcl kp ra
          have run := (hbody _ _ s2 H2 (hr.deeper _)).run [] _ _ H2 Q J ht
          exact PySem.W.kla_codeExpr (wpAny_mono run (fun v s' hq => by
              obtain ⟨w', H', J', rv, q⟩ := hq
              exact ⟨w', H', J'.os, J'.bare, J'.base, J'.hok, rv, q⟩) fun e s' hq => hq.elim)
        refine wpAny_call (codeAny_mono ran fun r s' hq => ?_)
        cases r with
        | error e => exact hq.elim
        | ok fl =>
          cases fl with
          | ret u => exact I2.after hq
          | next => exact hq.elim
          | brk => exact hq.elim
          | cont => exact hq.elim
end
end Lf

set_option Elab.async false
set_option linter.all false
set_option maxRecDepth 100000
set_option maxHeartbeats 4000000
/-! A head by three kernel runs: the looks, the view, the facts; the facts over the objects at the addresses as. -/
namespace Lf
open PySem PySem.W PySem.Calls PyProof.Rows
/-- classes, dicts, functions and the rest, in this order -/
def isCl : Obj → Bool
  | ⟨_, _, .cls _, _⟩ => true
  | _ => false
def isDi : Obj → Bool
  | ⟨_, _, .dict _ _, _⟩ => true
  | _ => false
def isFu : Obj → Bool
  | ⟨_, _, .func _, _⟩ => true
  | _ => false
def isFi : Obj → Bool
  | ⟨_, _, .fields vs, _⟩ => !vs.isEmpty
  | _ => false
/-- tuples: the defaults of defs -/
def isTu : Obj → Bool
  | ⟨.type "tuple", _, .seq _ _, _⟩ => true
  | _ => false
def sorted4 (l : Frag) : Frag := l.filter (fun q => isCl q.2) ++ (l.filter (fun q => isDi q.2) ++ (l.filter (fun q => isFu q.2) ++ (l.filter (fun q => isFi q.2) ++ l.filter fun q => isTu q.2)))
theorem sorted4_sub {l : Frag} {q : Addr × Obj} (h : q ∈ sorted4 l) : q ∈ l := by
  unfold sorted4 at h
  simp only [List.mem_append, List.mem_filter] at h
  rcases h with h | h | h | h | h <;> exact h.1
def frR (g : Addr → Option Obj) (as : List Addr) : Frag := sorted4 (He.frG g as)
theorem frR_in {as : List Addr} {h : Heap} : (frR h.get? as).In h := fun _ _ e => He.frG_mem (sorted4_sub (He.lookup_mem e))
theorem frR_none {g : Addr → Option Obj} {as : List Addr} {a : Addr} {o : Obj} (h : g a = some o) (ht : He.emptyTab o = true) : (frR g as).lookup a = none := by
  cases e : (frR g as).lookup a with
  | none => rfl
  | some u =>
    have m := He.lookup_mem e
    have z := He.frG_mem (sorted4_sub m)
    rw [h] at z
    obtain rfl := Option.some.inj z
    rw [He.emptyTab_eq ht] at m
    unfold frR sorted4 at m
    simp only [List.mem_append, List.mem_filter] at m
    rcases m with m | m | m | m | m <;> exact absurd m.2 (by decide)
/-- what is told: the facts, the Bool, the defs' code tables: empty, not among the objects looked at -/
structure SaysR (fa : List He.Fa) (fn : List He.DefD) (tf : List He.Defn) (ex : Frag → Bool) (h : Heap) (K : Frag) : Prop where
  d : He.SaysD fa fn K
  m : ex K = true
  hd : ∀ p ∈ tf, codeHdIn K (He.cT K p).1 (He.cT K p).2 = true
  out : ∀ p ∈ tf, K.lookup (He.cT K p).2 = none
  empty : ∀ p ∈ tf, h.get? (He.cT K p).2 = some { cls := .none, data := .fields #[] }
def obsR (as : List Addr) (fa : List He.Fa) (fn : List He.DefD) (tf : List He.Defn) (ex : Frag → Bool) (g : Addr → Option Obj) : He.AlD × Bool :=
  (He.obsD fa fn (frR g as), ex (frR g as) && He.tabsB g tf (frR g as))
theorem saysR_of {as : List Addr} {fa : List He.Fa} {fn : List He.DefD} {tf : List He.Defn} {ex : Frag → Bool} {h : Heap} (e : obsR as fa fn tf ex h.get? = (He.valD fn, true)) : SaysR fa fn tf ex h (frR h.get? as) := by
  obtain ⟨h1, h2⟩ := He.ba (show (ex (frR h.get? as) && He.tabsB h.get? tf (frR h.get? as)) = true from congrArg Prod.snd e)
  have key : ∀ p ∈ tf, codeHdIn (frR h.get? as) (He.cT (frR h.get? as) p).1 (He.cT (frR h.get? as) p).2 = true ∧ ∃ o, h.get? (He.cT (frR h.get? as) p).2 = some o ∧ He.emptyTab o = true := fun p hp => by
    obtain ⟨k1, k2⟩ := He.ba (List.all_eq_true.mp h2 p hp)
    refine ⟨k1, ?_⟩
    cases q : h.get? (He.cT (frR h.get? as) p).2 with
    | none => rw [q] at k2; cases k2
    | some o => rw [q] at k2; exact ⟨o, rfl, k2⟩
  refine ⟨congrArg Prod.fst e, h1, fun p hp => (key p hp).1, fun p hp => ?_, fun p hp => ?_⟩
  · obtain ⟨_, o, q, z⟩ := key p hp
    exact frR_none q z
  · obtain ⟨_, o, q, z⟩ := key p hp
    rw [q, He.emptyTab_eq z]
def hookR (as : List Addr) (fa : List He.Fa) (fn : List He.DefD) (tf : List He.Defn) (ex : Frag → Bool) : Hook where
  α := He.AlD × Bool
  obs := fun s => obsR as fa fn tf ex s.heap.get?
  val := fun _ => (He.valD fn, true)
  says := fun _ h => ∃ K : Frag, K.In h ∧ SaysR fa fn tf ex h K
  of := fun _ _ e => ⟨_, frR_in, saysR_of e⟩
  keeps := fun _ _ _ ⟨K, hK, c⟩ k => ⟨K, Frag.In.keeps hK k, ⟨c.d, c.m, c.hd, c.out, fun p hp => k _ _ (c.empty p hp)⟩⟩
theorem obsR_eq {as : List Addr} {fa : List He.Fa} {fn : List He.DefD} {tf : List He.Defn} {ex : Frag → Bool} {g : Addr → Option Obj} {s : Shared} (h : ∀ a, g a = s.heap.get? a) : obsR as fa fn tf ex g = (hookR as fa fn tf ex).obs s := by
  have e : g = s.heap.get? := funext h
  rw [e] <;> rfl
theorem three {α A B C : Type} {o : Option α} {f : α → A} {g : α → B} {h : α → C} {a : A} {b : B} {c : C} (x : o.map f = some a) (y : o.map g = some b) (z : o.map h = some c) : o.map (fun s => (f s, g s, h s)) = some (a, b, c) := by
  cases o with
  | none => cases x
  | some s =>
    have x1 : f s = a := Option.some.inj x
    have y1 : g s = b := Option.some.inj y
    have z1 : h s = c := Option.some.inj z
    show some (f s, g s, h s) = _
    rw [x1, y1, z1]
/-- the state behind the top -/
noncomputable def endOf (r : OpenRow) (M : Nat) (w : World) (os : OsState) : Option SharedT := HandSHeadRun.endF (HandSHeadRun.stepQ (HandSHeadRun.denQ HandSHeadRun.tabQ) r.prog w) M r.prog w os
noncomputable def looksOf (r : OpenRow) (w : World) (s : SharedT) : Bool := HandSHeadRun.looksF r.prog (boot_heap w.params) s.abs
noncomputable def viewOf (r : OpenRow) (q : Program) (loose : List PySem.Str) (s : SharedT) := HandSHeadRun.seenQ q loose (importedModules r.prog.main.body) (fun s => xlAt q [] s && recOk r.toRowW.records s) s.abs
theorem run_three {r : OpenRow} {q : Program} {H : Hook} {ob : SharedT → H.α} {M : Nat} {loose : List PySem.Str} {w : World} (a : ∀ os, (endOf r M w os).map (looksOf r w) = some true)
    (b : ∀ os, (endOf r M w os).map (viewOf r q loose) = some (openGood q loose)) (c : ∀ os, (endOf r M w os).map ob = some (H.val w)) : HandSHeadRun.RunEq r q H ob M loose w := fun os => three (a os) (b os) (c os)
end Lf

set_option Elab.async false
set_option linter.all false
set_option maxRecDepth 100000
set_option maxHeartbeats 4000000
/-! sorted(xs, key=lambda p: p[1]) of pairs (a thing, a text) that are in order already. -/
namespace Lf
open PySem PySem.Spec PyProof.Rows L2 LamX
abbrev lamArgs (x : Str) (p : Pos) : Arguments := { posonlyargs := [], args := [{ arg := x, annotation := none, pos := p }], vararg := none, kwonlyargs := [], kw_defaults := [], kwarg := none, defaults := [] }
abbrev lamScope (x : Str) : Scope := { kind := .function, names := [(x, .local)], isGenerator := false, isCoroutine := false }
abbrev lamBody (x : Str) (p1 p2 p3 : Pos) (j : Nat) : Expr := .Subscript (.Name x p1) (.Constant (.int 1) j p2) p3
section
variable {prog : Program} {w : World} {A : Around} {s : Shared}
/-- the lambda called on a pair -/
theorem lam_key {f c' t : Addr} {x qual u : Str} {pp p1 p2 p3 : Pos} {j : Nat} {pm ctv v0 : Value} {tk : Tok} (hx : (x == ("__debug__" : Str)) = false) (hd : A.depth < recursionLimit) (lim : s.heap.NoLimit)
    (hf : s.heap.get? f = some (PySem.W.kla_obj "<lambda>" qual (lamArgs x pp) (lamBody x p1 p2 p3 j) (lamScope x) [] pm c' ctv))
    (hb : bindArgs (PySem.W.kla_fn "<lambda>" qual (lamArgs x pp) (lamBody x p1 p2 p3 j) (lamScope x) [] pm (.ref c') ctv) ⟨[.ref t], []⟩ = pure [(x, .ref t)])
    (hc : ∃ (oc : Obj) (vs : Array Value) (t : Tok), s.heap.get? c' = some oc ∧ oc.data = .fields vs ∧ vs[1]? = some (.str qual t)) (ht : IsTup s.heap t #[v0, .str u tk]) :
    wpAny (model prog w) A (call (.ref f) [.ref t]) (PySem.W.KeyPure (.str u) s) (fun _ _ => False) s := by
  obtain ⟨oc, vs, t', hoc, hdc, hvc⟩ := hc
  refine wpAny_call (PySem.W.kla_callFunE hd hf rfl rfl rfl rfl ⟨c', oc, vs, t', rfl, hoc, hdc, hvc⟩ ?_)
  rw [hb]
  refine wpAny_pure (wpAny_newFunctionEnv (fun y hy => ?_) (fun y hy => ?_) (fun h₁ hns hsb => ⟨lim.fresh _ hsb, ?_⟩) rfl)
  · cases List.mem_singleton.mp hy
    intro z
    cases z
  · cases List.mem_singleton.mp hy
    show ([(x, NameKind.local)] : List (Str × NameKind)).lookup x = _
    simp
  · have kp : ∀ b o, s.heap.get? b = some o → h₁.get? b = some o := fun b o e => hsb.extBut b o (Nat.ne_of_lt (Heap.lt_size e)) (Heap.get?_push_of_some _ e)
    refine PySem.W.kla_codeExpr (Subscript_ (wpAny_Name (wpAny_loadName_local (v := .ref t) rfl ?_ hns ?_ ?_) hx))
    · show ([(x, NameKind.local)] : List (Str × NameKind)).lookup x = _
      simp
    · simp
    · refine wpAny_Constant_int ?_
      refine item_tuple (j := 1) (x := .str u tk) (items := #[v0, .str u tk]) ?_ (by decide) (by decide) (by rfl) (by rfl) ?_
      · exact ht.keeps kp
      · exact ⟨h₁, _, rfl, kp, .str u tk⟩
end
/-- a thing and a text, the place of their pair -/
abbrev Pt3 := Addr × V × Str
abbrev keyLe (b c : Pt3) : Prop := b.2.2.cps.toList ≤ c.2.2.cps.toList
def tSrtLam (K : PySem.W.Frag) (T : List (Addr × Str)) (te : TE) : TE := fun σ H Q => te σ H fun v H1 => ∃ (a : Addr) (bs : List Pt3), v = .ref a ∧ SqL K H1 a (bs.map fun b => V.ref b.1) ∧ (∀ b ∈ bs, H1 b.1 = some (.tup [b.2.1, .str b.2.2])) ∧ bs.Pairwise keyLe ∧ Tabs T H1 ∧
  ∀ p H2, ExtN H1 H2 → Tabs T H2 → (∀ o, H1 p = some o → ∃ ps, o = .tbl ps) → H2 p = some (.lst (bs.map fun b => V.ref b.1)) → Q (.ref p) H2
theorem vals_refs3 : ∀ {bs : List Pt3} {its : List Value}, Vals (bs.map fun b => V.ref b.1) its → PySem.W.EachIs (fun (v : Value) (b : Pt3) => v = Value.ref b.1) its bs
  | [], _, .nil => .nil
  | b :: bs, _ :: _, .cons r t => .cons r (vals_refs3 t)
theorem refs3_vals : ∀ {bs : List Pt3} {its : List Value}, PySem.W.EachIs (fun (v : Value) (b : Pt3) => v = Value.ref b.1) its bs → Vals (bs.map fun b => V.ref b.1) its
  | [], _, .nil => .nil
  | b :: bs, _ :: _, .cons r t => .cons r (refs3_vals t)
section
variable {X : Cx}
theorem sqL_extN {K : PySem.W.Frag} {H H' : Hp} {a : Addr} {xs : List V} (e : ExtN H H') (h : SqL K H a xs) : SqL K H' a xs := by
  rcases h with (h | ⟨o, h⟩) | h
  · exact .inl (.inl (e _ _ h (fun ps z => by cases z)))
  · exact .inl (.inr ⟨o, e _ _ h (fun ps z => by cases z)⟩)
  · exact .inr h
theorem sqT_extN {K : PySem.W.Frag} {H H' : Hp} {a : Addr} {xs : List V} (e : ExtN H H') (h : SqT K H a xs) : SqT K H' a xs := by
  rcases h with (h | ⟨o, h⟩) | h
  · exact .inl (.inl (e _ _ h (fun ps z => by cases z)))
  · exact .inl (.inr ⟨o, e _ _ h (fun ps z => by cases z)⟩)
  · exact .inr h
theorem pe_sortedLam {T : List (Addr × Str)} {c P : Addr} {k : Nat} {x y : Str} {te : TE} {py pp p p1 p2 p3 lpos kpos pos : Pos} {j : Nat} (hr : Room (k + 2) X.A) (hg : Gl X "sorted") (hm : X.mg "sorted" = none) (hx : (x == ("__debug__" : Str)) = false)
    (TB : TabB X.base X.mg c P) (hcode : X.env.code = .ref c) (hmT : (P, X.env.qual ++ "<lambda>") ∈ T) (hu : ∀ p ∈ T, p.1 = P → p.2 = X.env.qual ++ "<lambda>") (ha : PE X (.Name y py) te)
    (hbind : ∀ (q : Str) (pm cv ctv u : Value), bindArgs (PySem.W.kla_fn "<lambda>" q (lamArgs x pp) (lamBody x p1 p2 p3 j) (lamScope x) [] pm cv ctv) ⟨[u], []⟩ = pure [(x, u)]) :
    PE X (.Call (.Name "sorted" p) [.Name y py] [⟨some "key", .Lambda (lamArgs x pp) (lamBody x p1 p2 p3 j) (lamScope x) lpos, kpos⟩] pos) (tSrtLam X.K T te) := by
  refine ⟨fun pins s σ H Q I h => ?_⟩
  have hv : bootBuiltins "sorted" = some (.builtin "sorted") := by kernel_rfl
  refine wpAny_Call_Name_kw (ld_blt I hg hm hv ?_)
  refine PyProof.Rows.callWith_kw (Calls.spliced_cons (thn (ha.run pins s σ H _ I h) fun u s1 hq => Calls.spliced_nil ?_))
  obtain ⟨v, H1, I1, r1, a, bs, rfl, hs, hbs, hord, hT, q⟩ := hq
  obtain rfl : u = Value.ref a := r1
  show wpAny _ _ (evalAll ((do let v ← eval (.Lambda (lamArgs x pp) (lamBody x p1 p2 p3 j) (lamScope x) lpos) X.env; standAt pos; pure v) :: [])) _ _ s1
  refine wpAny_evalAll_cons (wpAny_bind (lam_make2 I1 TB hcode hmT hu hT (by rfl) (fun y hy e => ?_) fun f c' pm ctv H2 s2 I2 eN T2 hf hfn hfr hco => wpAny_bind (wpAny_standAt (wpAny_pure (wpAny_evalAll_nil ?_)))))
  · cases List.mem_singleton.mp hy
    cases e
  show wpAny _ _ (call (.builtin "sorted") [.ref a] [(Str.ofString "key", .ref f)]) _ _ s2
  obtain ⟨its, rv, hl, hz⟩ := I2.list (sqL_extN eN hs)
  rw [List.length_map] at hz
  have hbs2 : ∀ b ∈ bs, H2 b.1 = some (.tup [b.2.1, .str b.2.2]) := fun b hb => eN _ _ (hbs b hb) (fun ps z => by cases z)
  refine PySem.W.sorted_key_data (R := fun (v : Value) (b : Pt3) => v = Value.ref b.1) (bs := bs) (b := false) (fun b => .str b.2.2) hl.isList (vals_refs3 rv) (fun d hd d' hd' => ?_) (.inr fun d hd => ?_) hz (fun b hb => ?_) (ksk_s1 _ _) (fun _ => ksk_l1 _ _) (fun x => ksk_t1 f x) (fun v b e hb h tk kp => ?_) (fun out c1 h' tk kp nf hout lo eo => ?_)
  · obtain ⟨b, _, rfl⟩ := List.mem_map.mp hd
    obtain ⟨b', _, rfl⟩ := List.mem_map.mp hd'
    rfl
  · obtain ⟨b, _, rfl⟩ := List.mem_map.mp hd
    exact ⟨(fun z => by cases z), (fun xs z => by cases z)⟩
  · have := hr.un
    have e : (PyData.str b.2.2).depth ≤ 1 := by simp [PyData.depth]
    omega
  · subst e
    obtain ⟨its2, rv2, ht2, _⟩ := I2.tuple (.inl (.inl (hbs2 b hb)))
    obtain ⟨v0, v1, rfl, e0, e1⟩ := vals2 rv2
    obtain ⟨tk1, rfl⟩ := e1
    obtain ⟨oc, vs, t, e1, e2, e3⟩ := (I2.hok c' _ hco).1
    refine lam_key (s := { s2 with heap := h, toks := tk }) hx ?_ (I2.nolimit.keeps kp) (kp _ _ hf) (hbind _ _ _ _ _) ⟨oc, vs, t, kp _ _ e1, e2, e3⟩ (ht2.keeps kp)
    have := hr.dp
    show X.A.depth < _
    omega
  · have em : bs.mergeSort (PySem.W.dataLe false fun b : Pt3 => .str b.2.2) = bs := by
      rw [PySem.W.dataLe_str]
      exact List.mergeSort_of_pairwise (hord.imp fun h => decide_eq_true h)
    rw [em] at eo
    have np : H2 (s2.heap.objs.size + 1) = none := I2.hok.fresh (Nat.le_succ _)
    have hlen : (bs.map fun b : Pt3 => V.ref b.1).length ≤ sizeLine := by rw [List.length_map]; exact hz
    refine ⟨.ref _, upd H2 (s2.heap.objs.size + 1) (.lst (bs.map fun b => V.ref b.1)), I2.laid kp (Nat.le_succ _) ⟨hlen, out, c1, refs3_vals eo, hout⟩, rfl, q _ _ (eN.trans (ExtN.of fun b o e => by rw [upd_ne (ne_of_none e np)]; exact e)) (T2.ext fun b o e => by rw [upd_ne (ne_of_none e np)]; exact e) (fun o ho => ?_) upd_same⟩
    cases hq : H1 (s2.heap.objs.size + 1) with
    | none => rw [hq] at ho; cases ho
    | some u =>
      rw [hq] at ho
      cases ho
      by_cases ht : ∃ ps, o = .tbl ps
      · exact ht
      · have := eN _ _ hq (fun ps z => ht ⟨ps, z⟩)
        rw [np] at this
        cases this
end
end Lf
namespace Lf
open PySem PySem.Spec PyProof.Rows L2 LamX
section
variable {P : Program} {w : World} {K : PySem.W.Frag} {mg : Str → Option Value} {base : Heap} {x qual : Str} {params : Arguments} {body : List Stmt} {scope : Scope} {dvs : List V} {kws : List (Str × V)} {fd : FuncData} {a : He.Defn}
/-- a def's promise, its code object told -/
theorem okC {CX : CXT} {N ps : List Str} {k : Nat} {sp : Sp} (F : FunD K x qual params body scope dvs kws (He.fAd K a) fd) (S : FnScope N ps scope) (len : ∀ vs H Q E, sp vs H Q E → vs.length = ps.length)
    (hb : ∀ (A : Around) (outer : List Env) (s : Shared) (H : Hp) (vs : List V) (Q : VK) (E : XK), Room k (A.deeper (envOfC qual scope s.heap.objs.size (He.fAd K a) (.ref (He.codeOf K a)))) → sp vs H Q E →
      ∃ t, PSs (cxOf CX P w K mg base N qual scope (He.fAd K a) (.ref (He.codeOf K a)) A outer s H E) body t ∧ t { nx := fun _ H' => Q .non H', rt := Q } (L2.start N vs) H) : FnOk P w K mg base CX (k + 1) (He.fAd K a) fd ps sp := by
  obtain ⟨oc, od, dV, kV, doc, pm, an, cdv, ct, osl, rfl, lk, hcd, _, _⟩ := F.ex
  obtain ⟨c, rfl⟩ := He.codeIn_ref hcd
  have e := He.codeOf_eq lk rfl
  subst e
  exact fn_of lk hcd S len hb
end
end Lf

set_option Elab.async false
set_option linter.all false
set_option maxRecDepth 100000
set_option maxHeartbeats 8000000
namespace K69
open PySem PySem.Spec PyProof.Rows L2 Lf LamX
abbrev qWw : Str := ("_what_words_do" : Str) ++ ".<locals>." ++ "<lambda>"
abbrev tbW (K : PySem.W.Frag) : List (Addr × Str) := [((He.cT K dWw).2, qWw)]
def scWwL : Scope := { kind := .function, names := [("ends", .cell), ("letters", .free), ("rows", .free)], isGenerator := false, isCoroutine := false, more := [("fast", .str "ends"), ("fast", .str "letter"), ("fast", .str "end"), ("fast", .str "letters"), ("fast", .str "rows")] }
def scWwA : Scope := { kind := .function, names := [(".0", .local), ("letter", .cell), ("tuple", .globalImplicit), ("ends", .cell), ("rows", .free)], isGenerator := false, isCoroutine := false }
abbrev NWl : List Str := "ends" :: NWw
theorem ndWl : NWl.Nodup := by decide +kernel
theorem refs_of : ∀ {ys : List V}, (∀ y ∈ ys, ∃ e : Addr, y = .ref e) → ∃ es : List Addr, ys = es.map V.ref
  | [], _ => ⟨[], rfl⟩
  | y :: ys, h => by
    obtain ⟨e, rfl⟩ := h y List.mem_cons_self
    obtain ⟨es, he⟩ := refs_of fun z hz => h z (List.mem_cons_of_mem _ hz)
    exact ⟨e :: es, by rw [he]; rfl⟩
theorem idm_at {n i : Nat} (h : i < n) : (Mon.idm n)[i]? = some i := List.getElem?_range h
theorem idm_len {n : Nat} : (Mon.idm n).length = n := List.length_range
theorem scWw : FnScope NWw ["rows"] (defScope s_what_words_do) := ⟨rfl, rfl, rfl, by decide +kernel, rfl, by decide +kernel, by decide +kernel⟩
def spWhat (K : PySem.W.Frag) : Sp := fun vs H Q _ => ∃ r rows wd, vs = [.ref r] ∧ RowsL K H r rows ∧ FormM rows wd ∧ rows.length ≤ 4 ∧ Tabs (tbW K) H ∧
  ∀ Tt pf pn pr as bs found rws m H', ExtN H H' → Tabs (tbW K) H' → H' Tt = some (.tup [.ref pf, .ref pr]) → LayF H' pf pn pr as bs found rws → Mon.Tab rows.length (cols wd rows) found rws → Mon.madeTab 0 rws [] = some m → m.length + 1 = rws.length → Q (.ref Tt) H'
abbrev teWwI (K : PySem.W.Frag) : TE := tOp (rIxL K) (tOp (rIxL K) (tVar 1) (tVar 4)) (tVar 3)
abbrev teWwE (K : PySem.W.Frag) : TE := tCB (rTup K) (tCons (tLc (iTup K (tVar 0)) (gName 4) tYes (teWwI K) [4]) tNil)
abbrev teWw (K : PySem.W.Frag) : TE := tLc (iList K (tVar 2)) (gName 3) tYes (teWwE K) [3]
/-- what the call of found_from asks where the lambda is handed over -/
def TTW (K : PySem.W.Frag) (f c' : Addr) (σ : L2.St) (vs : List V) (H : Hp) (Q : VK) : Prop := ∃ (a : Addr) (n : Nat) (gens : List (List Nat)), vs = [.ref a, .ref f, .int 500] ∧ H a = some (.tup ((Mon.idm n).map nv)) ∧ 1 ≤ n ∧ n ≤ 4 ∧ (∀ g ∈ gens, Mon.Valid n g) ∧ 1 ≤ gens.length ∧ gens.length ≤ 6 ∧
  (∀ H1 b x Q1, Same H H1 → H1 b = some (.tup (x.map nv)) → Mon.Valid n x → (∀ p (es : List Addr) H2, Same H1 H2 → H1 p = none → H2 p = some (.lst (es.map V.ref)) → es.length = gens.length → (∀ (c : Nat) e gg, es[c]? = some e → gens[c]? = some gg → H2 e = some (.tup ((Mon.comp x gg).map nv))) → Q1 (.ref p) H2) →
    ∃ v1, [V.ref b] = [v1] ∧ H1 c' = some (CodeO c' qWw) ∧ teWw K (some v1 :: σ) H1 Q1) ∧
  ∀ Tt pf pn pr as bs found rows m H', Same H H' → H' Tt = some (.tup [.ref pf, .ref pr]) → LayF H' pf pn pr as bs found rows → Mon.Tab n gens found rows → Mon.madeTab 0 rows [] = some m → m.length + 1 = rows.length → Q (.ref Tt) H'
section
variable {P : Program} {w : World} {K : PySem.W.Frag} {mg : Str → Option Value} {base : Heap}
theorem ok_ww {fd : FuncData} (F : FunD K "_what_words_do" "_what_words_do" (defArgs s_what_words_do) (defBody s_what_words_do) (defScope s_what_words_do) [] [] (He.fAd K dWw) fd) (T : Txt P w K mg base) (TB : TabB base mg (He.cT K dWw).1 (He.cT K dWw).2) :
    FnOk P w K mg base CX0 4 (He.fAd K dWw) fd ["rows"] (spWhat K) := by
  have zn : mg "len" = none := T.fr 59 "len" rfl
  have zr : mg "range" = none := T.fr 63 "range" rfl
  have zt : mg "tuple" = none := T.fr 66 "tuple" rfl
  have zl : mg "list" = none := T.fr 60 "list" rfl
  obtain ⟨tM, gMF⟩ := T.it 49 "MOST_FOUND" 500 rfl
  obtain ⟨fdF, FF⟩ := T.d.def_ 30 (d := d_found_from) rfl
  obtain ⟨dsF, vsF, bsF⟩ := FF.binds1 (ps := ["first", "moves", "most"]) 3 1 (by intro z; cases z) rfl fun T kV doc pm an cdv ct us its hl hi => match us, its, hl, hi with | [_, _, _], [_], _, _ => ⟨_, rfl, rfl⟩
  have ed : dsF = [] := by
    cases vsF
    rfl
  subst ed
  have kF := FF.kp
  have gF := T.gl 24 "found_from" rfl
  obtain ⟨oc, od, dV, kV, doc, pmF, an, cdF, ct, osl, rfl, lkF, cdFh, _, _⟩ := FF.ex
  refine okC (a := dWw) F scWw (fun vs H Q E h => ?_) (fun A outer s H vs Q E hr h => ?_)
  · obtain ⟨r, rows, wd, rfl, _⟩ := h
    rfl
  · obtain ⟨r, rows, wd, rfl, R, FM, n4, tb, k⟩ := h
    refine ⟨_, PSs.nox (pss_cons (ps_set (i := 1) scWw.nd rfl (.inr rfl) (pe_listRg rfl rfl zl (prg_1 rfl zr (pe_callB call_len_seq rfl zn boot_len (pa_cons (pe_ix ix_list (pv 0) pe_int (fun _ _ => rfl)) pa_nil)))))
      (pss_one (ps_ret (pe_inlM (T := tbW K) (c := (He.cT K dWw).1) (P := (He.cT K dWw).2) (Ng := NFf) (ps := ["first", "moves", "most"]) (k := 2) (TT := TTW K) rfl gF kF lkF cdFh bsF scFf hr
        (pe_tupRg rfl rfl zt (prg_1 rfl zr (pe_callB call_len_seq rfl zn boot_len (pa_cons (pv 0) pa_nil)))) (pe_gint rfl gMF) rfl TB rfl (.head _) (fun q hq e => by rw [List.mem_singleton.mp hq]; rfl) (show LamC1 (defScope s_what_words_do) scWwL NWw "ends" from lamC1_by (by decide +kernel)).free rfl
        (fun f c' pmv ctv σ H s v1 v3 Q pns I h room => ?_))))), ?_⟩
    · obtain ⟨a, n, gens, ev, ha, n1, n4', gv, g1, g4, hrr, kk⟩ := h
      cases ev
      obtain ⟨hf, hfn, hfr⟩ := pin_at1 I
      refine ff T (room.mono (by decide)) (actC1 (k := 1) (x1 := "ends") (tb := teWw K) I (show LamC1 (defScope s_what_words_do) scWwL NWw "ends" from lamC1_by (by decide +kernel)) hf hfn hfr (fun _ => rfl) room (fun A1 o1 s1 H1 h2 => ?_) rfl (.inl rfl)) ha n1 n4' gv g1 g4 hrr kk
      refine pe_lc (own := [("letter", 3)]) (g := gName 3) (te := teWwE K) (by rfl) ndWl (pi_list (pv 2)) (blkOk_by (own := [("letter", 3)]) (N := NWl) (sc := scWwL) (by decide +kernel)) (fun _ _ _ _ _ => ?_) (fun _ _ _ _ _ => pts_nil) (fun _ _ _ _ _ => ?_)
      · exact pg_name (i := 3) ndWl rfl (Or.inr rfl)
      · refine pe_callTy call_tuple_of rfl zt PyProof.Rows.boot_tuple (pa_cons ?_ pa_nil)
        refine pe_lc (own := [("end", 4)]) (g := gName 4) (te := teWwI K) (by rfl) ndWl (pi_tup (pv 0)) (blkOk_by (own := [("end", 4)]) (N := NWl) (sc := scWwA) (by decide +kernel)) (fun _ _ _ _ _ => ?_) (fun _ _ _ _ _ => pts_nil) (fun _ _ _ _ _ => ?_)
        · exact pg_name (i := 4) ndWl rfl (Or.inl rfl)
        · exact pe_ix ix_list (pe_ix ix_list (pv 1) (pv 4) (fun _ _ => rfl)) (pv 3) (fun _ _ => rfl)
    · obtain ⟨gs, sR, lg, eg⟩ := id R.ex
      obtain ⟨a0, ha0⟩ := lt_get (show 0 < gs.length by have := FM.1; omega)
      obtain ⟨r0, hr00⟩ := lt_get (show 0 < rows.length by have := FM.1; omega)
      have lr0 := (FM.2.2.2 r0 (List.mem_of_getElem? hr00)).1
      have w1 := FM.2.1
      have w4 := FM.2.2.1
      refine ⟨_, rfl, r, gs.map V.ref, 0, .ref a0, rfl, rfl, sR, atI_nat (j := 0) (get_map ha0), a0, r0.map nv, rfl, .inl (eg 0 a0 r0 ha0 hr00), (wd : Nat), by rw [List.length_map, lr0], ⟨by decide, by decide, by omega, by omega, by omega⟩, fun pl npl => ?_⟩
      rw [rgV_nv]
      have s1 := same_upd (o := .lst ((Mon.idm wd).map nv)) npl
      have hp1 : L2.upd H pl (.lst ((Mon.idm wd).map nv)) pl = some (.lst ((Mon.idm wd).map nv)) := upd_same
      generalize L2.upd H pl (.lst ((Mon.idm wd).map nv)) = H1 at s1 hp1 ⊢
      refine ⟨_, rfl, r, gs.map V.ref, rfl, .inl (L2.Same.seq s1 sR), (rows.length : Nat), by rw [List.length_map, lg], ⟨by decide, by decide, by omega, by omega, by omega⟩, fun a na => ?_⟩
      rw [rgV_nv]
      have s2 := s1.trans (same_upd (o := .tup ((Mon.idm rows.length).map nv)) na)
      have hp2 := same_upd (o := .tup ((Mon.idm rows.length).map nv)) na _ _ hp1
      have ha2 : L2.upd H1 a (.tup ((Mon.idm rows.length).map nv)) a = some (.tup ((Mon.idm rows.length).map nv)) := upd_same
      generalize L2.upd H1 a (.tup ((Mon.idm rows.length).map nv)) = H2 at s2 hp2 ha2 ⊢
      refine ⟨tb.ext s2, fun f c' H3 eN tb3 hc => ?_⟩
      have hp3 := eN _ _ hp2 fun _ z => nomatch z
      refine ⟨a, rows.length, cols wd rows, rfl, eN _ _ ha2 (fun _ z => nomatch z), FM.1, n4, cols_valid FM, by rw [cols_len]; exact w1, by rw [cols_len]; omega, fun H4 b x Q1 s4 hb vx kk => ⟨_, rfl, s4 _ _ hc, ?_⟩, fun Tt pf pn pr as bs found rws m H' s' h1 L Tb hm lm => k Tt pf pn pr as bs found rws m H' (((ExtN.of s2).trans eN).trans (ExtN.of s')) (tb3.ext s') h1 L Tb hm lm⟩
      have sR4 : SqL K H4 r (gs.map V.ref) := L2.Same.seq s4 (sqL_extN eN (L2.Same.seq s2 sR))
      have eg4 : ∀ (i : Nat) a row, gs[i]? = some a → rows[i]? = some row → SqL K H4 a (row.map nv) := fun i a row h1 h2 => L2.Same.seq s4 (sqL_extN eN (L2.Same.seq s2 (eg i a row h1 h2)))
      refine tlc_listE (K := K) (a := pl) (xs := (Mon.idm wd).map nv) (Re := fun c y H' => ∃ e : Addr, y = .ref e ∧ ∀ gg, (cols wd rows)[c]? = some gg → H' e = some (.tup ((Mon.comp x gg).map nv))) (fun R h => ⟨_, rfl, h⟩) (SqL.of (s4 _ _ hp3)) (by rw [List.length_map, idm_len]; show wd ≤ 16777216; omega) (fun x => by rfl) (fun c z hz => ?_) (fun D H' ys nD sD hD ly hy => ?_)
      · obtain ⟨c0, hc0, rfl⟩ := map_get hz
        have cw : c < wd := by have := get_lt hc0; rw [idm_len] at this; exact this
        have e0 := (idm_at cw).symm.trans hc0
        cases e0
        intro D Hc acc Q' nD sc hD ke
        refine tcb_k (tlc_tupE (K := K) (a := b) (xs := x.map nv) (Re := fun j y _ => ∃ xi, x[j]? = some xi ∧ y = nv ((rows.map fun r => r.getD c 0).getD xi 0)) (fun R h => ⟨_, rfl, h⟩) (SqT.of (sc _ _ hb)) (by rw [List.length_map, vx.1]; show rows.length ≤ 16777216; omega) (fun x => by rfl) (fun j z hz => ?_) (fun D' H' ys nD' sD' hD' ly hy => ?_))
        · obtain ⟨xi, hxi, rfl⟩ := map_get hz
          intro D2 Hd acc2 Q2 nD2 sd hD2 ke2
          have xl : xi < rows.length := vx.2 xi (List.mem_of_getElem? hxi)
          obtain ⟨ax, hax⟩ := lt_get (show xi < gs.length by omega)
          obtain ⟨rx, hrx⟩ := lt_get xl
          have lrx := (FM.2.2.2 rx (List.mem_of_getElem? hrx)).1
          obtain ⟨e, he⟩ := lt_get (show c < rx.length by omega)
          have ge : (rows.map fun r => r.getD c 0).getD xi 0 = e := by
            refine Mon.getD_of ?_
            rw [List.getElem?_map, hrx]
            show some (rx.getD c 0) = some e
            rw [Mon.getD_of he]
          refine ⟨_, rfl, _, rfl, r, gs.map V.ref, _, .ref ax, rfl, rfl, L2.Same.seq (sc.trans sd) sR4, atI_nat (get_map hax), _, rfl, ax, rx.map nv, _, nv e, rfl, rfl, L2.Same.seq (sc.trans sd) (eg4 xi ax rx hax hrx), atI_nat (get_map he), ?_⟩
          exact ke2 _ _ (L2.Same.refl _) fun H' _ => ⟨xi, hxi, by rw [ge]⟩
        · rw [List.length_map] at ly
          have ey : ys = (Mon.comp x (rows.map fun r => r.getD c 0)).map nv := by
            refine List.ext_getElem? fun j => ?_
            by_cases hj : j < ys.length
            · obtain ⟨y, hy'⟩ := lt_get hj
              obtain ⟨xi, hxi, rfl⟩ := hy j y hy'
              rw [hy', List.getElem?_map]
              show _ = Option.map nv ((x.map fun i => (rows.map fun r => r.getD c 0).getD i 0)[j]?)
              rw [List.getElem?_map, hxi]
              rfl
            · rw [List.getElem?_eq_none (by omega), List.getElem?_eq_none (by
                rw [List.length_map]
                show (x.map fun i => (rows.map fun r => r.getD c 0).getD i 0).length ≤ j
                rw [List.length_map]
                omega)]
          refine ⟨D', ys, rfl, .inl ⟨SqL.of hD', fun N nN => ?_⟩⟩
          refine ke _ _ (sD'.trans (same_upd nN)) fun H5 b5 => ⟨N, rfl, fun gg hg => ?_⟩
          rw [cols_at cw] at hg
          cases hg
          have hN : L2.upd H' N (.tup ys) N = some (.tup ((Mon.comp x (rows.map fun r => r.getD c 0)).map nv)) := by rw [upd_same, ey]
          refine b5 _ _ (fun z => ?_) hN
          have := sD' _ _ hD
          rw [← z, nN] at this
          cases this
      · rw [List.length_map, idm_len] at ly
        obtain ⟨es, rfl⟩ := refs_of (ys := ys) fun y hm => by
          obtain ⟨j, hj⟩ := List.getElem?_of_mem hm
          obtain ⟨e, rfl, _⟩ := hy j y hj
          exact ⟨e, rfl⟩
        rw [List.length_map] at ly
        refine kk D es H' sD nD hD (by rw [ly, cols_len]) fun c e gg he hg => ?_
        obtain ⟨e', q1, q2⟩ := hy c _ (get_map he)
        cases q1
        exact q2 gg hg
end
end K69

set_option Elab.async false
set_option linter.all false
set_option maxRecDepth 100000
set_option maxHeartbeats 8000000
namespace K69
/-- the elements whose act leads the first state to a marked one -/
def accOf (found : List (List Nat)) (first : Nat) (mk : List Nat) : List Nat := (List.range found.length).filter fun k => decide ((found.getD k []).getD first 0 ∈ mk)
theorem accOf_lt {found : List (List Nat)} {first : Nat} {mk : List Nat} : ∀ i ∈ accOf found first mk, i < found.length := fun i hi => List.mem_range.mp (List.mem_filter.mp hi).1
theorem accOf_len {found : List (List Nat)} {first : Nat} {mk : List Nat} : (accOf found first mk).length ≤ found.length := by
  have := List.length_filter_le (fun k => decide ((found.getD k []).getD first 0 ∈ mk)) (List.range found.length)
  rwa [List.length_range] at this
theorem lead_snoc {mv : List (List Nat)} {s c : Nat} {x : List Nat} : lead mv s (x ++ [c]) = step mv (lead mv s x) c := by
  unfold lead
  rw [List.foldl_append]
  rfl
/-- a word's element acts as the word leads -/
theorem acts_lead {mv found rows : List (List Nat)} {wd first : Nat} (F : FormM mv wd) (T : Mon.Tab mv.length (cols wd mv) found rows) (h0 : found[0]? = some (Mon.idm mv.length)) (fl : first < mv.length) :
    ∀ (z : List Nat), (∀ c ∈ z, c < wd) → ∃ x, found[lead rows 0 z.reverse.reverse]? = some x ∧ x[first]? = some (lead mv first z.reverse.reverse) := by
  have g : ∀ (y : List Nat), (∀ c ∈ y, c < wd) → ∃ x, found[lead rows 0 y.reverse]? = some x ∧ x[first]? = some (lead mv first y.reverse) := by
    intro y
    induction y with
    | nil =>
      intro _
      refine ⟨_, h0, ?_⟩
      show (List.range mv.length)[first]? = some first
      exact List.getElem?_range fl
    | cons c y ih =>
      intro hy
      obtain ⟨x, hx, hf⟩ := ih fun d hd => hy d (List.mem_cons_of_mem _ hd)
      have cw := hy c List.mem_cons_self
      have hg := cols_at (mv := mv) cw
      have hn := T.get hx hg
      rw [List.reverse_cons, lead_snoc, lead_snoc]
      refine ⟨_, hn, ?_⟩
      have ll := lead_lt F (x := y.reverse) fl fun d hd => hy d (List.mem_cons_of_mem _ (List.mem_reverse.mp hd))
      obtain ⟨row, h1, h2, _⟩ := step_lt F ll cw
      show (x.map fun i => _)[first]? = _
      rw [List.getElem?_map, hf]
      show some ((mv.map fun r => r.getD c 0).getD (lead mv first y.reverse) 0) = some (step mv (lead mv first y.reverse) c)
      congr 1
      refine (Mon.getD_of ?_).trans rfl
      rw [List.getElem?_map, h1]
      show some (row.getD c 0) = some (step mv (lead mv first y.reverse) c)
      rw [Mon.getD_of h2]
  intro z hz
  exact g z.reverse fun c hc => hz c (List.mem_reverse.mp hc)
theorem acc_iff {mv found rows : List (List Nat)} {wd first : Nat} {mk : List Nat} (F : FormM mv wd) (T : Mon.Tab mv.length (cols wd mv) found rows) (h0 : found[0]? = some (Mon.idm mv.length)) (fl : first < mv.length) {z : List Nat} (hz : ∀ c ∈ z, c < wd) :
    lead rows 0 z ∈ accOf found first mk ↔ lead mv first z ∈ mk := by
  obtain ⟨x, hx, hf⟩ := acts_lead F T h0 fl z hz
  rw [List.reverse_reverse] at hx hf
  unfold accOf
  rw [List.mem_filter, List.mem_range, decide_eq_true_eq, Mon.getD_of hx, Mon.getD_of hf]
  exact ⟨fun h => h.2, fun h => ⟨(List.getElem?_eq_some_iff.mp hx).1, h⟩⟩
/-- the elements whose act leads state 0 to a marked one -/
def accB (found : List (List Nat)) (ms : List Bool) : List Nat := (List.range found.length).filter fun k => ms.getD ((found.getD k []).getD 0 0) false
theorem accB_lt {found : List (List Nat)} {ms : List Bool} : ∀ i ∈ accB found ms, i < found.length := fun i hi => List.mem_range.mp (List.mem_filter.mp hi).1
theorem accB_len {found : List (List Nat)} {ms : List Bool} : (accB found ms).length ≤ found.length := by
  have := List.length_filter_le (fun k => ms.getD ((found.getD k []).getD 0 0) false) (List.range found.length)
  rwa [List.length_range] at this
theorem accB_iff {mv found rows : List (List Nat)} {wd : Nat} {ms : List Bool} (F : FormM mv wd) (T : Mon.Tab mv.length (cols wd mv) found rows) {z : List Nat} (hz : ∀ c ∈ z, c < wd) :
    lead rows 0 z ∈ accB found ms ↔ mbl ms (lead mv 0 z) = true := by
  obtain ⟨x, hx, hf⟩ := acts_lead F T T.head F.1 z hz
  rw [List.reverse_reverse] at hx hf
  unfold accB
  rw [List.mem_filter, List.mem_range, Mon.getD_of hx, Mon.getD_of hf]
  exact ⟨fun h => h.2, fun h => ⟨(List.getElem?_eq_some_iff.mp hx).1, h⟩⟩
theorem form_of {rows : List (List Nat)} {wd : Nat} {m : List (Nat × Nat)} (A : Accept rows wd m) (w4 : wd ≤ 4) : FormM rows wd := by
  obtain ⟨f1, f2, w1, w6, fr⟩ := A.form
  exact ⟨f1, w1, w4, fr⟩
end K69

set_option Elab.async false
set_option linter.all false
set_option maxRecDepth 100000
set_option maxHeartbeats 8000000
namespace K69
open PySem PySem.Spec PyProof.Rows L2 Lf LamX Apart
theorem RowsT.extN {K : PySem.W.Frag} {H H' : Hp} {r : Addr} {rows : List (List Nat)} (h : RowsT K H r rows) (e : ExtN H H') : RowsT K H' r rows := by
  obtain ⟨as, a, b, c⟩ := h.ex
  exact ⟨as, sqT_extN e a, b, fun i x row h1 h2 => sqT_extN e (c i x row h1 h2)⟩
theorem MadeT.extN {K : PySem.W.Frag} {H H' : Hp} {r : Addr} {m : List (Nat × Nat)} (h : MadeT K H r m) (e : ExtN H H') : MadeT K H' r m := by
  obtain ⟨as, a, b, c⟩ := h.ex
  exact ⟨as, sqT_extN e a, b, fun i x row h1 h2 => sqT_extN e (c i x row h1 h2)⟩
theorem Mo.extN {K : PySem.W.Frag} {H H' : Hp} {x : Addr} {rows : List (List Nat)} {m : List (Nat × Nat)} (h : Mo K H x rows m) (e : ExtN H H') : Mo K H' x rows m := by
  obtain ⟨dx, t, u, v, a, b, c, d⟩ := h.ex
  exact ⟨dx, t, u, v, e _ _ a (fun _ z => nomatch z), b.extN e, c.extN e, d.extN e⟩
theorem La.extN {K : PySem.W.Frag} {H H' : Hp} {x : Addr} {rows : List (List Nat)} {mk : List Nat} (h : La K H x rows mk) (e : ExtN H H') : La K H' x rows mk := by
  obtain ⟨dx, p, u, m, a, b, c⟩ := h.ex
  exact ⟨dx, p, u, m, e _ _ a (fun _ z => nomatch z), b.extN e, sqT_extN e c⟩
theorem Au.extN {K : PySem.W.Frag} {H H' : Hp} {x : Addr} {mv : List (List Nat)} {first : Nat} {mk : List Nat} (h : Au K H x mv first mk) (e : ExtN H H') : Au K H' x mv first mk := by
  obtain ⟨dx, t, u, a, b, c⟩ := h.ex
  exact ⟨dx, t, u, e _ _ a (fun _ z => nomatch z), b.extN e, sqT_extN e c⟩
theorem Thg.extN {K : PySem.W.Frag} {H H' : Hp} {x : Addr} {rows : List (List Nat)} {start : Nat} {acc : List Nat} (h : Thg K H x rows start acc) (e : ExtN H H') : Thg K H' x rows start acc := h.imp (fun z => z.extN e) fun z => ⟨z.1, z.2.extN e⟩
theorem Ask.extN {K : PySem.W.Frag} {H H' : Hp} {x : Addr} {rows : List (List Nat)} {wd start : Nat} {acc : List Nat} (h : Ask K H x rows wd start acc) (e : ExtN H H') : Ask K H' x rows wd start acc := ⟨h.t.extN e, h.f, h.n, h.s, h.a⟩
/-- Monoid(rows) -/
theorem mkM {K : PySem.W.Frag} {H : Hp} {r x dx : Addr} {rows : List (List Nat)} {wd : Nat} {m : List (Nat × Nat)} {W : Hp → Prop} (R : RowsL K H r rows) (ac : Accept rows wd m) (nx : H x = none) (ndx : H dx = none) (xdx : dx ≠ x) (k : ∀ H3, Mo K H3 x rows m → Same H H3 → W H3) :
    spMon K [.ref x, .ref r] (L2.upd (L2.upd H dx (.own x)) x (.ins (He.ga K "Monoid") dx [])) (fun v H2 => v = .non ∧ W H2) E0 := by
  have u1 := same_upd (o := .own x) ndx
  have nx1 : L2.upd H dx (.own x) x = none := by rw [upd_ne (Ne.symm xdx)]; exact nx
  have u2 := u1.trans (same_upd (o := .ins (He.ga K "Monoid") dx []) nx1)
  exact ⟨x, r, dx, rows, wd, m, rfl, upd_same, R.same u2, ac, fun H3 b3 mo => ⟨rfl, k H3 mo fun b o e => b3 _ _ (ne_of_none e nx) (u2 _ _ e)⟩⟩
/-- Language(monoid, marked) -/
theorem mkL {K : PySem.W.Frag} {H : Hp} {x dx mo pm : Addr} {rows : List (List Nat)} {m : List (Nat × Nat)} {wd : Nat} {mk : List Nat} {W : Hp → Prop} (M : Mo K H mo rows m) (FM : FormM rows wd) (m5 : rows.length ≤ 500) (hk : H pm = some (.lst (mk.map nv))) (kb : ∀ i ∈ mk, i < rows.length) (k5 : mk.length ≤ 500)
    (nx : H x = none) (ndx : H dx = none) (xdx : dx ≠ x) (k : ∀ H3, La K H3 x rows mk → Same H H3 → W H3) :
    spLan K [.ref x, .ref mo, .ref pm] (L2.upd (L2.upd H dx (.own x)) x (.ins (He.ga K "Language") dx [])) (fun v H2 => v = .non ∧ W H2) E0 := by
  have u1 := same_upd (o := .own x) ndx
  have nx1 : L2.upd H dx (.own x) x = none := by rw [upd_ne (Ne.symm xdx)]; exact nx
  have u2 := u1.trans (same_upd (o := .ins (He.ga K "Language") dx []) nx1)
  exact ⟨x, dx, mo, pm, rows, m, wd, mk, rfl, upd_same, M.same u2, FM, m5, u2 _ _ hk, kb, k5, fun H3 b3 la => ⟨rfl, k H3 la fun b o e => b3 _ _ (ne_of_none e nx) (u2 _ _ e)⟩⟩
def spSyn (K : PySem.W.Frag) : Sp := fun vs H Q _ => ∃ a rows wd st acc, vs = [.ref a] ∧ Ask K H a rows wd st acc ∧ rows.length ≤ 4 ∧ Tabs (tbW K) H ∧
  ∀ x R accx H', ExtN H H' → Tabs (tbW K) H' → Ask K H' x R wd 0 accx → R.length ≤ 256 → (∀ z : List Nat, (∀ c ∈ z, c < wd) → (lead R 0 z ∈ accx ↔ lead rows st z ∈ acc)) → Q (.ref x) H'
abbrev NSy : List Str := ["thing", "rows", "start", "marks", "found", "right", "number", "ends"]
theorem scSy : FnScope NSy ["thing"] (defScope s_syntactic) := ⟨rfl, rfl, rfl, by decide +kernel, rfl, by decide +kernel, by decide +kernel⟩
abbrev ttSy (K : PySem.W.Frag) : TT := tTest (tOp (rIxL K) (tVar 3) (tOp (rIxT K) (tVar 7) (tC (.int 0))))
theorem few2_len {mv : List (List Nat)} {st wd : Nat} {blk : List Nat} (F : FormM mv wd) (h : st < mv.length) : (few2 (Reach.renum mv st) blk).length ≤ mv.length := by
  unfold few2
  rw [List.length_map]
  have h1 : (fsts blk (Reach.renum mv st).length).length ≤ (Reach.renum mv st).length := by
    have := List.length_filter_le (fun p => decide (p = al blk p)) (List.range (Reach.renum mv st).length)
    rwa [List.length_range] at this
  rw [Reach.renum_len] at h1 ⊢
  exact Nat.le_trans h1 (Reach.ord_len (rfO F h))
section
variable {P : Program} {w : World} {K : PySem.W.Frag} {mg : Str → Option Value} {base : Heap}
theorem ok_syn {f : Addr} {fd : FuncData} {q : Str} (F : FunD K "syntactic" q (defArgs s_syntactic) (defBody s_syntactic) (defScope s_syntactic) [] [] f fd) (T : Txt P w K mg base)
    (DS : Def P w K mg base CX0 2 "_states_of" ["thing"] (spSt K)) (DF : Def P w K mg base CX0 4 "fewest_states" ["rows", "start", "marks"] (spFs K)) (DW : Def P w K mg base CX0 4 "_what_words_do" ["rows"] (spWhat K))
    {fm : Addr} {fdm : FuncData} (mM : Mk K (He.ga K "Monoid") fm) (FM : FnOk P w K mg base CX0 4 fm fdm ["self", "right"] (spMon K)) (bM : Binds K fdm ["self", "right"] [])
    {fl : Addr} {fdl : FuncData} (mL : Mk K (He.ga K "Language") fl) (FL : FnOk P w K mg base CX0 5 fl fdl ["self", "monoid", "accepted"] (spLan K)) (bL : Binds K fdl ["self", "monoid", "accepted"] []) :
    FnOk P w K mg base CX0 7 f fd ["thing"] (spSyn K) := by
  have zE : mg "enumerate" = none := T.fr 56 "enumerate" rfl
  refine F.ok scSy (fun vs H Q E h => ?_) (fun cdv A outer s H vs Q E hr h => ?_)
  · obtain ⟨a, rows, wd, st, acc, rfl, _⟩ := h
    rfl
  · obtain ⟨a, rows, wd, st, acc, rfl, AK, n4, tb, k⟩ := h
    have R2 : Room 2 _ := hr.mono (by decide)
    have R4 : Room 4 _ := hr.mono (by decide)
    have R5 : Room 5 _ := hr.mono (by decide)
    refine ⟨_, PSs.nox (pss_cons (ps_asg (pe_def DS R2 pass0 rfl (pa_cons (pv 0) pa_nil)) (pg_tup rfl (pgs_cons (pg_name (i := 1) scSy.nd rfl (.inl rfl)) (pgs_cons (pg_name (i := 2) scSy.nd rfl (.inl rfl)) (pgs_cons (pg_name (i := 3) scSy.nd rfl (.inr rfl)) pgs_nil)))))
      (pss_cons (ps_asg (pe_def DF R4 pass0 rfl (pa_cons (pv 1) (pa_cons (pv 2) (pa_cons (pv 3) pa_nil)))) (pg_tup rfl (pgs_cons (pg_name (i := 1) scSy.nd rfl (.inl rfl)) (pgs_cons (pg_name (i := 3) scSy.nd rfl (.inr rfl)) pgs_nil))))
      (pss_cons (ps_asg (pe_def DW R4 pass0 rfl (pa_cons (pv 1) pa_nil)) (pg_tup rfl (pgs_cons (pg_name (i := 4) scSy.nd rfl (.inl rfl)) (pgs_cons (pg_name (i := 5) scSy.nd rfl (.inl rfl)) pgs_nil))))
      (pss_one (ps_ret (pe_make mL FL hr rfl (T.gl 11 "Language" rfl) bL .nil pass0 (pa_cons (pe_make mM FM R5 rfl (T.gl 7 "Monoid" rfl) bM .nil pass0 (pa_cons (pv 5) pa_nil))
          (pa_cons (pe_lc (own := [("number", 6), ("ends", 7)]) (g := gTup K 2 (gCons (gName 6) (gCons (gName 7) gNil))) (tt := ttSy K) (te := tVar 6) (by rfl) scSy.nd (pi_enumA rfl zE (pv 4)) (blkOk_by (own := [("number", 6), ("ends", 7)]) (N := NSy) (sc := defScope s_syntactic) (by decide +kernel)) (fun _ _ _ _ _ => by exact pg_tup rfl (pgs_cons (pg_name (i := 6) scSy.nd rfl (Or.inl rfl)) (pgs_cons (pg_name (i := 7) scSy.nd rfl (Or.inl rfl)) pgs_nil)))
            (fun _ _ _ _ _ => by exact pts_one (pt_val (pe_ix ix_list (pv 3) (pe_ix ix_tup (pv 7) pe_int (fun _ _ => rfl)) (fun _ _ => rfl)))) (fun _ _ _ _ _ => pv 6)) pa_nil)))))))), ?_⟩
    have FO := few_form (blk := ([] : List Nat)) (met_form AK.f AK.s)
    refine ⟨_, rfl, a, rows, st, acc, rfl, AK.t, AK.f.1, AK.n, AK.a, fun T1 t1 pm1 H1 e1 hT1 Rt1 hm1 => ⟨T1, _, rfl, SqT.of hT1, rfl, _, _, rfl, _, _, rfl, _, _, rfl, rfl, ?_⟩⟩
    dsimp only
    refine ⟨_, rfl, _, rfl, _, rfl, t1, pm1, rows, wd, st, mkb rows.length acc, rfl, Rt1, AK.f, AK.n, AK.s, by rw [hm1, mkb_v], mkb_len, fun T2 r2 p2 blk H2 e2 hT2 Rl2 hp2 AL => ⟨T2, _, rfl, SqT.of hT2, rfl, _, _, rfl, _, _, rfl, rfl, ?_⟩⟩
    dsimp only
    have FW := fun {v : List Nat} (hv : ∀ c ∈ v, c < wd) => few_words AK.f AK.s mkb_len AL hv
    have FF := few_form (blk := blk) (met_form AK.f AK.s)
    have lf : (few2 (Reach.renum rows st) blk).length ≤ 4 := Nat.le_trans (few2_len AK.f AK.s) n4
    have lM : (fewM ((Reach.ord rows st).map fun x => (mkb rows.length acc).getD x false) blk (Reach.renum rows st).length).length = (few2 (Reach.renum rows st) blk).length := by
      unfold fewM few2
      rw [List.length_map, List.length_map]
    generalize few2 (Reach.renum rows st) blk = mv at *
    generalize fewM ((Reach.ord rows st).map fun x => (mkb rows.length acc).getD x false) blk (Reach.renum rows st).length = ms at *
    refine ⟨_, rfl, r2, mv, wd, rfl, Rl2, FF, lf, tb.ext (e1.trans e2), fun Tt pf pn pr as2 bs found rws m H3 e3 tb3 hTt L Tb hm lm => ⟨Tt, _, rfl, SqT.of hTt, rfl, _, _, rfl, _, _, rfl, rfl, ?_⟩⟩
    dsimp only
    have e13 : ExtN H H3 := (ExtN.of (e1.trans e2)).trans e3
    have hp3 := e3 _ _ hp2 fun _ z => nomatch z
    obtain ⟨f1, f2, f3, f4⟩ := id FF
    have few : found.length ≤ 256 := by
      have g1 := Mon.maps_few Tb.nd Tb.val
      have g2 : ∀ k, 1 ≤ k → k ≤ 4 → k ^ k ≤ 256 := by
        intro k k1 k4
        have : k = 1 ∨ k = 2 ∨ k = 3 ∨ k = 4 := by omega
        rcases this with rfl | rfl | rfl | rfl <;> decide
      exact Nat.le_trans g1 (g2 _ f1 lf)
    have lr : rws.length = found.length := Tb.len
    have gl : (cols wd mv).length = wd := cols_len
    have ac : Accept rws wd m := by
      have := accept_of Tb (List.ne_nil_of_length_pos (by rw [gl]; omega)) (by rw [gl]; omega) (by omega) hm lm
      rwa [gl] at this
    have RB : RowsL K H3 pr rws := ⟨bs, SqL.of L.t, L.tl, fun j b r h1 h2 => SqL.of (L.te j b r h1 h2).1⟩
    refine ⟨_, rfl, fun xm dm nxm ndm nem => mkM RB ac nxm ndm nem fun H7 M7 s7 => ?_⟩
    refine ⟨_, rfl, pf, as2.map V.ref, rfl, .inl ⟨SqL.of (s7 _ _ L.f), fun D nD => ?_⟩⟩
    refine lc_it (walk_enumL (K := K) (a := pf) (xs := as2.map V.ref)) (fun i Hd => But D H7 Hd ∧ Hd D = some (.lst (((List.range i).filter fun k => ms.getD ((found.getD k []).getD 0 0) false).map nv))) ⟨But.upd, upd_same⟩ (fun i Hd _ ⟨bd, _⟩ => SqL.of (Same.but (L2.Same.refl _) nD bd _ _ (s7 _ _ L.f))) (fun i y Hd H' hi ⟨bd, hD⟩ yl => ?_) (fun Hd ⟨bd, hD⟩ => ?_)
    · obtain ⟨T2, z, rfl, nT2, rfl, hz⟩ := yl
      obtain ⟨a2, ha, rfl⟩ := map_get hz
      have il : i < found.length := by rw [← L.fl]; exact get_lt ha
      obtain ⟨xx, hxx⟩ := lt_get il
      have vx := Tb.val xx (List.mem_of_getElem? hxx)
      obtain ⟨e, he⟩ := lt_get (show 0 < xx.length by rw [vx.1]; exact f1)
      have el := vx.2 e (List.mem_of_getElem? he)
      obtain ⟨bm, hbm⟩ := lt_get (show e < ms.length by omega)
      have sd := Same.but (L2.Same.refl _) nD bd
      have sT := same_upd (o := .tup [.int (i : Nat), .ref a2]) nT2
      have nTD : D ≠ T2 := fun z => by rw [z, nT2] at hD; cases hD
      refine ⟨T2, _, rfl, SqT.of upd_same, rfl, _, _, rfl, _, _, rfl, rfl, rfl, ?_⟩
      refine ⟨_, rfl, _, rfl, a2, xx.map nv, 0, nv e, rfl, rfl, SqT.of (sT _ _ (sd _ _ (s7 _ _ (L.fe i a2 xx ha hxx)))), atI_nat (j := 0) (get_map he), p2, ms.map V.bl, _, .bl bm, rfl, rfl, SqL.of (sT _ _ (sd _ _ (s7 _ _ hp3))), atI_nat (get_map hbm), bm, rfl, ?_⟩
      have ee : ms.getD ((found.getD i []).getD 0 0) false = bm := by rw [Mon.getD_of hxx, Mon.getD_of he, List.getD, hbm]; rfl
      have hD' : L2.upd Hd T2 (.tup [.int (i : Nat), .ref a2]) D = some (.lst (((List.range i).filter fun k => ms.getD ((found.getD k []).getD 0 0) false).map nv)) := by rw [upd_ne nTD]; exact hD
      refine ite2 (fun c => ?_) (fun c => ?_)
      · refine ⟨_, rfl, _, hD', ?_, (bd.trans (But.of sT)).trans But.upd, ?_⟩
        · rw [List.length_map]
          have := List.length_filter_le (fun k => ms.getD ((found.getD k []).getD 0 0) false) (List.range i)
          rw [List.length_range] at this
          show _ < 16777216
          omega
        · rw [upd_same, List.range_succ, List.filter_append, List.filter_cons, List.filter_nil, ee, if_pos c, List.map_append]
          rfl
      · refine ⟨bd.trans (But.of sT), ?_⟩
        rw [hD', List.range_succ, List.filter_append, List.filter_cons, List.filter_nil, ee, if_neg c, List.append_nil]
    · rw [List.length_map, L.fl] at hD
      have sd := Same.but (L2.Same.refl _) nD bd
      refine fun xl dl nxl ndl nel => mkL (M7.same sd) (form_of ac f3) (by omega) (mk := accB found ms) hD (fun i hi => by rw [lr]; exact accB_lt i hi) (Nat.le_trans accB_len (by omega)) nxl ndl nel fun H9 La9 s9 => ?_
      have s39 := (s7.trans sd).trans s9
      refine k xl rws (accB found ms) H9 (e13.trans (ExtN.of s39)) (tb3.ext s39) ⟨.inr ⟨rfl, La9⟩, form_of ac f3, by omega, by omega, fun i hi => by rw [lr]; exact accB_lt i hi⟩ (by omega) fun z hz => ?_
      rw [accB_iff FF Tb hz, FW hz]
      have ll := lead_lt AK.f (x := z) AK.s hz
      show (mkb rows.length acc).getD _ false = true ↔ _
      unfold mkb
      rw [List.getD, List.getElem?_map, List.getElem?_range ll]
      show decide _ = true ↔ _
      rw [decide_eq_true_eq]
end
end K69

set_option Elab.async false
set_option linter.all false
set_option maxRecDepth 100000
set_option maxHeartbeats 8000000
namespace K69
open PySem PySem.Spec PyProof.Rows L2 Lf Apart
/-- an automaton as the law has it: a triple -/
structure Pv (K : PySem.W.Frag) (H : Hp) (T : Addr) (mv : List (List Nat)) (wd first : Nat) (mk : List Nat) : Prop where
  ex : ∃ r pm : Addr, SqT K H T [.ref r, nv first, .ref pm] ∧ RowsL K H r mv ∧ SqL K H pm (mk.map nv)
  f : FormM mv wd
  a : first < mv.length
  b : ∀ i ∈ mk, i < mv.length
  c : mk.length ≤ 12
  d : mv.length ≤ 12
theorem Pv.same {K : PySem.W.Frag} {H H' : Hp} {T : Addr} {mv : List (List Nat)} {wd first : Nat} {mk : List Nat} (p : Pv K H T mv wd first mk) (e : Same H H') : Pv K H' T mv wd first mk := by
  obtain ⟨r, pm, h1, h2, h3⟩ := p.ex
  exact ⟨⟨r, pm, Lf.SqT.same e h1, h2.same e, L2.Same.seq e h3⟩, p.f, p.a, p.b, p.c, p.d⟩
abbrev kn (F : List En) : List (List Key × V) := F.map fun e => (kt [e.1, e.2.1], V.bl true)
theorem kt_two {x y x' y' : Nat} : kt [x, y] = kt [x', y'] ↔ x = x' ∧ y = y' := by
  constructor
  · intro h
    have := kt_inj h
    cases this
    exact ⟨rfl, rfl⟩
  · rintro ⟨rfl, rfl⟩
    rfl
theorem kn_none {x y : Nat} : ∀ {F : List En}, (∀ e ∈ F, ¬ (e.1 = x ∧ e.2.1 = y)) → valV (kn F) (kt [x, y]) = none
  | [], _ => rfl
  | e :: F, h => by
    show valV ((kt [e.1, e.2.1], V.bl true) :: kn F) _ = none
    rw [valV_neg fun z => h e List.mem_cons_self (kt_two.mp z)]
    exact kn_none fun f hf => h f (List.mem_cons_of_mem _ hf)
theorem kn_some {x y : Nat} : ∀ {F : List En}, (∃ e ∈ F, e.1 = x ∧ e.2.1 = y) → valV (kn F) (kt [x, y]) = some (.bl true)
  | [], h => by obtain ⟨e, he, _⟩ := h; cases he
  | e :: F, h => by
    show valV ((kt [e.1, e.2.1], V.bl true) :: kn F) _ = _
    by_cases z : e.1 = x ∧ e.2.1 = y
    · exact valV_pos (p := (kt [e.1, e.2.1], V.bl true)) (kt_two.mpr z)
    · rw [valV_neg fun y => z (kt_two.mp y)]
      obtain ⟨f, hf, hz⟩ := h
      rcases List.mem_cons.mp hf with rfl | hf
      · exact (z hz).elim
      · exact kn_some ⟨f, hf, hz⟩
/-- the waiting pairs, as they lie -/
structure LayA (H : Hp) (pw pn : Addr) (F : List En) : Prop where
  w : ∃ as ps : List Addr, H pw = some (.lst (as.map V.ref)) ∧ as.length = F.length ∧ ps.length = F.length ∧ ∀ (j : Nat) a p e, as[j]? = some a → ps[j]? = some p → F[j]? = some e → H a = some (.tup [.ref p, wv e.2.2]) ∧ H p = some (.tup [nv e.1, nv e.2.1])
  d : H pn = some (.dT (kn F))
theorem LayA.same {H H' : Hp} {pw pn : Addr} {F : List En} (h : LayA H pw pn F) (e : Same H H') : LayA H' pw pn F := by
  obtain ⟨as, ps, h1, h2, h3, h4⟩ := h.w
  exact ⟨⟨as, ps, e _ _ h1, h2, h3, fun j a p x a1 a2 a3 => ⟨e _ _ (h4 j a p x a1 a2 a3).1, e _ _ (h4 j a p x a1 a2 a3).2⟩⟩, e _ _ h.d⟩
theorem get3 {α : Type} {l : List α} {n j : Nat} {x y : α} (e : l.length = n) (h : (l ++ [y])[j]? = some x) : l[j]? = some x ∧ j < n ∨ j = n ∧ x = y := by
  rcases get_snoc h with z | ⟨z, w⟩
  · exact .inl ⟨z, by rw [← e]; exact (List.getElem?_eq_some_iff.mp z).1⟩
  · exact .inr ⟨by rw [z, e], w⟩
/-- .. the list alone -/
def WL (H : Hp) (pw : Addr) (F : List En) : Prop := ∃ as ps : List Addr, H pw = some (.lst (as.map V.ref)) ∧ as.length = F.length ∧ ps.length = F.length ∧ ∀ (j : Nat) a p e, as[j]? = some a → ps[j]? = some p → F[j]? = some e → H a = some (.tup [.ref p, wv e.2.2]) ∧ H p = some (.tup [nv e.1, nv e.2.1])
theorem WL.same {H H' : Hp} {pw : Addr} {F : List En} (h : WL H pw F) (e : Same H H') : WL H' pw F := by
  obtain ⟨as, ps, h1, h2, h3, h4⟩ := h
  exact ⟨as, ps, e _ _ h1, h2, h3, fun j a p x a1 a2 a3 => ⟨e _ _ (h4 j a p x a1 a2 a3).1, e _ _ (h4 j a p x a1 a2 a3).2⟩⟩
theorem WL.dput {H : Hp} {pw pn : Addr} {F : List En} {k0 : List (List Key × V)} {o : HO} (h : WL H pw F) (hn : H pn = some (.dT k0)) : WL (upd H pn o) pw F := by
  obtain ⟨as, ps, h1, h2, h3, h4⟩ := h
  have off : ∀ {b : Addr} {ys : List V}, H b = some (.tup ys) → upd H pn o b = some (.tup ys) := fun {b ys} hb => by
    rw [upd_ne (fun z => by rw [z, hn] at hb; cases hb)]
    exact hb
  exact ⟨as, ps, by rw [upd_ne (fun z => by rw [z, hn] at h1; cases h1)]; exact h1, h2, h3, fun j a p x a1 a2 a3 => ⟨off (h4 j a p x a1 a2 a3).1, off (h4 j a p x a1 a2 a3).2⟩⟩
theorem WL.app {H : Hp} {pw a p : Addr} {F : List En} {e : En} (h : WL H pw F) (ha : H a = some (.tup [.ref p, wv e.2.2])) (hp : H p = some (.tup [nv e.1, nv e.2.1])) :
    ∃ xs, H pw = some (.lst xs) ∧ xs.length = F.length ∧ WL (upd H pw (.lst (xs ++ [.ref a]))) pw (F ++ [e]) := by
  obtain ⟨as, ps, h1, h2, h3, h4⟩ := h
  have off : ∀ {b : Addr} {ys : List V}, H b = some (.tup ys) → upd H pw (.lst (as.map V.ref ++ [.ref a])) b = some (.tup ys) := fun {b ys} hb => by
    rw [upd_ne (fun z => by rw [z, h1] at hb; cases hb)]
    exact hb
  refine ⟨_, h1, by rw [List.length_map, h2], as ++ [a], ps ++ [p], by rw [upd_same, List.map_append]; rfl, by rw [List.length_append, List.length_append, h2]; rfl, by rw [List.length_append, List.length_append, h3]; rfl, fun j x y f g1 g2 g3 => ?_⟩
  rcases get3 h2 g1 with ⟨g1, l1⟩ | ⟨l1, rfl⟩
  · rcases get3 h3 g2 with ⟨g2, l2⟩ | ⟨l2, rfl⟩
    · rcases get_snoc g3 with g3 | ⟨l3, rfl⟩
      · exact ⟨off (h4 j x y f g1 g2 g3).1, off (h4 j x y f g1 g2 g3).2⟩
      · omega
    · omega
  · rcases get3 h3 g2 with ⟨g2, l2⟩ | ⟨l2, rfl⟩
    · omega
    · rcases get_snoc g3 with g3 | ⟨l3, rfl⟩
      · have := (List.getElem?_eq_some_iff.mp g3).1
        omega
      · exact ⟨off ha, off hp⟩
theorem kn_put {F : List En} {e : En} (n : valV (kn F) (kt [e.1, e.2.1]) = none) : putK (kn F) (kt [e.1, e.2.1]) (.bl true) = kn (F ++ [e]) := by
  rw [putK_new _ n]
  show _ = (F ++ [e]).map _
  rw [List.map_append]
  rfl
theorem pair_eq {n x y x' y' : Nat} (h : y < n) (h' : y' < n) (e : x * n + y = x' * n + y') : x = x' ∧ y = y' := by
  rcases Nat.lt_trichotomy x x' with z | z | z
  · have := Nat.mul_le_mul_right n (Nat.succ_le_of_lt z)
    rw [Nat.succ_mul] at this
    omega
  · subst z
    exact ⟨rfl, by omega⟩
  · have := Nat.mul_le_mul_right n (Nat.succ_le_of_lt z)
    rw [Nat.succ_mul] at this
    omega
theorem inV_nat {x : Nat} {l : List Nat} : inV (nv x) (l.map nv) = decide (x ∈ l) := by
  unfold inV
  rw [List.any_map]
  by_cases h : x ∈ l
  · rw [decide_eq_true h]
    exact List.any_eq_true.mpr ⟨_, h, by show decide (_ = _) = true; simp⟩
  · rw [decide_eq_false h]
    refine Bool.eq_false_iff.mpr fun z => h ?_
    obtain ⟨y, hy, e⟩ := List.any_eq_true.mp z
    have : ((y : Nat) : Int) = ((x : Nat) : Int) := of_decide_eq_true e
    rw [← show y = x by omega]
    exact hy
theorem flat_nats {l : List Nat} : (l.map nv).all flatV = true := by rw [List.all_map]; exact List.all_eq_true.mpr fun _ _ => rfl
def spApart (K : PySem.W.Frag) : Sp := fun vs H Q _ => ∃ S T r1 wd s1 a1 r2 s2 a2, vs = [.ref S, .ref T] ∧ Pv K H S r1 wd s1 a1 ∧ Pv K H T r2 wd s2 a2 ∧
  ∀ o H', Same H H' → IsLeast wd (DL r1 s1 a1 r2 s2 a2) o → Q (oW o) H'
abbrev NAp : List Str := ["_law_one", "_law_other", "_law_start_so", "_law_waiting", "_law_known", "_law_at", "_law_pair", "_law_word", "_law_letter", "_law_later"]
section
variable {P : Program} {w : World} {K : PySem.W.Frag} {mg : Str → Option Value} {base : Heap}
theorem scAp : FnScope NAp ["_law_one", "_law_other"] (defScope s_L_apart) := ⟨rfl, rfl, rfl, by decide +kernel, rfl, by decide +kernel, by decide +kernel⟩
theorem ok_ap {f : Addr} {fd : FuncData} {q : Str} (F : FunD K "_law_apart" q (defArgs s_L_apart) (defBody s_L_apart) (defScope s_L_apart) [] [] f fd) (T : Txt P w K mg base) :
    FnOk P w K mg base CX0 1 f fd ["_law_one", "_law_other"] (spApart K) := by
  have zn : mg "len" = none := T.fr 59 "len" rfl
  have zr : mg "range" = none := T.fr 63 "range" rfl
  refine F.ok scAp (fun vs H Q E h => ?_) (fun cdv A outer s H vs Q E hr h => ?_)
  · obtain ⟨S, T', r1, wd, s1, a1, r2, s2, a2, rfl, _⟩ := h
    rfl
  · obtain ⟨S, T', r1, wd, s1, a1, r2, s2, a2, rfl, P1, P2, k⟩ := h
    have hu : (A.deeper (envOfC q (defScope s_L_apart) s.heap.objs.size f cdv)).units + 1 < cLine := by have := hr.units; omega
    refine ⟨_, PSs.nox (pss_cons (ps_set (i := 2) scAp.nd rfl (.inl rfl) (pe_tup (pa_cons (pe_ix ix_tup (pv 0) pe_int (fun _ _ => rfl)) (pa_cons (pe_ix ix_tup (pv 1) pe_int (fun _ _ => rfl)) pa_nil))))
      (pss_cons (ps_par3 (i := 3) (j := 4) (l := 5) rfl scAp.nd rfl rfl rfl (by decide) (by decide) (by decide) rfl rfl rfl
        (pa_cons (pe_lst (pa_cons (pe_tup (pa_cons (pv 2) (pa_cons pe_str pa_nil))) pa_nil)) (pa_cons (pe_dispT1 hu (pv 2) pe_bl) (pa_cons pe_int pa_nil))) (by rfl))
      (pss_cons (ps_while PassesOwn.never (pt_cmpR op_lt (pv 5) (pe_callB call_len_seq rfl zn boot_len (pa_cons (pv 3) pa_nil)) (nomark _))
        (pss_cons (ps_asg (pe_ix ix_list (pv 3) (pv 5) (fun _ _ => rfl)) (pg_tup rfl (pgs_cons (pg_name (i := 6) scAp.nd rfl (.inl rfl)) (pgs_cons (pg_name (i := 7) scAp.nd rfl (.inl rfl)) pgs_nil))))
        (pss_cons (ps_set (i := 5) scAp.nd rfl (.inl rfl) (pe_op op_add (pv 5) pe_int))
        (pss_cons (ps_if (pt_cmpR op_ne (pe_cmpR op_in_seq (pe_ix ix_tup (pv 6) pe_int (fun _ _ => rfl)) (pe_ix ix_tup (pv 0) pe_int (fun _ _ => rfl)) (by rfl)) (pe_cmpR op_in_seq (pe_ix ix_tup (pv 6) pe_int (fun _ _ => rfl)) (pe_ix ix_tup (pv 1) pe_int (fun _ _ => rfl)) (by rfl)) (nomark _)) (pss_one (ps_ret (pv 7))) pss_nil)
        (pss_one (ps_for PassesOwn.never rfl (pi_range1 rfl zr (pa_cons (pe_callB call_len_seq rfl zn boot_len (pa_cons (pe_ix ix_list (pe_ix ix_tup (pv 0) pe_int (fun _ _ => rfl)) pe_int (fun _ _ => rfl)) pa_nil)) pa_nil)) (pg_name (i := 8) scAp.nd rfl (.inl rfl))
          (pss_cons (ps_set (i := 9) scAp.nd rfl (.inl rfl) (pe_tup (pa_cons (pe_ix ix_list (pe_ix ix_list (pe_ix ix_tup (pv 0) pe_int (fun _ _ => rfl)) (pe_ix ix_tup (pv 6) pe_int (fun _ _ => rfl)) (fun _ _ => rfl)) (pv 8) (fun _ _ => rfl)) (pa_cons (pe_ix ix_list (pe_ix ix_list (pe_ix ix_tup (pv 1) pe_int (fun _ _ => rfl)) (pe_ix ix_tup (pv 6) pe_int (fun _ _ => rfl)) (fun _ _ => rfl)) (pv 8) (fun _ _ => rfl)) pa_nil))))
          (pss_one (ps_if (pt_cmp (pc_dnotin hu (pv 9) (pv 4)) (by rfl))
            (pss_cons (ps_dput hu (pv 4) (pv 9) pe_bl rfl)
            (pss_one (ps_expr (pe_bm PySem.F.plainAttrs_list PySem.F.slot_list_append PySem.F.type_list_append mt_append (pv 3) (pa_cons (pe_tup (pa_cons (pv 9) (pa_cons (pe_op op_add_str (pv 7) (pe_ix ix_str pe_str (pv 8) (fun _ _ => rfl))) pa_nil))) pa_nil))))) pss_nil)))))))))
      (pss_one (ps_ret pe_non))))), ?_⟩
    obtain ⟨r, pm, hT1, R1, K1⟩ := P1.ex
    obtain ⟨r', pm', hT2, R2, K2⟩ := P2.ex
    refine ⟨_, rfl, S, _, 1, nv s1, rfl, rfl, hT1, rfl, _, rfl, T', _, 1, nv s2, rfl, rfl, hT2, rfl, (by show 2 ≤ sizeLine; decide), fun p0 np0 => ?_⟩
    have e1 := same_upd (o := .tup [nv s1, nv s2]) np0
    have hp1 : upd H p0 (.tup [nv s1, nv s2]) p0 = some (.tup [nv s1, nv s2]) := upd_same
    generalize upd H p0 (.tup [nv s1, nv s2]) = H1 at e1 hp1 ⊢
    dsimp only
    refine ⟨_, rfl, (by show 2 ≤ sizeLine; decide), fun t0 nt0 => ⟨(by show 1 ≤ sizeLine; decide), fun pw npw => ?_⟩⟩
    have e2 := e1.trans (same_upd (o := .tup [.ref p0, .str ("" : Str)]) nt0)
    have hp2 := same_upd (o := .tup [.ref p0, .str ("" : Str)]) nt0 _ _ hp1
    have ht2 : upd H1 t0 (.tup [.ref p0, .str ("" : Str)]) t0 = some (.tup [.ref p0, .str ("" : Str)]) := upd_same
    generalize upd H1 t0 (.tup [.ref p0, .str ("" : Str)]) = H2 at e2 hp2 ht2 npw ⊢
    have npwH : H pw = none := nil_of e2 npw
    have u3 := same_upd (o := .lst [.ref t0]) npw
    have e3 := e2.trans u3
    have hp3 := u3 _ _ hp2
    have ht3 := u3 _ _ ht2
    have hw3 : upd H2 pw (.lst [.ref t0]) pw = some (.lst [.ref t0]) := upd_same
    generalize upd H2 pw (.lst [.ref t0]) = H3 at e3 hp3 ht3 hw3 u3 ⊢
    intro pn npn
    have npnH : H pn = none := nil_of e3 npn
    have u4 := same_upd (o := .dT []) npn
    have e4 := e3.trans u4
    have hn4 : upd H3 pn (.dT []) pn = some (.dT []) := upd_same
    have hp4 := u4 _ _ hp3
    have ht4 := u4 _ _ ht3
    have hw4 := u4 _ _ hw3
    generalize upd H3 pn (.dT []) = H4 at e4 hn4 hp4 ht4 hw4 ⊢
    refine ⟨_, rfl, kt [s1, s2], p0, _, hn4, rfl, by rw [kt_map]; exact hp4, rfl, ?_⟩
    have n1 : pn ≠ pw := fun z => by rw [z, hw4] at hn4; cases hn4
    have L0 : LayA (upd H4 pn (.dT [(kt [s1, s2], .bl true)])) pw pn [(s1, s2, [])] := by
      refine ⟨⟨[t0], [p0], by rw [upd_ne n1.symm]; exact hw4, rfl, rfl, fun j x y f g1 g2 g3 => ?_⟩, upd_same⟩
      match j, g1, g2, g3 with
      | 0, g1, g2, g3 =>
        cases g1
        cases g2
        cases g3
        exact ⟨by rw [upd_ne (fun z => by rw [z, hn4] at ht4; cases ht4)]; exact ht4, by rw [upd_ne (fun z => by rw [z, hn4] at hp4; cases hp4)]; exact hp4⟩
      | j + 1, g1, _, _ => simp at g1
    have e5 : Same H (upd H4 pn (.dT [(kt [s1, s2], .bl true)])) := fun b o e => by
      rw [upd_ne (ne_of_none e npnH)]
      exact e4 _ _ e
    generalize upd H4 pn (.dT [(kt [s1, s2], .bl true)]) = H6 at L0 e5 ⊢
    refine ⟨_, _, _, rfl, ?_⟩
    have e6 := e5
    have L6 := L0
    clear L0 e5 e4 hn4 hp4 ht4 hw4 u4 hp3 ht3 hw3 u3 e3 e2 hp2 ht2 e1 hp1 npw npn nt0 np0
    dsimp only
    have F1 := P1.f
    have F2 := P2.f
    obtain ⟨f1, f2, f4, f5⟩ := id F1
    have c12 : r1.length * r2.length ≤ 144 := Nat.mul_le_mul P1.d P2.d
    refine ⟨fun m σ Hn => ∃ (v6 v7 v8 v9 : Option V) (i : Nat) (Fs : List En), m + i = 145 ∧ σ = [some (.ref S), some (.ref T'), some (.ref p0), some (.ref pw), some (.ref pn), some (nv i), v6, v7, v8, v9] ∧ Same H Hn ∧ LayA Hn pw pn Fs ∧
      Srch wd (step r1) (step r2) (fun z => decide (z ∈ a1)) (fun z => decide (z ∈ a2)) s1 s2 Fs i 0 ∧ (Fs.map fun e => e.1 * r2.length + e.2.1).Nodup ∧ i ≤ Fs.length,
      ⟨145, none, none, none, none, 0, _, rfl, rfl, e6, L6, Srch.start, by simp, Nat.zero_le _⟩, ?_⟩
    rintro m σ Hn ⟨v6, v7, v8, v9, i, Fs, em, rfl, sn, Ln, S0, nd, il⟩
    have small : ∀ {Fs : List En} {i c}, Srch wd (step r1) (step r2) (fun z => decide (z ∈ a1)) (fun z => decide (z ∈ a2)) s1 s2 Fs i c → (Fs.map fun e => e.1 * r2.length + e.2.1).Nodup → Fs.length ≤ 144 := fun {Fs i c} S nd => by
      have := Mon.nodup_lt (r1.length * r2.length) _ nd fun x hx => by
        obtain ⟨e, he, rfl⟩ := List.mem_map.mp hx
        obtain ⟨j, hj⟩ := List.getElem?_of_mem he
        obtain ⟨g1, g2, g3⟩ := S.ent j e hj
        have l1 := lead_lt F1 P1.a g1
        have l2 := lead_lt F2 P2.a g1
        have b1 : e.1 < r1.length := by rw [g2]; exact l1
        have b2 : e.2.1 < r2.length := by rw [g3]; exact l2
        have := Nat.mul_le_mul_right r2.length (Nat.succ_le_of_lt b1)
        rw [Nat.succ_mul] at this
        omega
      rw [List.length_map] at this
      omega
    have fl := small S0 nd
    obtain ⟨as, ps, hw, la, lp, hent⟩ := Ln.w
    refine ⟨_, rfl, _, rfl, pw, _, rfl, .inl (SqL.of hw), _, _, rfl, rfl, _, rfl, ?_⟩
    rw [List.length_map, la]
    refine ite2 (fun e0 => ?_) (fun e0 => ?_)
    rotate_left
    · have hi : Fs.length ≤ i := by
        refine Decidable.byContradiction fun z => e0 (decide_eq_true (by omega))
      exact k none Hn sn (S0.none_ f2 hi)
    · have hi : i < Fs.length := by
        have := of_decide_eq_true e0
        omega
      obtain ⟨⟨y1, y2, u⟩, hF⟩ := lt_get hi
      obtain ⟨ta, hta⟩ := lt_get (show i < as.length by omega)
      obtain ⟨tp, htp⟩ := lt_get (show i < ps.length by omega)
      obtain ⟨ha, hp⟩ := hent i ta tp _ hta htp hF
      obtain ⟨ou, e1, e2⟩ := S0.ent i _ hF
      dsimp only at ou e1 e2 ha hp
      have ly1 : y1 < r1.length := by rw [e1]; exact lead_lt F1 P1.a ou
      have ly2 : y2 < r2.length := by rw [e2]; exact lead_lt F2 P2.a ou
      refine ⟨_, fun σ' H' z => z, ?_⟩
      refine ⟨_, rfl, _, rfl, pw, _, _, .ref ta, rfl, rfl, SqL.of hw, atI_nat (get_map hta), ta, _, rfl, SqT.of ha, rfl, _, _, rfl, _, _, rfl, rfl, ?_⟩
      dsimp only
      refine ⟨_, rfl, _, _, rfl, rfl, ?_⟩
      have hT1n := Lf.SqT.same sn hT1
      have hT2n := Lf.SqT.same sn hT2
      refine ⟨_, rfl, tp, _, 0, nv y1, rfl, rfl, SqT.of hp, rfl, _, rfl, S, _, 2, .ref pm, rfl, rfl, hT1n, rfl, pm, _, rfl, .inl (L2.Same.seq sn K1), rfl, flat_nats,
        _, rfl, tp, _, 1, nv y2, rfl, rfl, SqT.of hp, rfl, _, rfl, T', _, 2, .ref pm', rfl, rfl, hT2n, rfl, pm', _, rfl, .inl (L2.Same.seq sn K2), rfl, flat_nats, rfl, _, rfl, ?_⟩
      rw [if_neg Bool.false_ne_true, if_neg Bool.false_ne_true, inV_nat, inV_nat]
      refine ite2 (fun e3 => ?_) (fun e3 => ?_)
      · refine ⟨_, rfl, ?_⟩
        refine k (some u) Hn sn (S0.found f2 hF ?_)
        intro z
        have z2 : decide (y1 ∈ a1) = decide (y2 ∈ a2) := z
        rw [z2] at e3
        simp at e3
      · have em12 : decide (y1 ∈ a1) = decide (y2 ∈ a2) := by
          refine Decidable.byContradiction fun z => e3 ?_
          cases h1 : decide (y1 ∈ a1) <;> cases h2 : decide (y2 ∈ a2) <;> simp_all
        obtain ⟨bs1, sr1, lb1, br1⟩ := R1.ex
        obtain ⟨bs2, sr2, lb2, br2⟩ := R2.ex
        obtain ⟨x0, hx0⟩ := lt_get (show 0 < bs1.length by omega)
        obtain ⟨w0, hw0⟩ := lt_get (show 0 < r1.length by omega)
        obtain ⟨x1, hx1⟩ := lt_get (show y1 < bs1.length by omega)
        obtain ⟨w1, hw1⟩ := lt_get ly1
        obtain ⟨x2, hx2⟩ := lt_get (show y2 < bs2.length by omega)
        obtain ⟨w2, hw2⟩ := lt_get ly2
        have lw0 := (f5 w0 (List.mem_of_getElem? hw0)).1
        refine ⟨_, rfl, S, _, 0, .ref r, rfl, rfl, hT1n, rfl, r, _, 0, .ref x0, rfl, rfl, L2.Same.seq sn sr1, atI_nat (j := 0) (get_map hx0), x0, w0.map nv, rfl, .inl (L2.Same.seq sn (br1 0 x0 w0 hx0 hw0)), (wd : Nat), by rw [List.length_map, lw0], by omega, by omega, ?_⟩
        refine for_range (lo := 0) (n := wd) (fun c σ' H' => ∃ (v8 v9 : Option V) (F' : List En), σ' = [some (.ref S), some (.ref T'), some (.ref p0), some (.ref pw), some (.ref pn), some (nv (i + 1)), some (.ref tp), some (wv u), v8, v9] ∧ Same H H' ∧ LayA H' pw pn F' ∧
          Srch wd (step r1) (step r2) (fun z => decide (z ∈ a1)) (fun z => decide (z ∈ a2)) s1 s2 F' i c ∧ (F'.map fun e => e.1 * r2.length + e.2.1).Nodup ∧ F'[i]? = some (y1, y2, u) ∧ H' tp = some (.tup [nv y1, nv y2])) ⟨v8, v9, Fs, rfl, sn, Ln, S0, nd, hF, hp⟩ ?_ ?_
        · rintro c σ' H' cl ⟨v8, v9, F', rfl, s', L', S', nd', hF', hp'⟩
          have ec : (0 : Int) + (c : Nat) = (c : Nat) := by omega
          rw [ec]
          obtain ⟨_, g1, hst1, l1⟩ := step_lt F1 ly1 cl
          rw [hw1] at g1
          cases g1
          obtain ⟨_, g2, hst2, l2⟩ := step_lt F2 ly2 cl
          rw [hw2] at g2
          cases g2
          have fl' := small S' nd'
          have lenu := S'.len f2 _ i _ (Nat.lt_succ_self i) hF'
          have li := (List.getElem?_eq_some_iff.mp hF').1
          dsimp only at lenu
          refine ⟨_, rfl, S, _, 0, .ref r, rfl, rfl, Lf.SqT.same s' hT1, rfl, _, rfl, tp, _, 0, nv y1, rfl, rfl, SqT.of hp', rfl, r, _, _, .ref x1, rfl, rfl, L2.Same.seq s' sr1, atI_nat (get_map hx1), _, rfl, x1, _, _, nv (step r1 y1 c), rfl, rfl, L2.Same.seq s' (br1 _ _ _ hx1 hw1), atI_nat (get_map hst1),
            _, rfl, T', _, 0, .ref r', rfl, rfl, Lf.SqT.same s' hT2, rfl, _, rfl, tp, _, 1, nv y2, rfl, rfl, SqT.of hp', rfl, r', _, _, .ref x2, rfl, rfl, L2.Same.seq s' sr2, atI_nat (get_map hx2), _, rfl, x2, _, _, nv (step r2 y2 c), rfl, rfl, L2.Same.seq s' (br2 _ _ _ hx2 hw2), atI_nat (get_map hst2), (by show 2 ≤ sizeLine; decide), fun q0 nq0 => ?_⟩
          have u4 := same_upd (o := .tup [nv (step r1 y1 c), nv (step r2 y2 c)]) nq0
          have hq4 : upd H' q0 (.tup [nv (step r1 y1 c), nv (step r2 y2 c)]) q0 = some (.tup [nv (step r1 y1 c), nv (step r2 y2 c)]) := upd_same
          have s4 := s'.trans u4
          have L4 := L'.same u4
          have hp4 := u4 _ _ hp'
          generalize upd H' q0 (.tup [nv (step r1 y1 c), nv (step r2 y2 c)]) = H4 at s4 L4 hp4 hq4 ⊢
          clear u4 nq0 L' s' hp'
          dsimp only
          refine ⟨_, rfl, _, rfl, pn, _, rfl, DGet.t (k := kt [step r1 y1 c, step r2 y2 c]) L4.d (by rw [kt_map]; exact hq4), _, rfl, ?_⟩
          by_cases hm : ∃ e ∈ F', e.1 = step r1 y1 c ∧ e.2.1 = step r2 y2 c
          · rw [kn_some hm]
            refine ifF rfl ?_
            refine ⟨_, _, F', rfl, s4, L4, S'.skip f2 hF' fun v h => ?_, nd', hF', hp4⟩
            obtain ⟨e, he, z1, z2⟩ := hm
            obtain ⟨b, hb⟩ := List.getElem?_of_mem he
            exact ⟨b, e, hb, by rw [z1, z2]; exact h⟩
          · have hv : valV (kn F') (kt [step r1 y1 c, step r2 y2 c]) = none := kn_none fun e he z => hm ⟨e, he, z⟩
            rw [hv]
            refine ifT rfl ?_
            have S6 := S'.new f2 cl hF'
            have nd6 : ((F' ++ [(step r1 y1 c, step r2 y2 c, u ++ [c])]).map fun e => e.1 * r2.length + e.2.1).Nodup := by
              rw [List.map_append, List.nodup_append]
              refine ⟨nd', by simp, fun x hx y hy => ?_⟩
              rw [List.map_cons, List.map_nil, List.mem_singleton] at hy
              subst hy
              obtain ⟨e, he, rfl⟩ := List.mem_map.mp hx
              intro z
              obtain ⟨j, hj⟩ := List.getElem?_of_mem he
              obtain ⟨o1, o2, o3⟩ := S'.ent j e hj
              have b2 : e.2.1 < r2.length := by rw [o3]; exact lead_lt F2 P2.a o1
              exact hm ⟨e, he, pair_eq b2 l2 z⟩
            refine ⟨_, rfl, _, rfl, pn, _, rfl, DPut.t (k := kt [step r1 y1 c, step r2 y2 c]) L4.d (by rw [kt_map]; exact hq4) (by rw [List.length_map]; show F'.length < 16777216; omega), ?_⟩
            have W5 : WL (upd H4 pn (.dT (putK (kn F') (kt [step r1 y1 c, step r2 y2 c]) (.bl true)))) pw F' := WL.dput L4.w L4.d
            have s5 : Same H (upd H4 pn (.dT (putK (kn F') (kt [step r1 y1 c, step r2 y2 c]) (.bl true)))) := fun b o e => by rw [upd_ne (ne_of_none e npnH)]; exact s4 _ _ e
            have tup5 : ∀ {b : Addr} {ys : List V}, H4 b = some (.tup ys) → upd H4 pn (.dT (putK (kn F') (kt [step r1 y1 c, step r2 y2 c]) (.bl true))) b = some (.tup ys) := fun {b ys} hb => by
              have := L4.d
              rw [upd_ne (fun z => by rw [z, this] at hb; cases hb)]
              exact hb
            have hp5 := tup5 hp4
            have hq5 := tup5 hq4
            have d5 : upd H4 pn (.dT (putK (kn F') (kt [step r1 y1 c, step r2 y2 c]) (.bl true))) pn = some (.dT (kn (F' ++ [(step r1 y1 c, step r2 y2 c, u ++ [c])]))) := by
              rw [upd_same, ← kn_put (e := (step r1 y1 c, step r2 y2 c, u ++ [c])) hv]
            generalize upd H4 pn (.dT (putK (kn F') (kt [step r1 y1 c, step r2 y2 c]) (.bl true))) = H5 at W5 s5 hp5 hq5 d5 ⊢
            obtain ⟨as5, ps5, hw5, la5, _⟩ := id W5
            refine ⟨_, rfl, .inl ⟨rfl, _, SqL.of hw5⟩, _, rfl, _, rfl, _, rfl, _, _, _, rfl, rfl, (by decide), atI_nat (abcd_at (by omega)), ws u, ⟨#[97 + c]⟩, rfl, rfl, (by rw [ws_len]; show u.length + 1 ≤ 16777216; omega), (by show 2 ≤ sizeLine; decide), fun N nN => ?_⟩
            have u7 := same_upd (o := .tup [.ref q0, .str (ws u ++ ⟨#[97 + c]⟩)]) nN
            have W7 := W5.same u7
            have s7 := s5.trans u7
            have d7 := u7 _ _ d5
            have hp7 := u7 _ _ hp5
            have hq7 := u7 _ _ hq5
            have hN : upd H5 N (.tup [.ref q0, .str (ws u ++ ⟨#[97 + c]⟩)]) N = some (.tup [.ref q0, wv (u ++ [c])]) := by
              rw [upd_same, ws_app]
            generalize upd H5 N (.tup [.ref q0, .str (ws u ++ ⟨#[97 + c]⟩)]) = H7 at W7 s7 d7 hp7 hq7 hN ⊢
            obtain ⟨xs8, h8, l8, W8⟩ := W7.app (e := (step r1 y1 c, step r2 y2 c, u ++ [c])) hN hq7
            refine ⟨pw, _, _, rfl, rfl, h8, (by show xs8.length < 16777216; omega), ?_⟩
            refine ⟨_, _, _, rfl, fun z o e => by rw [upd_ne (ne_of_none e npwH)]; exact s7 z o e, ⟨W8, by rw [upd_ne (fun z => by rw [z, h8] at d7; cases d7)]; exact d7⟩, S6, nd6, get_old hF', by rw [upd_ne (fun z => by rw [z, h8] at hp7; cases hp7)]; exact hp7⟩
        · rintro σ' H' ⟨v8, v9, F', rfl, s', L', S', nd', hF', _⟩
          have := (List.getElem?_eq_some_iff.mp hF').1
          exact ⟨m - 1, by omega, _, _, _, _, i + 1, F', by omega, rfl, s', L', S'.next hF' em12, nd', by omega⟩
end
end K69

set_option Elab.async false
set_option linter.all false
set_option maxRecDepth 100000
set_option maxHeartbeats 8000000
namespace K69
open PySem PySem.Spec PyProof.Rows L2 Lf LamX Apart
/-- an automaton as the law makes it: a triple of lists -/
structure Pz (K : PySem.W.Frag) (H : Hp) (T : Addr) (mv : List (List Nat)) (wd first : Nat) (mk : List Nat) : Prop where
  ex : ∃ r pm : Addr, H T = some (.tup [.ref r, nv first, .ref pm]) ∧ RowsL K H r mv ∧ H pm = some (.lst (mk.map nv))
  f : FormM mv wd
  a : first < mv.length
  b : ∀ i ∈ mk, i < mv.length
  c : mk.length ≤ 12
  d : mv.length ≤ 12
theorem Pz.same {K : PySem.W.Frag} {H H' : Hp} {T : Addr} {mv : List (List Nat)} {wd first : Nat} {mk : List Nat} (p : Pz K H T mv wd first mk) (e : Same H H') : Pz K H' T mv wd first mk := by
  obtain ⟨r, pm, h1, h2, h3⟩ := p.ex
  exact ⟨⟨r, pm, e _ _ h1, h2.same e, e _ _ h3⟩, p.f, p.a, p.b, p.c, p.d⟩
theorem Pz.extN {K : PySem.W.Frag} {H H' : Hp} {T : Addr} {mv : List (List Nat)} {wd first : Nat} {mk : List Nat} (p : Pz K H T mv wd first mk) (e : ExtN H H') : Pz K H' T mv wd first mk := by
  obtain ⟨r, pm, h1, h2, h3⟩ := p.ex
  obtain ⟨as, x1, x2, x3⟩ := h2.ex
  exact ⟨⟨r, pm, e _ _ h1 (fun _ z => nomatch z), ⟨as, sqL_extN e x1, x2, fun i a row g1 g2 => sqL_extN e (x3 i a row g1 g2)⟩, e _ _ h3 (fun _ z => nomatch z)⟩, p.f, p.a, p.b, p.c, p.d⟩
theorem Pz.v {K : PySem.W.Frag} {H : Hp} {T : Addr} {mv : List (List Nat)} {wd first : Nat} {mk : List Nat} (p : Pz K H T mv wd first mk) : Pv K H T mv wd first mk := by
  obtain ⟨r, pm, h1, h2, h3⟩ := p.ex
  exact ⟨⟨r, pm, SqT.of h1, h2, SqL.of h3⟩, p.f, p.a, p.b, p.c, p.d⟩
theorem Plan.z {K : PySem.W.Frag} {H : Hp} {l T r pm : Addr} {mv : List (List Nat)} {wd first : Nat} {mk : List Nat} (p : Plan H l T r pm mv wd first mk) : Pz K H T mv wd first mk :=
  ⟨⟨r, pm, p.t.2, p.m.rl, p.k.2⟩, p.f, p.a, p.b, by have := p.c; omega, by have := p.d; omega⟩
/-- Automaton(moves, first, marked) -/
theorem mkA {K : PySem.W.Frag} {H : Hp} {x dx r pm : Addr} {mv : List (List Nat)} {wd first : Nat} {mk : List Nat} {W : Hp → Prop} (R : RowsL K H r mv) (FM : FormM mv wd) (m9 : mv.length ≤ 40) (fl : first < mv.length) (hk : H pm = some (.lst (mk.map nv))) (kb : ∀ i ∈ mk, i < mv.length) (k9 : mk.length ≤ 12)
    (nx : H x = none) (ndx : H dx = none) (xdx : dx ≠ x) (k : ∀ H3, Au K H3 x mv first mk → Same H H3 → W H3) :
    spAut K [.ref x, .ref r, nv first, .ref pm] (L2.upd (L2.upd H dx (.own x)) x (.ins (He.ga K "Automaton") dx [])) (fun v H2 => v = .non ∧ W H2) E0 := by
  have u1 := same_upd (o := .own x) ndx
  have nx1 : L2.upd H dx (.own x) x = none := by rw [upd_ne (Ne.symm xdx)]; exact nx
  have u2 := u1.trans (same_upd (o := .ins (He.ga K "Automaton") dx []) nx1)
  refine ⟨x, dx, r, pm, mv, wd, first, mk, rfl, upd_same, R.same u2, FM, m9, fl, u2 _ _ hk, kb, k9, fun H3 b3 au => ⟨rfl, k H3 au fun b o e => b3 _ _ (ne_of_none e nx) (u2 _ _ e)⟩⟩
def spMade2 (K : PySem.W.Frag) : Sp := fun vs H Q _ => ∃ T mv wd first mk, vs = [.ref T] ∧ Pz K H T mv wd first mk ∧ ∀ x H', Same H H' → Au K H' x mv first mk → Q (.ref x) H'
def spTwo (K : PySem.W.Frag) : Sp := fun vs H Q _ => ∃ l n, vs = [.ref l] ∧ Src H l n ∧ n + 600 ≤ 1000000 ∧
  ∀ X S T wd r1 s1 k1 r2 s2 k2 H' n', But l H H' → H' X = some (.tup [.ref S, .ref T]) → Pz K H' S r1 wd s1 k1 → Pz K H' T r2 wd s2 k2 → Src H' l n' → n' ≤ n + 600 → Q (.ref X) H'
abbrev NTw : List Str := ["_law_source_here", "_law_one", "_law_way", "_law_letters", "_law_at", "_law_marked", "_law_sizes", "_law_many", "_law_rings", "_law_moves_here", "_law_state"]
def scTw1 : Scope := { kind := .function, names := [(".0", .local), ("_law_many", .cell), ("range", .globalImplicit), ("_law_letters", .cell)], isGenerator := false, isCoroutine := false }
abbrev ttTw (K : PySem.W.Frag) : TT := tTest (tOp rNe (tOp (rIn K false) (tVar 10) (tOp (rIxT K) (tVar 1) (tC (.int 2)))) (tOp rEq (tVar 10) (tVar 4)))
def mkOn (mk : List Nat) (at_ s : Nat) : Bool := !decide (V.bl (decide (s ∈ mk)) = V.bl (decide (nv s = nv at_)))
abbrev teRgR : TE := tOp rRep (tLst (tCons (tOp (rI (fun _ j => 0 < j) fun i j => .int (i % j)) (tCB (fun xs H Q => (∃ i, xs = [V.int i] ∧ Q (V.int i) H) ∨ ∃ k, xs = [V.bl k] ∧ Q (V.int (if k = true then 1 else 0)) H) (tCons (tOp (rI0 fun i j => .int (i + j)) (tVar 10) (tC (.int 1))) tNil)) (tVar 7)) tNil)) (tVar 3)
abbrev teRg : TE := tTup (tCons (tLc (iRng1 (tCons (tVar 7) tNil)) (gName 10) tYes teRgR [10]) (tCons (tC (.int 0)) (tCons (tLst (tCons (tC (.int 0)) tNil)) tNil)))
section
variable {P : Program} {w : World} {K : PySem.W.Frag} {mg : Str → Option Value} {base : Heap}
theorem scMd2 : FnScope ["_law_plan_here"] ["_law_plan_here"] (defScope s_L_made) := ⟨rfl, rfl, rfl, by decide +kernel, rfl, by decide +kernel, by decide +kernel⟩
theorem ok_made2 {f : Addr} {fd : FuncData} {q : Str} (F : FunD K "_law_made" q (defArgs s_L_made) (defBody s_L_made) (defScope s_L_made) [] [] f fd) (T : Txt P w K mg base)
    {fa : Addr} {fda : FuncData} (mA : Mk K (He.ga K "Automaton") fa) (FA : FnOk P w K mg base CX0 5 fa fda ["self", "rows", "start", "accepted"] (spAut K)) (bA : Binds K fda ["self", "rows", "start", "accepted"] []) :
    FnOk P w K mg base CX0 7 f fd ["_law_plan_here"] (spMade2 K) := by
  refine F.ok scMd2 (fun vs H Q E h => ?_) (fun cdv A outer s H vs Q E hr h => ?_)
  · obtain ⟨T', mv, wd, first, mk, rfl, _⟩ := h
    rfl
  · obtain ⟨T', mv, wd, first, mk, rfl, PZ, k⟩ := h
    refine ⟨_, PSs.nox (pss_one (ps_ret (pe_make mA FA hr rfl (T.gl 10 "Automaton" rfl) bA .nil pass0 (pa_cons (pe_ix ix_tup (pv 0) pe_int (fun _ _ => rfl)) (pa_cons (pe_ix ix_tup (pv 0) pe_int (fun _ _ => rfl)) (pa_cons (pe_ix ix_tup (pv 0) pe_int (fun _ _ => rfl)) pa_nil)))))), ?_⟩
    obtain ⟨r, pm, hT, R, hk⟩ := PZ.ex
    refine ⟨_, rfl, T', _, 0, .ref r, rfl, rfl, SqT.of hT, rfl, _, rfl, T', _, 1, nv first, rfl, rfl, SqT.of hT, rfl, _, rfl, T', _, 2, .ref pm, rfl, rfl, SqT.of hT, rfl, fun x dx nx ndx xdx => mkA R PZ.f (by have := PZ.d; omega) PZ.a hk PZ.b PZ.c nx ndx xdx fun H3 au s3 => k x H3 s3 au⟩
end
end K69

set_option Elab.async false
set_option linter.all false
set_option maxRecDepth 100000
set_option maxHeartbeats 8000000
namespace K69
open PySem PySem.Spec PyProof.Rows L2 Lf LamX Apart
theorem tlc_rng {k : Nat} {te : TE} {vs : List Nat} {σ : L2.St} {H1 : Hp} {Q : VK} {Re : Nat → V → Hp → Prop} {ta : TA} {n : Nat} (hv : ∀ R : List V → Hp → Prop, R [.int (n : Nat)] H1 → ta σ H1 R) (lx : n ≤ sizeLine) (hw : ∀ x, wipe (List.set (wipe σ vs) k (some x)) vs = wipe σ vs)
    (el : ∀ i : Nat, i < n → ElR te (List.set (wipe σ vs) k (some (.int (0 + i)))) H1 Re i) (dn : DoneR n H1 Re Q) : tLc (iRng1 ta) (gName k) tYes te vs σ H1 Q :=
  hv _ ⟨_, rfl, by omega, by have : n ≤ 16777216 := lx; omega, lc_rangeR (lo := 0) (n := n) lx hw el dn⟩
/-- a ring of z states -/
def ringT (z wd : Nat) : List (List Nat) := (List.range z).map fun i => List.replicate wd ((i + 1) % z)
theorem ringT_len {z wd : Nat} : (ringT z wd).length = z := by unfold ringT; rw [List.length_map, List.length_range]
theorem ringT_at {z wd i : Nat} (h : i < z) : (ringT z wd)[i]? = some (List.replicate wd ((i + 1) % z)) := by
  unfold ringT
  rw [List.getElem?_map, List.getElem?_range h]
  rfl
theorem ringT_form {z wd : Nat} (z1 : 1 ≤ z) (w1 : 1 ≤ wd) (w4 : wd ≤ 4) : FormM (ringT z wd) wd := by
  refine ⟨by rw [ringT_len]; exact z1, w1, w4, fun row hr => ?_⟩
  obtain ⟨i, hi, rfl⟩ := List.mem_map.mp hr
  refine ⟨List.length_replicate, fun t ht => ?_⟩
  rw [(List.mem_replicate.mp ht).2, ringT_len]
  exact Nat.mod_lt _ (by omega)
theorem rings_e {K : PySem.W.Frag} {l T' pz : Addr} {vy : V} {wd : Nat} {zs : List Nat} {H1 : Hp} {Q : VK} (w1 : 1 ≤ wd) (w4 : wd ≤ 4) (hz : H1 pz = some (.lst (zs.map nv))) (z2 : ∀ z ∈ zs, 1 ≤ z ∧ z ≤ 12) (lz : zs.length ≤ 2)
    (k : ∀ D H' (es : List Addr), Same H1 H' → H1 D = none → H' D = some (.lst (es.map V.ref)) → es.length = zs.length → (∀ (c : Nat) e z, es[c]? = some e → zs[c]? = some z → Pz K H' e (ringT z wd) wd 0 [0]) → Q (.ref D) H') :
    tLc (iList K (tVar 6)) (gName 7) tYes teRg [7] [some (.ref l), some (.ref T'), some vy, some (nv wd), none, none, some (.ref pz), none, none, none, none] H1 Q := by
  refine tlc_listE (K := K) (a := pz) (xs := zs.map nv) (Re := fun c y H' => ∃ e : Addr, y = .ref e ∧ ∀ z, zs[c]? = some z → Pz K H' e (ringT z wd) wd 0 [0]) (fun R h => ⟨_, rfl, h⟩) (SqL.of hz) (by rw [List.length_map]; show zs.length ≤ 16777216; omega) (fun x => by rfl) (fun c y hy => ?_) (fun D H' ys nD sD hD ly hy => ?_)
  · obtain ⟨z, hzz, rfl⟩ := map_get hy
    obtain ⟨z1, z12⟩ := z2 z (List.mem_of_getElem? hzz)
    intro D Hc acc Q' nD sc hD ke
    refine tcons_k (tlc_rng (n := z) (Re := fun i y H' => ∃ a : Addr, y = .ref a ∧ Hc a = none ∧ H' a = some (.lst ((List.replicate wd ((i + 1) % z)).map nv))) (fun R h => ⟨_, rfl, h⟩) (by show z ≤ 16777216; omega) (fun x => by rfl) (fun i hi => ?_) (fun r H2 ys nr s2 hr ly hy => ?_))
    · intro r Hd acc2 Q2 nr sd hr ke2
      refine ⟨_, rfl, _, _, rfl, rfl, .inl ⟨_, rfl, _, rfl, _, _, rfl, rfl, (by show (0 : Int) < ((z : Nat) : Int); omega), (by show 1 ≤ sizeLine; decide), fun q0 nq0 => ?_⟩⟩
      have ev : V.int ((0 + ((i : Nat) : Int) + 1) % ((z : Nat) : Int)) = nv ((i + 1) % z) := by
        show _ = V.int _
        congr 1
        rw [Int.natCast_emod]
        congr 1
        omega
      have s3 := same_upd (o := .lst [V.int ((0 + ((i : Nat) : Int) + 1) % ((z : Nat) : Int))]) nq0
      refine ⟨_, rfl, q0, (wd : Nat), _, rfl, rfl, upd_same, by omega, by omega, by rw [Int.toNat_natCast]; show 1 * wd ≤ 16777216; omega, fun q nq => ?_⟩
      have s4 := s3.trans (same_upd (o := .lst (List.replicate ((wd : Nat) : Int).toNat [V.int ((0 + ((i : Nat) : Int) + 1) % ((z : Nat) : Int))]).flatten) nq)
      refine ke2 _ _ s4 fun H' b' => ⟨q, rfl, nil_of (sd.trans s3) nq, ?_⟩
      have nqr : q ≠ r := fun z => by rw [z] at nq; rw [s3 _ _ hr] at nq; cases nq
      refine b' _ _ nqr ?_
      rw [upd_same, Int.toNat_natCast, rep2, List.map_replicate, ← ev]
    · refine ⟨(by show 1 ≤ sizeLine; decide), fun pk npk => ⟨(by show 3 ≤ sizeLine; decide), fun e ne => ?_⟩⟩
      have s3 := same_upd (o := .lst [V.int 0]) npk
      have s4 := same_upd (o := .tup [V.ref r, V.int 0, V.ref pk]) ne
      have s24 := (s2.trans s3).trans s4
      have npk0 : Hc pk = none := nil_of s2 npk
      have ne0 : Hc e = none := nil_of (s2.trans s3) ne
      obtain ⟨as, rfl⟩ := refs_of (ys := ys) fun y hm => by
        obtain ⟨j, hj⟩ := List.getElem?_of_mem hm
        obtain ⟨e, rfl, _⟩ := hy j y hj
        exact ⟨e, rfl⟩
      rw [List.length_map] at ly
      have he : L2.upd (L2.upd H2 pk (.lst [V.int 0])) e (.tup [V.ref r, V.int 0, V.ref pk]) e = some (.tup [V.ref r, nv 0, V.ref pk]) := upd_same
      have hk : L2.upd (L2.upd H2 pk (.lst [V.int 0])) e (.tup [V.ref r, V.int 0, V.ref pk]) pk = some (.lst (([0] : List Nat).map nv)) := s4 _ _ upd_same
      have hr4 := (s3.trans s4) _ _ hr
      have off : ∀ {a : Addr}, Hc a = none → a ≠ D := fun {a} n q => by rw [q, hD] at n; cases n
      refine ke _ _ s24 fun H' b' => ⟨e, rfl, fun z' hz' => ?_⟩
      have := hzz.symm.trans hz'
      cases this
      refine ⟨⟨r, pk, b' _ _ (off ne0) he, ⟨as, SqL.of (b' _ _ (off nr) hr4), by rw [ly, ringT_len], fun i a row h1 h2 => ?_⟩, b' _ _ (off npk0) hk⟩, ringT_form z1 w1 w4, by rw [ringT_len]; omega, fun i hi => by rw [List.mem_singleton.mp hi, ringT_len]; omega, (by show 1 ≤ 12; decide), by rw [ringT_len]; exact z12⟩
      obtain ⟨a', q1, q2, q3⟩ := hy i _ (get_map h1)
      cases q1
      have il : i < z := by have := get_lt h1; omega
      rw [ringT_at il] at h2
      cases h2
      exact SqL.of (b' _ _ (off q2) ((s3.trans s4) _ _ q3))
  · rw [List.length_map] at ly
    obtain ⟨es, rfl⟩ := refs_of (ys := ys) fun y hm => by
      obtain ⟨j, hj⟩ := List.getElem?_of_mem hm
      obtain ⟨e, rfl, _⟩ := hy j y hj
      exact ⟨e, rfl⟩
    rw [List.length_map] at ly
    refine k D H' es sD nD hD ly fun c e z he hz => ?_
    obtain ⟨e', q1, q2⟩ := hy c _ (get_map he)
    cases q1
    exact q2 z hz
end K69

set_option Elab.async false
set_option linter.all false
set_option maxRecDepth 100000
set_option maxHeartbeats 8000000
namespace K69
open PySem PySem.Spec PyProof.Rows L2 Lf LamX Apart
section
variable {P : Program} {w : World} {K : PySem.W.Frag} {mg : Str → Option Value} {base : Heap}
theorem scTwo : FnScope NTw ["_law_source_here"] (defScope s_L_two) := ⟨rfl, rfl, rfl, by decide +kernel, rfl, by decide +kernel, by decide +kernel⟩
theorem ok_two {f : Addr} {fd : FuncData} {q : Str} (F : FunD K "_law_two" q (defArgs s_L_two) (defBody s_L_two) (defScope s_L_two) [] [] f fd) (T : Txt P w K mg base)
    (DD : Def P w K mg base CX0 1 "_law_draw" ["_law_source_here", "_law_many"] spDraw) (DN : Def P w K mg base CX0 4 "_law_plan" ["_law_source_here", "_law_most"] spPlan)
    (DM : Def P w K mg base CX0 3 "_law_moves" ["_law_source_here", "_law_many", "_law_letters"] spMoves) :
    FnOk P w K mg base CX0 5 f fd ["_law_source_here"] (spTwo K) := by
  have zn : mg "len" = none := T.fr 59 "len" rfl
  have zr : mg "range" = none := T.fr 63 "range" rfl
  have zi : mg "int" = none := T.fr 57 "int" rfl
  refine F.ok scTwo (fun vs H Q E h => ?_) (fun cdv A outer s H vs Q E hr h => ?_)
  · obtain ⟨l, n, rfl, _⟩ := h
    rfl
  · obtain ⟨l, n, rfl, src, n1, k⟩ := h
    have r1 : Room 1 _ := hr.mono (by decide)
    have r3 : Room 3 _ := hr.mono (by decide)
    refine ⟨_, PSs.nox (pss_cons (ps_set (i := 1) scTwo.nd rfl (.inr rfl) (pe_def DN hr pass0 rfl (pa_cons (pv 0) (pa_cons pe_int pa_nil))))
      (pss_cons (ps_asg (pe_tup (pa_cons (pe_def DD r1 pass0 rfl (pa_cons (pv 0) (pa_cons pe_int pa_nil))) (pa_cons (pe_callB call_len_seq rfl zn boot_len (pa_cons (pe_ix ix_list (pe_ix ix_tup (pv 1) pe_int (fun _ _ => rfl)) pe_int (fun _ _ => rfl)) pa_nil)) pa_nil))) (pg_tup rfl (pgs_cons (pg_name (i := 2) scTwo.nd rfl (.inl rfl)) (pgs_cons (pg_name (i := 3) scTwo.nd rfl (.inr rfl)) pgs_nil))))
      (pss_cons (ps_if (pt_cmpR op_eq (pv 2) pe_int (nomark _))
        (pss_cons (ps_set (i := 4) scTwo.nd rfl (.inr rfl) (pe_def DD r1 pass0 rfl (pa_cons (pv 0) (pa_cons (pe_callB call_len_seq rfl zn boot_len (pa_cons (pe_ix ix_tup (pv 1) pe_int (fun _ _ => rfl)) pa_nil)) pa_nil))))
        (pss_cons (ps_setLc (i := 5) (own := [("_law_state", 10)]) (g := gName 10) (tt := ttTw K) (te := tVar 10) rfl scTwo.nd rfl rfl (by rfl) (pi_range1 rfl zr (pa_cons (pe_callB call_len_seq rfl zn boot_len (pa_cons (pe_ix ix_tup (pv 1) pe_int (fun _ _ => rfl)) pa_nil)) pa_nil)) (blkOk_by (own := [("_law_state", 10)]) (N := NTw) (sc := defScope s_L_two) (by decide +kernel)) (fun _ _ _ _ _ => pg_name (i := 10) scTwo.nd rfl (Or.inl rfl))
          (fun _ _ _ _ _ => by exact pts_one (pt_cmpR op_ne (pe_cmpR op_in_seq (pv 10) (pe_ix ix_tup (pv 1) pe_int (fun _ _ => rfl)) (by rfl)) (pe_cmpR op_eq (pv 10) (pv 4) (nomark _)) (nomark _))) (fun _ _ _ _ _ => pv 10))
        (pss_one (ps_ret (pe_tup (pa_cons (pv 1) (pa_cons (pe_tup (pa_cons (pe_ix ix_tup (pv 1) pe_int (fun _ _ => rfl)) (pa_cons (pe_ix ix_tup (pv 1) pe_int (fun _ _ => rfl)) (pa_cons (pv 5) pa_nil)))) pa_nil))))))) pss_nil)
      (pss_cons (ps_if (pt_cmpR op_eq (pv 2) pe_int (nomark _))
        (pss_cons (ps_set (i := 6) scTwo.nd rfl (.inl rfl) (pe_lst (pa_cons (pe_op op_add pe_int (pe_def DD r1 pass0 rfl (pa_cons (pv 0) (pa_cons pe_int pa_nil)))) (pa_cons (pe_op op_add pe_int (pe_def DD r1 pass0 rfl (pa_cons (pv 0) (pa_cons pe_int pa_nil)))) pa_nil))))
        (pss_cons (ps_setLc (i := 8) (own := [("_law_many", 7)]) (g := gName 7) (te := teRg) rfl scTwo.nd rfl rfl (by rfl) (pi_list (pv 6)) (blkOk_by (own := [("_law_many", 7)]) (N := NTw) (sc := defScope s_L_two) (by decide +kernel)) (fun _ _ _ _ _ => pg_name (i := 7) scTwo.nd rfl (Or.inr rfl)) (fun _ _ _ _ _ => pts_nil)
          (fun _ _ _ _ _ => by
            refine pe_tup (pa_cons ?_ (pa_cons pe_int (pa_cons (pe_lst (pa_cons pe_int pa_nil)) pa_nil)))
            refine pe_lc (own := [("_law_state", 10)]) (g := gName 10) (te := teRgR) (by rfl) scTwo.nd (pi_range1 rfl zr (pa_cons (pv 7) pa_nil)) (blkOk_by (own := [("_law_state", 10)]) (N := NTw) (sc := scTw1) (by decide +kernel)) (fun _ _ _ _ _ => ?_) (fun _ _ _ _ _ => pts_nil) (fun _ _ _ _ _ => ?_)
            · exact pg_name (i := 10) scTwo.nd rfl (Or.inl rfl)
            · exact pe_op op_rep (pe_lst (pa_cons (pe_op op_mod (pe_callTy call_int1 rfl zi boot_int (pa_cons (pe_op op_add (pv 10) pe_int) pa_nil)) (pv 7)) pa_nil)) (pv 3)))
        (pss_one (ps_ret (pe_tup (pa_cons (pe_ix ix_list (pv 8) pe_int (fun _ _ => rfl)) (pa_cons (pe_ix ix_list (pv 8) pe_int (fun _ _ => rfl)) pa_nil)))))) ) pss_nil)
      (pss_cons (ps_if (pt_cmpR op_eq (pv 2) pe_int (nomark _))
        (pss_one (ps_ret (pe_tup (pa_cons (pv 1) (pa_cons (pe_tup (pa_cons (pe_op op_cat (pe_ix ix_tup (pv 1) pe_int (fun _ _ => rfl)) (pe_lst (pa_cons (pe_ix ix_list (pe_ix ix_tup (pv 1) pe_int (fun _ _ => rfl)) (pe_ix ix_tup (pv 1) pe_int (fun _ _ => rfl)) (fun _ _ => rfl)) pa_nil)))
          (pa_cons (pe_callB call_len_seq rfl zn boot_len (pa_cons (pe_ix ix_tup (pv 1) pe_int (fun _ _ => rfl)) pa_nil))
          (pa_cons (pe_op op_cat (pe_ix ix_tup (pv 1) pe_int (fun _ _ => rfl)) (pe_op op_rep (pe_lst (pa_cons (pe_callB call_len_seq rfl zn boot_len (pa_cons (pe_ix ix_tup (pv 1) pe_int (fun _ _ => rfl)) pa_nil)) pa_nil)) (pe_callTy call_int1 rfl zi boot_int (pa_cons (pe_cmpR op_in_seq (pe_ix ix_tup (pv 1) pe_int (fun _ _ => rfl)) (pe_ix ix_tup (pv 1) pe_int (fun _ _ => rfl)) (by rfl)) pa_nil)))) pa_nil)))) pa_nil))))) pss_nil)
      (pss_cons (ps_set (i := 7) scTwo.nd rfl (.inl rfl) (pe_op op_add pe_int (pe_def DD r1 pass0 rfl (pa_cons (pv 0) (pa_cons pe_int pa_nil)))))
      (pss_cons (ps_set (i := 9) scTwo.nd rfl (.inl rfl) (pe_def DM r3 pass0 rfl (pa_cons (pv 0) (pa_cons (pv 7) (pa_cons (pv 3) pa_nil)))))
      (pss_one (ps_ret (pe_tup (pa_cons (pv 1) (pa_cons (pe_tup (pa_cons (pv 9) (pa_cons (pe_def DD r1 pass0 rfl (pa_cons (pv 0) (pa_cons (pv 7) pa_nil)))
        (pa_cons (pe_lc (own := [("_law_state", 10)]) (g := gName 10) (te := tVar 10) (by rfl) scTwo.nd (pi_range1 rfl zr (pa_cons (pv 7) pa_nil)) (blkOk_by (own := [("_law_state", 10)]) (N := NTw) (sc := defScope s_L_two) (by decide +kernel)) (fun _ _ _ _ _ => pg_name (i := 10) scTwo.nd rfl (Or.inl rfl))
          (fun _ _ _ _ _ => by exact pts_one (pt_cmpR op_eq (pe_def DD r1 pass0 rfl (pa_cons (pv 0) (pa_cons pe_int pa_nil))) pe_int (nomark _))) (fun _ _ _ _ _ => pv 10)) pa_nil)))) pa_nil)))))))))))), ?_⟩
    refine ⟨_, rfl, l, n, rfl, src, by omega, fun T' r pm mv wd first mk H1 b1 nT PL src1 => ?_⟩
    dsimp only
    obtain ⟨nrl, as, hr1, la, ra⟩ := PL.m.ex
    have FM := PL.f
    obtain ⟨f1, f2, f3, f4⟩ := id FM
    have d9 := PL.d
    obtain ⟨a0, ha0⟩ := lt_get (show 0 < as.length by omega)
    obtain ⟨row0, hrow0⟩ := lt_get (show 0 < mv.length by omega)
    have lw0 := (f4 row0 (List.mem_of_getElem? hrow0)).1
    refine ⟨_, rfl, l, n + 200, 4, rfl, src1, by omega, by omega, by omega, fun y H2 y0 y4 b2 src2 => ?_⟩
    have PL2 := PL.but b2
    have hT2 := PL2.t.2
    have hr2 := b2 _ _ nrl hr1
    have ra2 : ∀ (i : Nat) a row, as[i]? = some a → mv[i]? = some row → a ≠ l ∧ H2 a = some (.lst (row.map nv)) := fun i a row h1 h2 => ⟨(ra i a row h1 h2).1, b2 _ _ (ra i a row h1 h2).1 (ra i a row h1 h2).2⟩
    refine ⟨_, rfl, T', _, 0, .ref r, rfl, rfl, SqT.of hT2, rfl, r, as.map V.ref, 0, .ref a0, rfl, rfl, SqL.of hr2, atI_nat (j := 0) (get_map ha0), a0, row0.map nv, rfl, .inl (SqL.of (ra2 0 a0 row0 ha0 hrow0).2), (by show 2 ≤ sizeLine; decide), fun p np => ⟨p, _, rfl, SqT.of upd_same, rfl, _, _, rfl, _, _, rfl, rfl, ?_⟩⟩
    rw [List.length_map, lw0]
    have sp := same_upd (o := .tup [.int y, nv wd]) np
    have PL3 := PL2.same sp
    have hr3 := sp _ _ hr2
    have src3 := src2.same sp
    have b3 := (b1.trans b2).trans (But.of sp)
    clear hT2 hr2 ra ra2 src1 src2 hr1 PL2 PL b1 b2 src
    show tSeq _ _ _ _ (L2.upd H2 p (.tup [.int y, nv wd]))
    generalize L2.upd H2 p (.tup [.int y, nv wd]) = H3 at *
    clear sp np H2 H1
    have hT3 := PL3.t.2
    try dsimp only
    refine ⟨_, rfl, rfl, _, rfl, ?_⟩
    refine ite2 (fun _ => ?_) (fun _ => ?_)
    · refine ⟨_, rfl, _, rfl, T', _, 0, .ref r, rfl, rfl, SqT.of hT3, rfl, r, as.map V.ref, rfl, .inl (SqL.of hr3), l, _, (mv.length : Nat), by rw [List.length_map, la], src3, by omega, by omega, by omega, fun at_ H4 a0 a1 b4 src4 => ?_⟩
      obtain ⟨at_, rfl⟩ : ∃ j : Nat, at_ = (j : Nat) := ⟨at_.toNat, by omega⟩
      have PL4 := PL3.but b4
      have hT4 := PL4.t.2
      have hr4 := b4 _ _ nrl hr3
      dsimp only
      refine ⟨_, rfl, T', _, 0, .ref r, rfl, rfl, SqT.of hT4, rfl, r, as.map V.ref, rfl, .inl (SqL.of hr4), (mv.length : Nat), by rw [List.length_map, la], by omega, by omega, fun D nD => ?_⟩
      have nDl := src4.ne nD
      have hpm4 := PL4.k.2
      refine lc_range (lo := 0) (n := mv.length) (fun i Hc => But D H4 Hc ∧ Hc D = some (.lst (((List.range i).filter (mkOn mk at_)).map nv))) ⟨But.upd, upd_same⟩ (fun i Hc hi ⟨bc, hD⟩ => ?_) (fun Hc ⟨bc, hD⟩ => ?_)
      · have ei : (0 : Int) + (i : Nat) = (i : Nat) := by omega
        rw [ei]
        have sc := Same.but (L2.Same.refl _) nD bc
        refine ⟨rfl, ?_⟩
        refine ⟨_, rfl, _, rfl, T', _, 2, .ref pm, rfl, rfl, SqT.of (sc _ _ hT4), rfl, pm, mk.map nv, rfl, .inl (SqL.of (sc _ _ hpm4)), rfl, flat_nats, _, rfl, _, rfl, rfl, rfl, _, rfl, ?_⟩
        have il := List.length_filter_le (mkOn mk at_) (List.range i)
        rw [List.length_range] at il
        rw [if_neg Bool.false_ne_true, inV_nat]
        refine ite2 (fun c => ?_) (fun c => ?_)
        · refine ⟨_, rfl, _, hD, by rw [List.length_map]; show _ < 16777216; omega, bc.trans But.upd, ?_⟩
          rw [upd_same, List.range_succ, List.filter_append, List.filter_cons, List.filter_nil, if_pos (show mkOn mk at_ i = true from c), List.map_append]
          rfl
        · refine ⟨bc, ?_⟩
          rw [hD, List.range_succ, List.filter_append, List.filter_cons, List.filter_nil, if_neg (show ¬ mkOn mk at_ i = true from c), List.append_nil]
      · have sc := Same.but (L2.Same.refl _) nD bc
        have PL5 := PL4.same sc
        have hT5 := PL5.t.2
        have b5 := (b3.trans b4).trans (But.of sc)
        have ml := List.length_filter_le (mkOn mk at_) (List.range mv.length)
        rw [List.length_range] at ml
        refine ⟨_, rfl, _, rfl, T', _, 0, .ref r, rfl, rfl, SqT.of hT5, rfl, _, rfl, T', _, 1, nv first, rfl, rfl, SqT.of hT5, rfl, _, rfl, (by show 3 ≤ sizeLine; decide), fun S2 nS2 => ⟨(by show 2 ≤ sizeLine; decide), fun X nX => ?_⟩⟩
        have s6 := same_upd (o := .tup [.ref r, nv first, .ref D]) nS2
        have s7 := same_upd (o := .tup [.ref T', .ref S2]) nX
        have s67 := s6.trans s7
        refine k X T' S2 wd mv first mk mv first ((List.range mv.length).filter (mkOn mk at_)) _ _ (b5.trans (But.of s67)) upd_same (PL5.z.same s67) ⟨⟨r, D, s7 _ _ upd_same, (PL5.m.rl).same s67, s67 _ _ hD⟩, FM, PL5.a, fun i hi => List.mem_range.mp (List.mem_filter.mp hi).1, by omega, by omega⟩ ((src4.same sc).same s67) (by omega)
    try dsimp only
    refine ⟨_, rfl, rfl, _, rfl, ?_⟩
    refine ite2 (fun _ => ?_) (fun _ => ?_)
    · refine ⟨_, rfl, l, _, 9, rfl, src3, by omega, by omega, by omega, fun y1 H4 p0 p9 b4 src4 => ⟨_, _, rfl, rfl, _, rfl, l, _, 9, rfl, src4, by omega, by omega, by omega, fun y2 H5 q0 q9 b5 src5 => ⟨_, _, rfl, rfl, (by show 2 ≤ sizeLine; decide), fun pz npz => ?_⟩⟩⟩
      obtain ⟨y1, rfl⟩ : ∃ j : Nat, y1 = (j : Nat) := ⟨y1.toNat, by omega⟩
      obtain ⟨y2, rfl⟩ : ∃ j : Nat, y2 = (j : Nat) := ⟨y2.toNat, by omega⟩
      have nzl := src5.ne npz
      have sz := same_upd (o := .lst [V.int (2 + ((y1 : Nat) : Int)), V.int (2 + ((y2 : Nat) : Int))]) npz
      have hz6 : L2.upd H5 pz (.lst [V.int (2 + ((y1 : Nat) : Int)), V.int (2 + ((y2 : Nat) : Int))]) pz = some (.lst (([2 + y1, 2 + y2] : List Nat).map nv)) := by
        rw [upd_same]
        show some (HO.lst [_, _]) = some (HO.lst [V.int _, V.int _])
        rw [show ((2 + y1 : Nat) : Int) = 2 + ((y1 : Nat) : Int) by omega, show ((2 + y2 : Nat) : Int) = 2 + ((y2 : Nat) : Int) by omega]
      have b6 := ((b3.trans b4).trans b5).trans (But.of sz)
      have src6 := src5.same sz
      show tSeq _ _ _ [some (.ref l), some (.ref T'), some (.int y), some (nv wd), none, none, some (.ref pz), none, none, none, none] (L2.upd H5 pz (.lst [V.int (2 + ((y1 : Nat) : Int)), V.int (2 + ((y2 : Nat) : Int))]))
      generalize L2.upd H5 pz (.lst [V.int (2 + ((y1 : Nat) : Int)), V.int (2 + ((y2 : Nat) : Int))]) = H6 at hz6 b6 src6 ⊢
      clear b5 b4 src5 src4 sz npz PL3 hr3 b3 src3 hT3
      refine seq_asg (rings_e (K := K) f2 f3 hz6 (fun z hz => ?_) (Nat.le_refl 2) fun D H7 es s7 nD hD le PE => ?_)
      · simp only [List.mem_cons, List.not_mem_nil, or_false] at hz
        omega
      · match es, le with
        | [e1, e2], _ =>
          have P1 := PE 0 e1 _ rfl rfl
          have P2 := PE 1 e2 _ rfl rfl
          refine ⟨_, rfl, D, _, 0, .ref e1, rfl, rfl, SqL.of hD, rfl, _, rfl, D, _, 1, .ref e2, rfl, rfl, SqL.of hD, rfl, (by show 2 ≤ sizeLine; decide), fun X nX => ?_⟩
          have sX := same_upd (o := .tup [.ref e1, .ref e2]) nX
          exact k X e1 e2 wd _ 0 [0] _ 0 [0] _ _ (b6.trans (But.of (s7.trans sX))) upd_same (P1.same sX) (P2.same sX) (src6.same (s7.trans sX)) (by omega)
    try dsimp only
    refine ⟨_, rfl, rfl, _, rfl, ?_⟩
    refine ite2 (fun _ => ?_) (fun _ => ?_)
    · obtain ⟨af, haf⟩ := lt_get (show first < as.length by have := PL3.a; omega)
      obtain ⟨rowf, hrowf⟩ := lt_get PL3.a
      have hpm3 := PL3.k.2
      refine ⟨_, rfl, _, rfl, T', _, 0, .ref r, rfl, rfl, SqT.of hT3, rfl, _, rfl, T', _, 0, .ref r, rfl, rfl, SqT.of hT3, rfl, _, rfl, T', _, 1, nv first, rfl, rfl, SqT.of hT3, rfl, r, as.map V.ref, _, .ref af, rfl, rfl, SqL.of hr3, atI_nat (get_map haf), (by show 1 ≤ sizeLine; decide), fun q nq => ?_⟩
      have s4 := same_upd (o := .lst [.ref af]) nq
      refine ⟨r, q, as.map V.ref, _, rfl, rfl, s4 _ _ hr3, upd_same, by rw [List.length_map]; show as.length + 1 ≤ 16777216; omega, fun r2 nr2 => ?_⟩
      have s5 := s4.trans (same_upd (o := .lst (as.map V.ref ++ [.ref af])) nr2)
      have hr5 : L2.upd (L2.upd H3 q (.lst [.ref af])) r2 (.lst (as.map V.ref ++ [.ref af])) r2 = some (.lst ((as ++ [af]).map V.ref)) := by rw [upd_same, List.map_append]; rfl
      generalize L2.upd (L2.upd H3 q (.lst [.ref af])) r2 (.lst (as.map V.ref ++ [.ref af])) = H5 at s5 hr5 ⊢
      clear s4
      refine ⟨_, rfl, T', _, 0, .ref r, rfl, rfl, SqT.of (s5 _ _ hT3), rfl, r, as.map V.ref, rfl, .inl (SqL.of (s5 _ _ hr3)), ?_⟩
      refine ⟨_, rfl, T', _, 2, .ref pm, rfl, rfl, SqT.of (s5 _ _ hT3), rfl, _, rfl, T', _, 0, .ref r, rfl, rfl, SqT.of (s5 _ _ hT3), rfl, r, as.map V.ref, rfl, .inl (SqL.of (s5 _ _ hr3)), (by show 1 ≤ sizeLine; decide), fun q3 nq3 => ?_⟩
      have e6 : ((as.map V.ref).length : Int) = ((mv.length : Nat) : Int) := by rw [List.length_map, la]
      rw [e6]
      have s6 := s5.trans (same_upd (o := .lst [V.int (mv.length : Nat)]) nq3)
      refine ⟨_, rfl, T', _, 1, nv first, rfl, rfl, SqT.of (s6 _ _ hT3), rfl, _, rfl, T', _, 2, .ref pm, rfl, rfl, SqT.of (s6 _ _ hT3), rfl, pm, mk.map nv, rfl, .inl (SqL.of (s6 _ _ hpm3)), rfl, flat_nats, .inr ⟨_, rfl, ?_⟩⟩
      obtain ⟨j, j1, ej⟩ : ∃ j : Nat, j ≤ 1 ∧ (if (if false = true then !inV (nv first) (mk.map nv) else inV (nv first) (mk.map nv)) = true then (1 : Int) else 0) = ((j : Nat) : Int) := by
        rw [if_neg Bool.false_ne_true]
        split
        · exact ⟨1, Nat.le_refl 1, rfl⟩
        · exact ⟨0, Nat.zero_le 1, rfl⟩
      rw [ej]
      refine ⟨q3, (j : Nat), _, rfl, rfl, upd_same, by omega, by omega, by rw [Int.toNat_natCast]; show 1 * j ≤ 16777216; omega, fun q4 nq4 => ?_⟩
      rw [Int.toNat_natCast, rep2]
      have s7 := s6.trans (same_upd (o := .lst (List.replicate j (V.int (mv.length : Nat)))) nq4)
      have hq4 : L2.upd (L2.upd H5 q3 (.lst [V.int (mv.length : Nat)])) q4 (.lst (List.replicate j (V.int (mv.length : Nat)))) q4 = some (.lst (List.replicate j (V.int (mv.length : Nat)))) := upd_same
      have hr7 := ((same_upd (o := .lst [V.int (mv.length : Nat)]) nq3).trans (same_upd (o := .lst (List.replicate j (V.int (mv.length : Nat)))) nq4)) _ _ hr5
      generalize L2.upd (L2.upd H5 q3 (.lst [V.int (mv.length : Nat)])) q4 (.lst (List.replicate j (V.int (mv.length : Nat)))) = H7 at s7 hq4 hr7 ⊢
      clear s6 s5 hr5 nq3 nq4
      have c9 := PL3.c
      refine ⟨pm, q4, mk.map nv, _, rfl, rfl, s7 _ _ hpm3, hq4, by rw [List.length_map, List.length_replicate]; show mk.length + j ≤ 16777216; omega, fun pk npk => ?_⟩
      have s8 := same_upd (o := .lst (mk.map nv ++ List.replicate j (V.int (mv.length : Nat)))) npk
      have hpk : L2.upd H7 pk (.lst (mk.map nv ++ List.replicate j (V.int (mv.length : Nat)))) pk = some (.lst ((mk ++ List.replicate j mv.length).map nv)) := by
        rw [upd_same, List.map_append, List.map_replicate]
      have hr8 := s8 _ _ hr7
      have s38 := s7.trans s8
      generalize L2.upd H7 pk (.lst (mk.map nv ++ List.replicate j (V.int (mv.length : Nat)))) = H8 at s8 hpk hr8 s38 ⊢
      refine ⟨(by show 3 ≤ sizeLine; decide), fun S2 nS2 => ⟨(by show 2 ≤ sizeLine; decide), fun X nX => ?_⟩⟩
      have s9 := same_upd (o := .tup [.ref r2, nv mv.length, .ref pk]) nS2
      have s10 := same_upd (o := .tup [.ref T', .ref S2]) nX
      have s9X := s9.trans s10
      have sall := s38.trans s9X
      have hrow : ∀ (i : Nat) a row, (as ++ [af])[i]? = some a → (mv ++ [rowf])[i]? = some row → H3 a = some (.lst (row.map nv)) := fun i a row h1 h2 => by
        obtain ⟨_, as', hr', la', ra'⟩ := PL3.m.ex
        have ea : as' = as := by
          rw [hr3] at hr'
          have := HO.lst.inj (Option.some.inj hr')
          exact (List.map_inj_right fun a b h => V.ref.inj h).mp this.symm
        subst ea
        rcases Mon.snoc_cases h1 with g1 | ⟨z1, rfl⟩
        · rcases Mon.snoc_cases h2 with g2 | ⟨z2, rfl⟩
          · exact (ra' i a row g1 g2).2
          · have := get_lt g1
            omega
        · rcases Mon.snoc_cases h2 with g2 | ⟨z2, rfl⟩
          · have := get_lt g2
            omega
          · exact (ra' first a row haf hrowf).2
      refine k X T' S2 wd mv first mk (mv ++ [rowf]) mv.length (mk ++ List.replicate j mv.length) _ _ (b3.trans (But.of sall)) upd_same (PL3.z.same sall)
        ⟨⟨r2, pk, s10 _ _ upd_same, ⟨as ++ [af], SqL.of (s9X _ _ hr8), by rw [List.length_append, List.length_append, la]; rfl, fun i a row h1 h2 => SqL.of (sall _ _ (hrow i a row h1 h2))⟩, s9X _ _ hpk⟩, ⟨by rw [List.length_append]; omega, f2, f3, fun row hr => ?_⟩, by rw [List.length_append]; show mv.length < mv.length + 1; omega, fun i hi => ?_, by rw [List.length_append, List.length_replicate]; omega, by rw [List.length_append]; show mv.length + 1 ≤ 12; omega⟩ (src3.same sall) (by omega)
      · rw [List.length_append]
        show row.length = wd ∧ ∀ t ∈ row, t < mv.length + 1
        rcases List.mem_append.mp hr with g | g
        · exact ⟨(f4 row g).1, fun t ht => Nat.lt_succ_of_lt ((f4 row g).2 t ht)⟩
        · rw [List.mem_singleton.mp g]
          have := f4 rowf (List.mem_of_getElem? hrowf)
          exact ⟨this.1, fun t ht => Nat.lt_succ_of_lt (this.2 t ht)⟩
      · rw [List.length_append]
        show i < mv.length + 1
        rcases List.mem_append.mp hi with g | g
        · exact Nat.lt_succ_of_lt (PL3.b i g)
        · rw [(List.mem_replicate.mp g).2]
          omega
    · refine ⟨_, rfl, l, _, 7, rfl, src3, by omega, by omega, by omega, fun ym H4 p0 p7 b4 src4 => ⟨_, _, rfl, rfl, ?_⟩⟩
      obtain ⟨ym, rfl⟩ : ∃ j : Nat, ym = (j : Nat) := ⟨ym.toNat, by omega⟩
      obtain ⟨many, hm⟩ : ∃ many, many = 1 + ym := ⟨_, rfl⟩
      have em : (1 : Int) + ((ym : Nat) : Int) = ((many : Nat) : Int) := by omega
      show tSeq _ _ _ [some (.ref l), some (.ref T'), some (.int y), some (nv wd), none, none, none, some (.int (1 + ((ym : Nat) : Int))), none, none, none] H4
      rw [em]
      refine ⟨_, rfl, _, rfl, _, rfl, l, _, many, wd, rfl, src4, by omega, by omega, by omega, f2, f3, fun r' mv' H5 b5 nr' R' FM' lm src5 => ?_⟩
      have b35 := (b3.trans b4).trans b5
      have PL5 := PL3.but (b4.trans b5)
      dsimp only
      show tRet _ _ (List.set [some (.ref l), some (.ref T'), some (.int y), some (nv wd), none, none, none, some (.int (many : Nat)), none, none, none] 9 (some (.ref r'))) H5
      refine ⟨_, rfl, _, rfl, _, rfl, _, rfl, l, _, many, rfl, src5, by omega, by omega, by omega, fun st H6 s0 s1 b6 src6 => ⟨_, rfl, (many : Nat), rfl, by omega, by omega, fun D nD => ?_⟩⟩
      obtain ⟨st, rfl⟩ : ∃ j : Nat, st = (j : Nat) := ⟨st.toNat, by omega⟩
      have nDl := src6.ne nD
      have R6 := R'.but b6
      have PL6 := PL5.but b6
      refine lc_range (lo := 0) (n := many) (fun i Hc => But2 l D H6 Hc ∧ Src Hc l (n + 200 + 1 + 1 + 100 + 1 + i) ∧ ∃ mk : List Nat, Hc D = some (.lst (mk.map nv)) ∧ mk.length ≤ i ∧ ∀ e ∈ mk, e < many) ⟨But2.ofD But.upd, src6.upd nDl, [], upd_same, Nat.le_refl _, fun _ h => by simp at h⟩ (fun i Hc hi ⟨bt, sc, mk', hD, lk, ak⟩ => ?_) (fun Hc ⟨bt, sc, mk', hD, lk, ak⟩ => ?_)
      · have ei : (0 : Int) + (i : Nat) = (i : Nat) := by omega
        rw [ei]
        refine ⟨rfl, ?_⟩
        refine ⟨_, rfl, l, n + 200 + 1 + 1 + 100 + 1 + i, 2, rfl, sc, by omega, by omega, by omega, fun k0 H' _ _ b' src' => ⟨rfl, _, rfl, ?_⟩⟩
        have hD' := b' _ _ nDl hD
        refine ite2 (fun _ => ?_) (fun _ => ?_)
        · refine ⟨_, rfl, _, hD', by rw [List.length_map]; show mk'.length < 16777216; omega, (bt.trans (But2.ofL b')).trans (But2.ofD But.upd), src'.upd nDl, mk' ++ [i], by rw [upd_same, List.map_append]; rfl, by rw [List.length_append, List.length_singleton]; omega, valid_snoc ak (by omega)⟩
        · exact ⟨bt.trans (But2.ofL b'), src', mk', hD', by omega, ak⟩
      · have b7 := (b35.trans b6).trans (bt.done nD)
        have R7 := R6.but (bt.done nD)
        have PL7 := PL6.but (bt.done nD)
        refine ⟨(by show 3 ≤ sizeLine; decide), fun S2 nS2 => ⟨(by show 2 ≤ sizeLine; decide), fun X nX => ?_⟩⟩
        have s8 := same_upd (o := .tup [.ref r', nv st, .ref D]) nS2
        have s9 := same_upd (o := .tup [.ref T', .ref S2]) nX
        have s89 := s8.trans s9
        exact k X T' S2 wd mv first mk mv' st mk' _ _ (b7.trans (But.of s89)) upd_same (PL7.z.same s89) ⟨⟨r', D, s9 _ _ upd_same, R7.rl.same s89, s89 _ _ hD⟩, FM', by omega, fun i hi => by rw [lm]; exact ak i hi, by omega, by omega⟩ (sc.same s89) (by omega)
end
end K69

set_option Elab.async false
set_option linter.all false
set_option maxRecDepth 100000
set_option maxHeartbeats 8000000
/-! told() of a caught error with fields that was raised here. -/
namespace Lf
open PySem PySem.Spec PyProof.Rows L2
section
variable {X : Cx} {a C f : Addr} {o1 : Obj} {pn : List (Addr × Obj)} {d : Option Addr} {m : Str} {fd : FuncData} {sp : Sp} {k : Nat}
/-- the caught error as an instance -/
theorem caught_instX {pins : List (Addr × Obj)} {σ : L2.St} {H : Hp} {s : Shared} (I : Inv (X.suite a ((a, o1) :: pn)) pins σ H s) (z : Zc (.ref C) d o1) (fl : ∃ vs, o1.data = .fields vs) (hd : ∀ dx, d = some dx → ∃ fs, H dx = some (.xd fs) ∧ fs.lookup m = none) :
    ∃ od, PySem.W.InstAt s.heap a o1 C od ∧ PySem.W.shadowIn od m = some false := by
  obtain ⟨g, _⟩ := I.pin (a, o1) (List.mem_append_left _ List.mem_cons_self)
  obtain ⟨vs, hv⟩ := fl
  have nc : PySem.W.notCls o1 = true := by unfold PySem.W.notCls; rw [hv] <;> rfl
  cases d with
  | none => exact ⟨none, ⟨g, z.1, nc, by rw [z.2]; trivial⟩, rfl⟩
  | some dx =>
    obtain ⟨fs, e, lk⟩ := hd dx rfl
    obtain ⟨mA, ns, rel⟩ := (show ObjOk X.prog X.w H s.heap dx (.xd fs) from I.hok dx _ e)
    obtain ⟨od, h2, hk⟩ := lookIn_ns ns
    refine ⟨some od, ⟨g, z.1, nc, by rw [z.2]; exact h2⟩, ?_⟩
    have hm : mA m = none := by
      have r := rel m
      rw [lk] at r
      cases y : mA m with
      | none => rfl
      | some v => rw [y] at r; exact r.elim
    show (PySem.W.lookIn m od).map _ = _
    rw [hk, hm]
    rfl
def tToldX (a : Addr) (d : Option Addr) (m : Str) (sp : Sp) (te : TE) : TE := fun σ H Q => te σ H fun x H1 => x = .ref a ∧ (∀ dx, d = some dx → ∃ fs, H1 dx = some (.xd fs) ∧ fs.lookup m = none) ∧ sp [.ref a] H1 Q E0
/-- e.m() of the caught error e -/
theorem pe_toldX {o : Expr} {te : TE} {pos apos : Pos} {pl : Sem Bool} (T : IsC X.K C) (M : Meth X.K C m f) (F : FnW X.prog X.w X.K X.mg X.base k f fd ["self"] sp) (hb : L2.Binds X.K fd ["self"] []) (hr : L2H.RoomH k X.A) (z : Zc (.ref C) d o1) (fl : ∃ vs, o1.data = .fields vs)
    (he : PE (X.suite a ((a, o1) :: pn)) o te)
    (ht : eval (.Call (.Attribute o m apos) [] [] pos) X.env = (do
      let ov ← eval o X.env
      standAt apos.atName
      let (f, first) ← holding [ov] (getMethod ov m pl)
      callWith pos f first (backTo pos (starEach [] X.env)) (backToKw pos (keywordEach [] X.env))) := by rfl) :
    PE (X.suite a ((a, o1) :: pn)) (.Call (.Attribute o m apos) [] [] pos) (tToldX a d m sp te) := by
  refine ⟨fun pins s σ H Q I h => ?_⟩
  refine PySem.W.methodCall_KW (pl := pl) (thn (he.run pins s σ H _ I h) fun u s1 hh => ?_) ht
  obtain ⟨x, H1, I1, rx, rfl, hd, q⟩ := hh
  obtain rfl : u = Value.ref a := rx
  obtain ⟨mm, fr⟩ := I1.fr
  obtain ⟨od, J, sh⟩ := caught_instX I1 z fl hd
  refine PySem.W.method_exc fr I1.ok.mod.kin J T.ga T.gg M.at_ M.fn sh (PySem.W.callWith_K0 (first := [.ref a]) I1.kIn M.kp ?_)
  have pin := I1.pin (a, o1) (List.mem_append_left _ List.mem_cons_self)
  have pk : L2H.PinOk (X.suite a ((a, o1) :: pn)).stack H1 s1 (a, o1) := ⟨pin.1, pin.2.1, fun hm => (List.mem_cons.mp (I1.stkSub _ hm)).elim pin.2.2.1 pin.2.2.2.1, pin.2.2.2.2⟩
  have room : L2H.RoomH k (X.suite a ((a, o1) :: pn)).A := ⟨hr.dp, hr.un⟩
  have bd := hb s1 [.ref a] I1.kIn rfl
  refine wpAny_call (codeAny_mono (F.run _ _ s1 H1 ⟨[.ref a], []⟩ [.ref a] [.ref a] Q (a, o1) room pk I1.env0 (by simpa using bd) (.cons rfl .nil) q) fun r s' hq => ?_)
  cases r with
  | error e => exact (show False from hq).elim
  | ok fl' =>
    cases fl' with
    | ret u => exact I1.after hq
    | next => exact hq.elim
    | brk => exact hq.elim
    | cont => exact hq.elim
end
end Lf

set_option Elab.async false
set_option linter.all false
set_option maxRecDepth 100000
set_option maxHeartbeats 8000000
namespace K69
open PySem PySem.Spec PyProof.Rows L2 Lf LamX Apart
def spIsR (K : PySem.W.Frag) : Sp := fun vs H Q _ => ∃ a b r1 w1 s1 a1 r2 w2 s2 a2, vs = [.ref a, .ref b] ∧ Ask K H a r1 w1 s1 a1 ∧ Ask K H b r2 w2 s2 a2 ∧ r1.length + r2.length ≤ 700 ∧ w1 ≠ w2 ∧ ∀ H', Same H H' → Q (.bl true) H'
def tsIr (K : PySem.W.Frag) : Addr → Value → Option Addr → TS := fun a cls d D σ H => cls = .ref (He.ga K "OtherLetters") ∧ d = none ∧ σ[2]? = some (some (.ref a)) ∧ D.rt (.bl true) H
section
variable {P : Program} {w : World} {K : PySem.W.Frag} {mg : Str → Option Value} {base : Heap}
theorem Txt.bare (T : Txt P w K mg base) {x : Str} (hx : x ∈ bares) : Lf.ErrC K (He.ga K x) := by
  have z := (He.ba (He.ba T.m).2).1
  exact errB_ok (He.ba (List.all_eq_true.mp z x hx)).1
theorem scTold0 : FnScope ["self"] ["self"] (defScope s_OtherLetters_told) := ⟨rfl, rfl, rfl, by decide +kernel, rfl, by decide +kernel, by decide +kernel⟩
theorem scIr : FnScope ["_law_one", "_law_other", "e"] ["_law_one", "_law_other"] (defScope s_L_is_refused) := ⟨rfl, rfl, rfl, by decide +kernel, rfl, by decide +kernel, by decide +kernel⟩
theorem ok_ir {f : Addr} {fd : FuncData} {q : Str} (F : FunD K "_law_is_refused" q (defArgs s_L_is_refused) (defBody s_L_is_refused) (defScope s_L_is_refused) [] [] f fd) (T : Txt P w K mg base)
    {fs : Addr} {fds : FuncData} (gs : mg "unlike_word" = some (.ref fs)) (ks : PySem.W.keepIn K (.ref fs) = true) (FS : FnOk P w K mg base (L2.CX P w) 4 fs fds ["one", "other"] (spUnl K)) (bS : Binds K fds ["one", "other"] []) :
    FnOk P w K mg base CX0 5 f fd ["_law_one", "_law_other"] (spIsR K) := by
  have B := T.bare (x := "OtherLetters") (by decide)
  obtain ⟨fdt, Ft⟩ := T.d.def_ 11 (d := d_OtherLetters_told) rfl
  have M : Meth K (He.ga K "OtherLetters") "told" (He.ma K (He.ga K "OtherLetters") "told") := He.meth_ok (T.d.fact 106 (f := .meth "OtherLetters" "told") rfl)
  have FW : FnW P w K mg base 1 (He.fAd K d_OtherLetters_told.at_) fdt ["self"] (Lf.spTold "refused otherletters") := Lf.told_okW Ft scTold0
  have bT : L2.Binds K fdt ["self"] [] := Ft.bindsN fun _ _ _ _ _ _ us hl => match us, hl with | [_], _ => rfl
  have x1 : PySem.W.exmOne K (.ref (He.ga K "OtherLetters")) (.ref (He.ga K "OtherLetters")) = some true := He.exm_ok (T.d.fact 136 (f := .exm "OtherLetters" "OtherLetters" true) rfl)
  refine F.ok scIr (fun vs H Q E h => ?_) (fun cdv A outer s H vs Q E hr h => ?_)
  · obtain ⟨a, b, r1, w1, s1, a1, r2, w2, s2, a2, rfl, _⟩ := h
    rfl
  · obtain ⟨a, b, r1, w1, s1, a1, r2, w2, s2, a2, rfl, A1, A2, l7, nw, k⟩ := h
    have room : L2H.RoomH 1 (A.deeper (envOfC q (defScope s_L_is_refused) s.heap.objs.size f cdv)) := ⟨by have := hr.dp; omega, by have := hr.un; omega⟩
    refine ⟨_, PSs.nox (pss_cons (ps_tryA (X := (cxOf CX0 P w K mg base ["_law_one", "_law_other", "e"] q (defScope s_L_is_refused) f cdv A outer s H E).nox)
      (l := [(.ref (He.ga K "OtherLetters"), some 2, tsIr K), (.ref (He.ga K "FoldError"), none, fun _ _ _ => fun D _ H => D.rt (.bl false) H)])
      rfl rfl scIr.nd LamX.takes0 (fun W pn xe tk _ => pss_one (ps_expr (pe_callS FS hr rfl gs ks bS (fun σ => passAt tk σ) (pa_cons (pv 0) (pa_cons (pv 1) pa_nil)))))
      (.as (i := 2) ⟨rfl, by decide +kernel, .inl (T.gl 4 "OtherLetters" rfl)⟩ rfl rfl (fun a o cls d pn z fl => ?s1)
      (.plain ⟨rfl, by decide +kernel, .inl (T.gl 0 "FoldError" rfl)⟩ (fun a o cls d pn _ _ => pss_one (ps_ret pe_bl)) .nil)))
      (pss_one (ps_ret pe_bl))), ?fin⟩
    case s1 =>
      refine pss_some fun D σ H' h' => ?_
      obtain ⟨rfl, rfl, h2, k⟩ := h'
      refine ⟨_, pss_one (ps_ret (pe_cmpR op_eq ((by exact pe_toldX (X := (cxOf CX0 P w K mg base ["_law_one", "_law_other", "e"] q (defScope s_L_is_refused) f cdv A outer s H E).nox) B.i M FW bT room z fl (pv 2)) :
          PE ((cxOf CX0 P w K mg base ["_law_one", "_law_other", "e"] q (defScope s_L_is_refused) f cdv A outer s H E).nox.suite a ((a, o) :: pn)) _ (tToldX a none "told" (Lf.spTold "refused otherletters") (tVar 2))) pe_str (nomark _))), ?_⟩
      refine ⟨_, h2, rfl, fun dx e => (nomatch e), _, rfl, rfl, ?_⟩
      show D.rt (.bl (decide (V.str "refused otherletters" = V.str "refused otherletters"))) H'
      rw [decide_eq_true rfl]
      exact k
    case fin =>
      refine ⟨_, rfl, _, rfl, a, b, r1, w1, s1, a1, r2, w2, s2, a2, rfl, A1, A2, l7, fun e => (nw e).elim, fun _ H' sd => fun ln => ⟨true, x1, fun _ b nb => ⟨rfl, rfl, rfl, k _ sd⟩, fun z => nomatch z⟩⟩
end
end K69

set_option Elab.async false
set_option linter.all false
set_option maxRecDepth 100000
set_option maxHeartbeats 8000000
namespace K69
open PySem PySem.Spec PyProof.Rows L2 Lf LamX Apart
/-- all but the thing at l and the tables of code objects stay -/
def Grow (l : Addr) (H H' : Hp) : Prop := ∀ b o, b ≠ l → H b = some o → (∀ ps, o ≠ .tbl ps) → H' b = some o
theorem Grow.of {l : Addr} {H H' : Hp} (e : But l H H') : Grow l H H' := fun b o n h _ => e b o n h
theorem Grow.ext {l : Addr} {H H' : Hp} (e : ExtN H H') : Grow l H H' := fun b o _ h t => e b o h t
theorem Grow.trans {l : Addr} {H H1 H2 : Hp} (a : Grow l H H1) (b : Grow l H1 H2) : Grow l H H2 := fun c o n h t => b c o n (a c o n h t) t
theorem Src.ext {H H' : Hp} {l : Addr} {n : Nat} (h : Src H l n) (e : ExtN H H') : Src H' l n := by
  obtain ⟨a, b, c, h, r⟩ := h
  exact ⟨a, b, c, e _ _ h fun _ z => (nomatch z), r⟩
theorem Tabs.but {T : List (Addr × Str)} {H H' : Hp} {l : Addr} {xs : List V} (t : Tabs T H) (hl : H l = some (.lst xs)) (b : But l H H') : Tabs T H' := fun p hp => by
  obtain ⟨ps, h1, h2, h3⟩ := t p hp
  have ne : ∀ {c : Addr} {o : HO}, H c = some o → (∀ ys, o ≠ .lst ys) → c ≠ l := fun {c o} e n z => by
    rw [z, hl] at e
    exact n _ (Option.some.inj e).symm
  refine ⟨ps, b _ _ (ne h1 fun _ z => nomatch z) h1, h2, fun pos cv hc => ?_⟩
  obtain ⟨c, e1, e2⟩ := h3 pos cv hc
  exact ⟨c, e1, b _ _ (ne e2 fun _ z => by unfold CodeO at z; cases z) e2⟩
def spRight (K : PySem.W.Frag) : Sp := fun vs H Q _ => ∃ (l : Addr) (n : Nat), vs = [.ref l] ∧ Src H l n ∧ n + 600 ≤ 1000000 ∧ Tabs (tbW K) H ∧ ∀ H' n', Grow l H H' → Tabs (tbW K) H' → Src H' l n' → n' ≤ n + 600 → Q (.bl true) H'
abbrev NRg : List Str := ["_law_source_here", "_law_one", "_law_other", "_law_due", "_law_first", "_law_second", "_law_wide"]
theorem oW_ne {o : Option (List Nat)} : scal (oW o) (oW o) = true := by cases o <;> rfl
theorem dl_sym {wd : Nat} {r1 r2 : List (List Nat)} {s1 s2 : Nat} {a1 a2 : List Nat} {o : Option (List Nat)} (h : IsLeast wd (DL r1 s1 a1 r2 s2 a2) o) : IsLeast wd (DL r2 s2 a2 r1 s1 a1) o := h.congr fun v _ => ⟨fun z => z.symm, fun z => z.symm⟩
theorem dl_self {wd : Nat} {r : List (List Nat)} {s : Nat} {a : List Nat} : IsLeast wd (DL r s a r s a) none := fun v _ h => h rfl
theorem dl_l {wd : Nat} {R r1 r2 : List (List Nat)} {S s1 s2 : Nat} {A a1 a2 : List Nat} {o : Option (List Nat)} (e : ∀ z : List Nat, (∀ c ∈ z, c < wd) → (lead R S z ∈ A ↔ lead r1 s1 z ∈ a1)) (h : IsLeast wd (DL r1 s1 a1 r2 s2 a2) o) : IsLeast wd (DL R S A r2 s2 a2) o := h.congr fun v hv => by
  unfold DL
  rw [decide_eq_decide.mpr (e v hv)]
section
variable {P : Program} {w : World} {K : PySem.W.Frag} {mg : Str → Option Value} {base : Heap}
theorem scRg : FnScope NRg ["_law_source_here"] (defScope s_L_right) := ⟨rfl, rfl, rfl, by decide +kernel, rfl, by decide +kernel, by decide +kernel⟩
theorem ok_right {f : Addr} {fd : FuncData} {q : Str} (F : FunD K "_law_right" q (defArgs s_L_right) (defBody s_L_right) (defScope s_L_right) [] [] f fd) (T : Txt P w K mg base)
    (D2 : Def P w K mg base CX0 5 "_law_two" ["_law_source_here"] (spTwo K)) (DA : Def P w K mg base CX0 1 "_law_apart" ["_law_one", "_law_other"] (spApart K)) (DM : Def P w K mg base CX0 7 "_law_made" ["_law_plan_here"] (spMade2 K))
    (DY : Def P w K mg base CX0 7 "syntactic" ["thing"] (spSyn K)) (DI : Def P w K mg base CX0 5 "_law_is_refused" ["_law_one", "_law_other"] (spIsR K))
    {fa : Addr} {fda : FuncData} (mA : Mk K (He.ga K "Automaton") fa) (FA : FnOk P w K mg base CX0 5 fa fda ["self", "rows", "start", "accepted"] (spAut K)) (bA : Binds K fda ["self", "rows", "start", "accepted"] [])
    {fs : Addr} {fds : FuncData} (gs : mg "unlike_word" = some (.ref fs)) (ks : PySem.W.keepIn K (.ref fs) = true) (FS : FnOk P w K mg base (L2.CX P w) 4 fs fds ["one", "other"] (spUnl K)) (bS : Binds K fds ["one", "other"] []) :
    FnOk P w K mg base CX0 8 f fd ["_law_source_here"] (spRight K) := by
  have zn : mg "len" = none := T.fr 59 "len" rfl
  have zi : mg "int" = none := T.fr 57 "int" rfl
  refine F.ok scRg (fun vs H Q E h => ?_) (fun cdv A outer s H vs Q E hr h => ?_)
  · obtain ⟨l, n, rfl, _⟩ := h
    rfl
  · obtain ⟨l, n, rfl, src, n1, tb, k⟩ := h
    have R1 : Room 1 _ := hr.mono (by decide)
    have R4 : Room 4 _ := hr.mono (by decide)
    have R5 : Room 5 _ := hr.mono (by decide)
    have R6 : Room 6 _ := hr.mono (by decide)
    refine ⟨_, PSs.nox (pss_cons (ps_asg (pe_def D2 R5 pass0 rfl (pa_cons (pv 0) pa_nil)) (pg_tup rfl (pgs_cons (pg_name (i := 1) scRg.nd rfl (.inl rfl)) (pgs_cons (pg_name (i := 2) scRg.nd rfl (.inl rfl)) pgs_nil))))
      (pss_cons (ps_par3 (i := 3) (j := 4) (l := 5) rfl scRg.nd rfl rfl rfl (by decide) (by decide) (by decide) rfl rfl rfl
        (pa_cons (pe_def DA R1 pass0 rfl (pa_cons (pv 1) (pa_cons (pv 2) pa_nil))) (pa_cons (pe_def DM hr pass0 rfl (pa_cons (pv 1) pa_nil)) (pa_cons (pe_def DM hr pass0 rfl (pa_cons (pv 2) pa_nil)) pa_nil))) (by rfl))
      (pss_cons (ps_if (PW.pt (pw_or (pt_cmpR op_ne (pe_callS FS R4 rfl gs ks bS (fun σ => passAt LamX.takes0 σ) (pa_cons (pv 4) (pa_cons (pv 5) pa_nil))) (pv 3) (nomark _))
          (pw_or1 (pt_cmpR op_ne (pe_callS FS R4 rfl gs ks bS (fun σ => passAt LamX.takes0 σ) (pa_cons (pv 5) (pa_cons (pv 4) pa_nil))) (pv 3) (nomark _))))) (pss_one (ps_ret pe_bl)) pss_nil)
      (pss_cons (ps_if (pt_cmpR op_notN (pe_callS FS R4 rfl gs ks bS (fun σ => passAt LamX.takes0 σ) (pa_cons (pv 4) (pa_cons (pv 4) pa_nil))) pe_non (nomark _)) (pss_one (ps_ret pe_bl)) pss_nil)
      (pss_cons (ps_if (PW.pt (pw_and (pt_cmpR op_lt (pe_callB call_len_seq rfl zn boot_len (pa_cons (pe_ix ix_tup (pv 1) pe_int (fun _ _ => rfl)) pa_nil)) pe_int (nomark _)) (pw_and1 (pt_cmpR op_lt (pe_callB call_len_seq rfl zn boot_len (pa_cons (pe_ix ix_tup (pv 2) pe_int (fun _ _ => rfl)) pa_nil)) pe_int (nomark _)))))
        (pss_one (ps_if (PW.pt (pw_or (pt_cmpR op_ne (pe_callS FS R4 rfl gs ks bS (fun σ => passAt LamX.takes0 σ) (pa_cons (pe_def DY hr pass0 rfl (pa_cons (pv 4) pa_nil)) (pa_cons (pv 5) pa_nil))) (pv 3) (nomark _))
          (pw_or1 (pt_cmpR op_ne (pe_callS FS R4 rfl gs ks bS (fun σ => passAt LamX.takes0 σ) (pa_cons (pv 5) (pa_cons (pe_def DY hr pass0 rfl (pa_cons (pv 4) pa_nil)) pa_nil))) (pv 3) (nomark _))))) (pss_one (ps_ret pe_bl)) pss_nil)) pss_nil)
      (pss_cons (ps_set (i := 6) scRg.nd rfl (.inl rfl) (pe_make mA FA R6 rfl (T.gl 10 "Automaton" rfl) bA .nil pass0 (pa_cons (pe_lst (pa_cons (pe_op op_rep (pe_lst (pa_cons pe_int pa_nil)) (pe_op op_add pe_int (pe_op op_mod (pe_callTy call_int1 rfl zi boot_int (pa_cons (pe_callB call_len_seq rfl zn boot_len (pa_cons (pe_ix ix_list (pe_ix ix_tup (pv 1) pe_int (fun _ _ => rfl)) pe_int (fun _ _ => rfl)) pa_nil)) pa_nil)) pe_int))) pa_nil)) (pa_cons pe_int (pa_cons (pe_lst pa_nil) pa_nil)))))
      (pss_one (ps_ret (pe_and (pe_def DI R5 pass0 rfl (pa_cons (pv 4) (pa_cons (pv 6) pa_nil))) (pe_one (pe_def DI R5 pass0 rfl (pa_cons (pv 6) (pa_cons (pv 4) pa_nil))))))))))))), ?_⟩
    refine ⟨_, rfl, l, n, rfl, src, n1, fun X S T2 wd r1 s1 k1 r2 s2 k2 H1 n' b1 hX P1 P2 src1 n2 => ⟨X, _, rfl, SqT.of hX, rfl, _, _, rfl, _, _, rfl, rfl, ?_⟩⟩
    have tb1 : Tabs (tbW K) H1 := Tabs.but tb src.choose_spec.choose_spec.choose_spec.1 b1
    dsimp only
    refine ⟨_, rfl, _, rfl, S, T2, r1, wd, s1, k1, r2, s2, k2, rfl, P1.v, P2.v, fun o H2 e2 IL => ⟨_, rfl, S, r1, wd, s1, k1, rfl, P1.same e2, fun x1 H3 e3 au1 => ⟨_, rfl, T2, r2, wd, s2, k2, rfl, P2.same (e2.trans e3), fun x2 H4 e4 au2 => ⟨_, _, _, rfl, ?_⟩⟩⟩⟩
    dsimp only
    have w1 := P1.f.2.1
    have d1 := P1.d
    have d2 := P2.d
    have A1 : Ask K H4 x1 r1 wd s1 k1 := ⟨.inl (au1.same e4), P1.f, by omega, P1.a, P1.b⟩
    have A2 : Ask K H4 x2 r2 wd s2 k2 := ⟨.inl au2, P2.f, by omega, P2.a, P2.b⟩
    have e14 := (e2.trans e3).trans e4
    have Q1 := P1.same e14
    have Q2 := P2.same e14
    have src4 := src1.same e14
    have tb4 := tb1.ext e14
    have b4 := b1.trans (But.of e14)
    clear P1 P2 src1 tb1 b1 e14 e2 e3 e4 au1 au2 hX tb src
    refine ⟨_, rfl, _, rfl, x1, x2, r1, wd, s1, k1, r2, wd, s2, k2, rfl, A1, A2, by omega, fun _ o' H5 e5 IL' => ?_, fun z => (z rfl).elim⟩
    obtain rfl := IL'.uniq w1 IL
    refine ⟨_, rfl, oW_ne, _, rfl, ?_⟩
    refine ifF (by simp) ?_
    refine ⟨_, rfl, _, rfl, x2, x1, r2, wd, s2, k2, r1, wd, s1, k1, rfl, A2.same e5, A1.same e5, by omega, fun _ o2 H6 e6 IL2 => ?_, fun z => (z rfl).elim⟩
    obtain rfl := (dl_sym IL).uniq w1 IL2
    refine ⟨_, rfl, oW_ne, _, rfl, ?_⟩
    refine ifF (by simp) ?_
    try delta tNext
    try dsimp only
    have e56 := e5.trans e6
    refine ⟨_, rfl, _, rfl, x1, x1, r1, wd, s1, k1, r1, wd, s1, k1, rfl, A1.same e56, A1.same e56, by omega, fun _ o3 H7 e7 IL3 => ?_, fun z => (z rfl).elim⟩
    obtain rfl := dl_self.uniq w1 IL3
    refine ⟨rfl, _, rfl, ?_⟩
    refine ifF (by rfl) ?_
    have e47 := e56.trans e7
    replace A1 := A1.same e47
    replace A2 := A2.same e47
    replace Q1 := Q1.same e47
    replace Q2 := Q2.same e47
    replace src4 := src4.same e47
    replace tb4 := tb4.ext e47
    have g7 : Grow l H H7 := Grow.of (b4.trans (But.of e47))
    clear e47 e7 e56 e6 e5 IL' IL2 IL3 b4 H5 H6 H4
    try delta tNext
    try dsimp only
    show tSeq _ _ _ [some (.ref l), some (.ref S), some (.ref T2), some (oW o'), some (.ref x1), some (.ref x2), none] H7
    refine seq_join (fun σ' H' => σ' = [some (.ref l), some (.ref S), some (.ref T2), some (oW o'), some (.ref x1), some (.ref x2), none] ∧ ExtN H7 H' ∧ Tabs (tbW K) H') ?tail ?two
    case two =>
      intro nx hnx
      obtain ⟨ra, pa, hS, RA, hpa⟩ := Q1.ex
      obtain ⟨rb, pb, hT, RB, hpb⟩ := Q2.ex
      obtain ⟨as, sA, la, _⟩ := RA.ex
      obtain ⟨bs, sB, lb, _⟩ := RB.ex
      refine ⟨_, rfl, S, _, 0, .ref ra, rfl, rfl, SqT.of hS, rfl, ra, as.map V.ref, rfl, .inl sA, _, _, rfl, rfl, _, rfl, ?_⟩
      rw [List.length_map, la]
      have no : nx [some (.ref l), some (.ref S), some (.ref T2), some (oW o'), some (.ref x1), some (.ref x2), none] H7 := hnx _ _ ⟨rfl, ExtN.refl _, tb4⟩
      refine ite2 (fun c1 => ?_) (fun c1 => ?_)
      · have l1 : r1.length < 5 := by have := of_decide_eq_true c1; omega
        refine ⟨_, rfl, T2, _, 0, .ref rb, rfl, rfl, SqT.of hT, rfl, rb, bs.map V.ref, rfl, .inl sB, _, _, rfl, rfl, _, rfl, ?_⟩
        rw [List.length_map, lb]
        refine ite2 (fun c2 => ?_) (fun c2 => no)
        refine ⟨_, rfl, x1, r1, wd, s1, k1, rfl, A1, by omega, tb4, fun x R accx H8 e8 tb8 AX lR eqx => ⟨_, rfl, x, x2, R, wd, 0, accx, r2, wd, s2, k2, rfl, AX, A2.extN e8, by omega, fun _ o2 H9 e9 IL2 => ?_, fun z => (z rfl).elim⟩⟩
        obtain rfl := (dl_l eqx IL).uniq w1 IL2
        refine ⟨_, rfl, oW_ne, _, rfl, ?_⟩
        refine ifF (by simp) ?_
        have e79 := e8.trans (ExtN.of e9)
        refine ⟨_, rfl, _, rfl, x1, r1, wd, s1, k1, rfl, A1.extN e79, by omega, tb8.ext e9, fun y R' accy H10 e10 tb10 AY lR' eqy => ⟨x2, y, r2, wd, s2, k2, R', wd, 0, accy, rfl, A2.extN (e79.trans e10), AY, by omega, fun _ o3 H11 e11 IL3 => ?_, fun z => (z rfl).elim⟩⟩
        obtain rfl := (dl_sym (dl_l eqy IL)).uniq w1 IL3
        refine ⟨_, rfl, oW_ne, _, rfl, ?_⟩
        refine ifF (by simp) ?_
        exact hnx _ _ ⟨rfl, (e79.trans e10).trans (ExtN.of e11), tb10.ext e11⟩
      · exact ifF rfl no
    case tail =>
      rintro σ' H8 ⟨rfl, e8, tb8⟩
      have A18 := A1.extN e8
      have Q18 := Q1.extN e8
      have src8 := src4.ext e8
      have g8 := g7.trans (Grow.ext e8)
      have w4 := Q1.f.2.2.1
      clear A1 A2 Q1 Q2 src4 tb4 g7 e8
      refine ⟨(by show 1 ≤ sizeLine; decide), fun q0 nq0 => ?_⟩
      have t1 := same_upd (o := .lst [V.int 0]) nq0
      obtain ⟨ra, pa, hS, RA, hpa⟩ := (Q18.same t1).ex
      obtain ⟨as, sA, la, sRow⟩ := RA.ex
      obtain ⟨a0, ha0⟩ := lt_get (show 0 < as.length by have := Q18.f.1; omega)
      obtain ⟨row0, hrow0⟩ := lt_get (show 0 < r1.length from Q18.f.1)
      have lw0 := (Q18.f.2.2.2 row0 (List.mem_of_getElem? hrow0)).1
      refine ⟨_, rfl, S, _, 0, .ref ra, rfl, rfl, SqT.of hS, rfl, ra, as.map V.ref, 0, .ref a0, rfl, rfl, sA, atI_nat (j := 0) (get_map ha0), a0, row0.map nv, rfl, .inl (sRow 0 a0 row0 ha0 hrow0), .inl ⟨_, rfl, _, _, rfl, rfl, (show (0 : Int) < 4 by decide), _, _, rfl, rfl, ?_⟩⟩
      rw [List.length_map, lw0]
      obtain ⟨m, hm⟩ : ∃ m, m = 1 + wd % 4 := ⟨_, rfl⟩
      have em : (1 : Int) + ((wd : Nat) : Int) % 4 = ((m : Nat) : Int) := by omega
      show rRep _ (V.int (1 + ((wd : Nat) : Int) % 4)) _ _
      rw [em]
      refine ⟨q0, (m : Nat), _, rfl, rfl, upd_same, by omega, by omega, by rw [Int.toNat_natCast]; show 1 * m ≤ 16777216; omega, fun q1 nq1 => ⟨(by show 1 ≤ sizeLine; decide), fun r nr => ⟨(by show 0 ≤ sizeLine; decide), fun pm npm => ?_⟩⟩⟩
      rw [Int.toNat_natCast, rep2] at *
      have t2 := same_upd (o := .lst (List.replicate m (V.int 0))) nq1
      have t3 := same_upd (o := .lst [V.ref q1]) nr
      have t4 := same_upd (o := .lst ([] : List V)) npm
      have hq : L2.upd (L2.upd (L2.upd (L2.upd H8 q0 (.lst [V.int 0])) q1 (.lst (List.replicate m (V.int 0)))) r (.lst [V.ref q1])) pm (.lst []) q1 = some (.lst ((List.replicate m 0).map nv)) := by
        rw [List.map_replicate]
        exact t4 _ _ (t3 _ _ upd_same)
      have hrr : L2.upd (L2.upd (L2.upd (L2.upd H8 q0 (.lst [V.int 0])) q1 (.lst (List.replicate m (V.int 0)))) r (.lst [V.ref q1])) pm (.lst []) r = some (.lst (([q1] : List Addr).map V.ref)) := t4 _ _ upd_same
      have hpm : L2.upd (L2.upd (L2.upd (L2.upd H8 q0 (.lst [V.int 0])) q1 (.lst (List.replicate m (V.int 0)))) r (.lst [V.ref q1])) pm (.lst []) pm = some (.lst (([] : List Nat).map nv)) := upd_same
      have s8 := ((t1.trans t2).trans t3).trans t4
      generalize L2.upd (L2.upd (L2.upd (L2.upd H8 q0 (.lst [V.int 0])) q1 (.lst (List.replicate m (V.int 0)))) r (.lst [V.ref q1])) pm (.lst []) = H9 at s8 hq hrr hpm ⊢
      have FW : FormM [List.replicate m 0] m := ⟨Nat.le_refl 1, by omega, by omega, fun row hr => by
        rw [List.mem_singleton.mp hr]
        exact ⟨List.length_replicate, fun t ht => by rw [(List.mem_replicate.mp ht).2]; exact Nat.one_pos⟩⟩
      intro xw dx nx ndx xdx
      refine mkA (K := K) (mv := [List.replicate m 0]) (wd := m) (first := 0) (mk := []) ⟨[q1], SqL.of hrr, rfl, fun i a row h1 h2 => ?_⟩ FW (by show 1 ≤ 40; decide) Nat.one_pos hpm (fun i hi => nomatch hi) (Nat.zero_le 12) nx ndx xdx fun H10 au s10 => ?_
      · match i, h1, h2 with
        | 0, h1, h2 =>
          cases h1
          cases h2
          exact SqL.of hq
        | i + 1, h1, _ => simp at h1
      have sA0 := s8.trans s10
      have AW : Ask K H10 xw [List.replicate m 0] m 0 [] := ⟨.inl au, FW, (by show 1 ≤ 500; decide), Nat.one_pos, fun i hi => nomatch hi⟩
      have A10 := A18.same sA0
      have ne : wd ≠ m := by omega
      refine ⟨_, rfl, _, rfl, x1, xw, r1, wd, s1, k1, [List.replicate m 0], m, 0, [], rfl, A10, AW, by show r1.length + 1 ≤ 700; omega, ne, fun H11 e11 => ?_⟩
      refine ⟨true, rfl, ?_⟩
      rw [if_pos rfl]
      refine ⟨_, rfl, _, rfl, xw, x1, [List.replicate m 0], m, 0, [], r1, wd, s1, k1, rfl, AW.same e11, A10.same e11, by show 1 + r1.length ≤ 700; omega, ne.symm, fun H12 e12 => ?_⟩
      have sB0 := (sA0.trans e11).trans e12
      exact k H12 n' (g8.trans (Grow.of (But.of sB0))) (tb8.ext sB0) (src8.same sB0) n2
end
end K69

set_option Elab.async false
set_option linter.all false
set_option maxRecDepth 100000
set_option maxHeartbeats 8000000
namespace K69
open PySem PySem.Spec PyProof.Rows L2 Lf LamX
abbrev NL : List Str := ["_law_script", "_law_cell", "_law_source_here", "_law_turn"]
def spLaw (K : PySem.W.Frag) : Sp := fun vs H Q _ => ∃ (a : Addr) (ns : List Int), vs = [.ref a] ∧ SqL K H a (ns.map V.int) ∧ ns.length ≤ 63 ∧ Tabs (tbW K) H ∧ ∀ H', Q (.bl true) H'
section
variable {P : Program} {w : World} {K : PySem.W.Frag} {mg : Str → Option Value} {base : Heap}
theorem scLaw : FnScope NL ["_law_script"] (defScope s_law) := ⟨rfl, rfl, rfl, by decide +kernel, rfl, by decide +kernel, by decide +kernel⟩
theorem ok_law {f : Addr} {fd : FuncData} {q : Str} (F : FunD K "law" q (defArgs s_law) (defBody s_law) (defScope s_law) [] [] f fd) (T : Txt P w K mg base)
    (DS : Def P w K mg base CX0 1 "_law_source" ["_law_cell"] spSource) (DR : Def P w K mg base CX0 8 "_law_right" ["_law_source_here"] (spRight K)) :
    FnOk P w K mg base CX0 9 f fd ["_law_script"] (spLaw K) := by
  have zr : mg "range" = none := T.fr 63 "range" rfl
  refine F.ok scLaw (fun vs H Q E h => ?_) (fun cdv A outer s H vs Q E hr h => ?_)
  · obtain ⟨a, ns, rfl, _⟩ := h
    rfl
  · obtain ⟨a, ns, rfl, hS, hlen, tb, fin⟩ := h
    have r1 : Room 1 _ := hr.mono (by decide)
    refine ⟨_, PSs.nox (pss_cons (ps_for PassesOwn.never rfl (pi_list (pe_slice sl_list (pe_op op_catL (pv 0) (pe_lst (pa_cons pe_int pa_nil))) po_none (po_some pe_int))) (pg_name (i := 1) scLaw.nd rfl (.inl rfl))
      (pss_cons (ps_set (i := 2) scLaw.nd rfl (.inl rfl) (pe_def DS r1 pass0 rfl (pa_cons (pv 1) pa_nil)))
      (pss_one (ps_for PassesOwn.never rfl (pi_range1 rfl zr (pa_cons pe_int pa_nil)) (pg_name (i := 3) scLaw.nd rfl (.inl rfl))
        (pss_one (ps_if (pt_not (pt_val (pe_def DR hr pass0 rfl (pa_cons (pv 2) pa_nil)))) (pss_one (ps_ret pe_bl)) pss_nil))))))
      (pss_one (ps_ret pe_bl))), ?_⟩
    refine ⟨_, rfl, (by show 1 ≤ sizeLine; decide), fun z hz => ⟨a, z, _, _, rfl, rfl, L2.Same.seq (same_upd hz) hS, SqL.of upd_same, ?_, fun l0 h0 => ?_⟩⟩
    · rw [List.length_map]
      show ns.length + 1 ≤ 16777216
      omega
    refine ⟨3, rfl, l0, _, rfl, SqL.of upd_same, fun l1 h1 => ⟨l1, rfl, ⟨_, SqL.of upd_same⟩, ?_⟩⟩
    have tbs := Tabs.ext tb (((same_upd hz).trans (same_upd h0)).trans (same_upd (o := .lst (cutV (ns.map V.int ++ [.int 0]) none (some 3))) h1))
    generalize hHs : L2.upd (L2.upd (L2.upd H z _) l0 _) l1 _ = Hs at tbs ⊢
    have at1 : Hs l1 = some (.lst (cutV (ns.map V.int ++ [.int 0]) none (some 3))) := by rw [← hHs]; exact upd_same
    clear hHs
    refine for_list (K := K) (a := l1) (xs := cutV (ns.map V.int ++ [.int 0]) none (some 3)) (fun i σ H' => ∃ v1 v2 v3 : Option V, σ = [some (.ref a), v1, v2, v3] ∧ ExtN Hs H' ∧ Tabs (tbW K) H')
      ⟨none, none, none, rfl, ExtN.refl _, tbs⟩ (fun i σ H' _ ⟨_, _, _, _, e, _⟩ => SqL.of (e _ _ at1 fun _ z => nomatch z)) ?_ (fun σ H' _ => fin _)
    rintro i y σ H1 hi ⟨v1, v2, v3, rfl, e1, tb1⟩
    obtain ⟨n, rfl⟩ : ∃ n, y = V.int n := by
      have hm := List.mem_of_getElem? hi
      have hm2 := List.mem_of_mem_drop (List.mem_of_mem_take hm)
      rcases List.mem_append.mp hm2 with q | q
      · obtain ⟨n, _, e⟩ := List.mem_map.mp q
        exact ⟨n, e.symm⟩
      · exact ⟨0, List.mem_singleton.mp q⟩
    refine ⟨_, rfl, n, rfl, fun l H2 nl s2 src2 => ?_⟩
    have e2 : ExtN Hs H2 := e1.trans (ExtN.of s2)
    have off : ∀ b o, Hs b = some o → (∀ ps, o ≠ .tbl ps) → b ≠ l := fun b o h t => ne_of_none (e1 _ _ h t) nl
    have go : ∀ {H3 H4 : Hp}, ExtN Hs H3 → Grow l H3 H4 → ExtN Hs H4 := fun {H3 H4} e g b o h t => g _ _ (off b o h t) (e _ _ h t) t
    refine ⟨8, rfl, by decide, by decide, ?_⟩
    refine for_range (lo := 0) (n := 8) (fun j σ H' => ∃ v3 : Option V, σ = [some (.ref a), some (.int n), some (.ref l), v3] ∧ ExtN Hs H' ∧ Tabs (tbW K) H' ∧ ∃ n2, Src H' l n2 ∧ n2 ≤ 600 * j) ⟨v3, rfl, e2, Tabs.ext tb1 s2, _, src2, Nat.zero_le _⟩ (fun j σ H3 hj ⟨v3, eσ, e3, tb3, n2, src3, n3⟩ => ?_) (fun σ H' ⟨v3, eσ, e3, tb3, _⟩ => ?_)
    · subst eσ
      refine ⟨_, rfl, l, n2, rfl, src3, by omega, tb3, fun H4 n4 g4 tb4 src4 n5 => ⟨_, rfl, ?_⟩⟩
      exact ifF rfl ⟨_, rfl, go e3 g4, tb4, n4, src4, by omega⟩
    · subst eσ
      exact ⟨_, _, _, rfl, e3, tb3⟩
end
end K69

set_option Elab.async false
set_option linter.all false
set_option maxRecDepth 100000
set_option maxHeartbeats 0
namespace K69
open PySem PySem.Spec PyProof.Rows L2
abbrev R : PySem.W.OpenRow := PySem.W.OpenLaw.row PySem.Challenge.rw_letterfolds_k69_whole_least_words_apart
abbrev vw : Program := PySem.W.view R.prog [60]
def as : List Addr := List.range 1600
abbrev hk : PySem.W.Hook := Lf.hookR as fa fn tf ex
def ob (s : PySem.W.SharedT) : He.AlD × Bool := Lf.obsR as fa fn tf ex (HandSHeadRun.getT s)
theorem ob_eq (s : PySem.W.SharedT) : ob s = hk.obs s.abs := Lf.obsR_eq (HandSHeadRun.getT_eq s)
theorem runA (w : World) (os : OsState) : (Lf.endOf R 20000 w os).map (Lf.looksOf R w) = some true := by kernel_rfl
theorem runB (w : World) (os : OsState) : (Lf.endOf R 20000 w os).map (Lf.viewOf R vw loose) = some (PySem.W.openGood vw loose) := by kernel_rfl
theorem runC (w : World) (os : OsState) : (Lf.endOf R 20000 w os).map ob = some (hk.val w) := by kernel_rfl
theorem run (w : World) : HandSHeadRun.RunEq R vw hk ob 20000 loose w := Lf.run_three (runA w) (runB w) (runC w)
end K69

set_option Elab.async false
set_option linter.all false
set_option maxRecDepth 100000
set_option maxHeartbeats 4000000
/-! Functions that are promised only where no repr is under way; repr of a list of ints. -/
namespace Lf
open PySem PySem.Spec PyProof.Rows L2
/-- a promise of calls from where no repr is under way -/
structure FnG (P : Program) (w : World) (K : PySem.W.Frag) (mg : Str → Option Value) (base : Heap) (CX : CXT) (k : Nat) (f : Addr) (fd : FuncData) (ps : List Str) (sp : Sp) : Prop where
  len : ∀ vs H Q E, sp vs H Q E → vs.length = ps.length
  run : ∀ (A : Around) (outer : List Env) (s : Shared) (H : Hp) (args : Args) (us : List Value) (vs : List V) (Q : VK) (E : XK), A.guards = some [] → Room k A → Env0 P w K mg base A outer s H → BindsTo s fd args (ps.zip us) → Vals vs us → sp vs H Q E →
    codeAny (model P w) A (.call (.ref f) args) (CR CX outer P w H s Q E) s
section
variable {CX : CXT} {P : Program} {w : World} {K : PySem.W.Frag} {mg : Str → Option Value} {base : Heap} {x qual : Str} {params : Arguments} {body : List Stmt} {scope : Scope} {f : Addr} {fd : FuncData}
theorem okG {N ps : List Str} {k : Nat} {sp : Sp} (F : FunD K x qual params body scope [] [] f fd) (S : FnScope N ps scope) (len : ∀ vs H Q E, sp vs H Q E → vs.length = ps.length)
    (hbody : ∀ (cdv : Value) (A : Around) (outer : List Env) (s : Shared) (H : Hp) (vs : List V) (Q : VK) (E : XK), A.guards = some [] → Room k (A.deeper (envOfC qual scope s.heap.objs.size f cdv)) → sp vs H Q E →
      ∃ t, PSs (cxOf CX P w K mg base N qual scope f cdv A outer s H E) body t ∧ t { nx := fun _ H' => Q .non H', rt := Q } (L2.start N vs) H) : FnG P w K mg base CX (k + 1) f fd ps sp := by
  obtain ⟨oc, od, dV, kV, doc, pm, an, cdv, ct, osl, rfl, lk, hcd, _, _⟩ := F.ex
  refine ⟨len, fun A outer s H args us vs Q E hgd hr e0 hb r hsp => ?_⟩
  have hl := len _ _ _ _ hsp
  have KX : K.In s.heap := e0.mod.kin.keeps fun b o e => (e0.bs b o e).1
  have hk : ∀ y ∈ ps.zip us, scope.names.lookup y.1 = some .local ∨ (scope.names.lookup y.1 = some .cell ∧ ((cellsFrom (s.heap.objs.size + 1) scope.names []).lookup y.1).isSome = true) := fun y hy =>
    (S.par y.1 (List.of_mem_zip hy).1).imp id fun q => ⟨q, PySem.W.cellsFrom_some _ _ _ (.inl q)⟩
  refine codeAny_call_function hr.depth (KX _ _ lk) rfl S.co S.gen rfl (PySem.W.codeRec_of KX hcd) (hb _ _ _ _ (wpAny_newFunctionEnv_cells S.kind hk fun env he s1 g => ?_))
  subst he
  refine ⟨(e0.mod.nolimit.keeps fun b o e => (e0.bs b o e).1).keeps g.toInCall.keep, codeAny_func ?_⟩
  obtain ⟨t, ht, hq⟩ := hbody cdv A outer s H vs Q E hgd (hr.deeper _) hsp
  refine wpAny_mono (ht.run [] s1 (L2.start N vs) H _ (inv_start S hr.hd e0 hl r g) hq) (fun fl s' hs => ?_) fun _ _ hs => hs
  cases fl with
  | brk => exact hs.elim fun _ z => z.elim fun _ z => False.elim z.2
  | cont => exact hs.elim fun _ z => z.elim fun _ z => False.elim z.2
  | next =>
    obtain ⟨_, H', J, q⟩ := hs
    exact ⟨V.non, H', J.os, J.bare, J.base, J.hok, rfl, q⟩
  | ret u =>
    obtain ⟨v, _, H', J, rv, q⟩ := hs
    exact ⟨v, H', J.os, J.bare, J.base, J.hok, rv, q⟩
end
/-- a def by its name -/
structure DefG (P : Program) (w : World) (K : PySem.W.Frag) (mg : Str → Option Value) (base : Heap) (CX : CXT) (k : Nat) (x : Str) (ps : List Str) (sp : Sp) : Prop where
  ex : ∃ f fd, mg x = some (.ref f) ∧ PySem.W.keepIn K (.ref f) = true ∧ FnG P w K mg base CX k f fd ps sp ∧ Binds K fd ps []
section
variable {X : Cx} {CX : CXT} {k : Nat} {x : Str} {ps : List Str} {sp : Sp} {E : XK} {e : Expr} {es : List Expr} {t : TA} {p pos : Pos}
theorem pe_defG (D : DefG X.prog X.w X.K X.mg X.base CX k x ps sp) (hgd : X.A.guards = some []) (hr : Room k X.A) (hx : Passes CX X E) (hg : Gl X x) (ha : PA X (e :: es) t)
    (hdb : (x == ("__debug__" : Str)) = false := by decide +kernel) (he : starEach (e :: es) X.env = (false, eval e X.env) :: starEach es X.env := by rfl)
    (hpl : (backTo pos (starEach es X.env)).any (·.1) = false := by rfl) : PE X (.Call (.Name x p) (e :: es) [] pos) (fun σ H Q => t σ H fun vs H1 => sp vs H1 Q E) := by
  obtain ⟨f, fd, g, kp, F, b⟩ := D.ex
  refine ⟨fun pins s σ H Q I h => wpAny_Call_Name_kw (ld_glob I hg g ?_ hdb)⟩
  refine PySem.W.callWith_K (h₀ := X.base) I.ok.mod.kin kp (thn (ha.run pos pins s σ H _ I h) fun us s1 ⟨vs, H1, I1, r, q⟩ => ⟨I1.kIn, ?_⟩) he hpl
  have b' := b s1 us I1.kIn (by rw [List.append_nil, ← r.length]; exact F.len _ _ _ _ q)
  rw [List.append_nil] at b'
  refine wpAny_call (codeAny_mono (F.run X.A X.stack s1 H1 ⟨us, []⟩ us vs Q E hgd hr I1.env0 b' r q) fun r' s' hq => ?_)
  cases r' with
  | error e => exact hx pins σ H1 s1 e s' I1 hq
  | ok fl =>
    cases fl with
    | ret u => exact I1.after hq
    | next => exact False.elim hq
    | brk => exact False.elim hq
    | cont => exact False.elim hq
end
/-! ### repr of a list of ints -/
abbrev reprL (ns : List Int) : Str := (PyData.list (ns.map PyData.int)).shown
theorem reads_ints {h : Heap} : ∀ {ns : List Int} {us : List Value}, Vals (ns.map V.int) us → ReadsAll h us (ns.map PyData.int) []
  | [], _, r => by
    rw [List.map_nil] at r
    cases r
    exact .nil
  | n :: ns, _, r => by
    rw [List.map_cons] at r
    cases r with
    | cons a b =>
      obtain ⟨t, rfl⟩ := (show ∃ t, _ = Value.int n t from a)
      exact .cons (.int n t) (reads_ints b)
theorem ints_noDict : ∀ (ns : List Int), PyData.hasDictAll (ns.map PyData.int) = false
  | [] => rfl
  | n :: ns => by rw [List.map_cons, PyData.hasDictAll, PyData.hasDict, ints_noDict ns]; rfl
theorem ints_depth : ∀ (ns : List Int), PyData.depthAll (ns.map PyData.int) = 0
  | [] => rfl
  | n :: ns => by rw [List.map_cons, PyData.depthAll, PyData.depth, ints_depth ns]; rfl
theorem call_reprInts {X : Cx} (hg : X.A.guards = some []) (hu : X.A.units + 9 < cLine) : CallR X (.builtin "repr") (fun xs H Q => ∃ p ns, xs = [.ref p] ∧ SqL X.K H p (ns.map V.int) ∧ (PyData.list (ns.map PyData.int)).showable = true ∧ (reprL ns).length ≤ sizeLine ∧ Q (.str (reprL ns)) H) := by
  intro pins s σ H xs us Q I r h
  obtain ⟨p, ns, rfl, hq, sh, hz, q⟩ := h
  obtain ⟨u, rfl, e⟩ := vals1 r
  cases e
  obtain ⟨its, rv, ⟨o, n, e1, e2, e3, e4⟩, _⟩ := I.list hq
  refine repr_of_reads' (h₀ := s.heap) (.list e1 e2 e4 (by rw [List.toList_toArray]; exact reads_ints rv)) sh (fun z => ?_) hg ?_ (fun _ _ z => z) (fun h' u tk hk => ?_) hz
  · rw [PyData.hasDict, ints_noDict] at z
    cases z
  · rw [PyData.depth, ints_depth]
    omega
  · exact ⟨.str (reprL ns), H, I.kept hk, ⟨u, rfl⟩, q⟩
theorem small_text : ∀ n : Nat, n < 300 → ((PyData.int (n : Nat)).shown).length ≤ 3 := by decide +kernel
theorem small_show : ∀ n : Nat, n < 300 → (PyData.int (n : Nat)).showable = true := by decide +kernel
theorem repr_small : ∀ {ns : List Nat}, (∀ n ∈ ns, n < 300) → PyData.showableAll ((ns.map fun n => ((n : Nat) : Int)).map PyData.int) = true ∧ ((PyData.shownAll ((ns.map fun n => ((n : Nat) : Int)).map PyData.int)).map (·.length)).sum ≤ 3 * ns.length ∧ (PyData.shownAll ((ns.map fun n => ((n : Nat) : Int)).map PyData.int)).length = ns.length
  | [], _ => ⟨rfl, Nat.le_refl _, rfl⟩
  | n :: ns, h => by
    obtain ⟨a, b, c⟩ := repr_small (ns := ns) fun m hm => h m (List.mem_cons_of_mem _ hm)
    have h1 := small_text n (h n List.mem_cons_self)
    have h2 := small_show n (h n List.mem_cons_self)
    rw [List.map_cons, List.map_cons]
    refine ⟨?_, ?_, ?_⟩
    · rw [PyData.showableAll, h2, a]
      rfl
    · rw [PyData.shownAll, List.map_cons, List.sum_cons, List.length_cons]
      omega
    · rw [PyData.shownAll, List.length_cons, c, List.length_cons]
/-- repr of numbers below 300 -/
theorem reprOk {ns : List Nat} (h : ∀ n ∈ ns, n < 300) (l : ns.length ≤ 100000) : (PyData.list ((ns.map fun n => ((n : Nat) : Int)).map PyData.int)).showable = true ∧ (reprL (ns.map fun n => ((n : Nat) : Int))).length ≤ sizeLine := by
  obtain ⟨a, b, c⟩ := repr_small h
  refine ⟨by rw [PyData.showable]; exact a, ?_⟩
  have := listText_len_le (PyData.shownAll ((ns.map fun n => ((n : Nat) : Int)).map PyData.int))
  unfold reprL
  rw [PyData.shown, sizeLine_eq]
  omega
end Lf

set_option Elab.async false
set_option linter.all false
set_option maxRecDepth 100000
set_option maxHeartbeats 4000000
/-! The end for a law that is promised only where no repr is under way. -/
namespace Lf
open PySem PySem.Spec PyProof.Rows L2
section
variable {P : Program} {w : World} {K : PySem.W.Frag} {mg mb : Str → Option Value} {CX : CXT} {k : Nat} {fa a : Addr} {fd : FuncData} {x : Str} {sp : Sp} {s₁ : Shared} {vs : List Value} {ns : List Int}
/-- the caller's world, with at most the script tracked -/
theorem env_law {H : Hp} (KX : K.In s₁.heap) (hns : s₁.heap.Ns mainGlobals mg) (hb : s₁.heap.Ns builtinsNs mb) (hbb : ∀ x : Str, x ≠ "__name__" → mb x = bootBuiltins x) (hlim : s₁.heap.NoLimit) (hg : s₁.gens = #[])
    (ha : s₁.heap.get? a = some { cls := .type "list", data := .seq vs.toArray }) (hok : HOk P w H s₁.heap) (hA : ∀ b, H b ≠ none → b = a ∧ K.lookup a = none) :
    K.In (hidT s₁.heap H) ∧ (hidT s₁.heap H).Ns mainGlobals mg ∧ Env0 P w K mg (hidT s₁.heap H) callerA [] s₁ H := by
  have free : ∀ {b : Addr} {o : Obj}, s₁.heap.get? b = some o → o.data ≠ .seq vs.toArray → H b = none := fun {b o} e d => by
    cases q : H b with
    | none => rfl
    | some u =>
      obtain ⟨rfl, _⟩ := hA b (by rw [q]; simp)
      rw [ha] at e
      cases e
      exact absurd rfl d
  have names : ∀ {b : Addr} {m : Str → Option Value}, s₁.heap.Ns b m → (hidT s₁.heap H).Ns b m := fun {b m} h => by
    obtain ⟨o, es, ep, e, d, r⟩ := h
    exact ⟨o, es, ep, hidT_get e (free e (by rw [d]; simp)), d, r⟩
  have kin : K.In (hidT s₁.heap H) := fun b o e => hidT_get (KX b o e) (by
    cases q : H b with
    | none => rfl
    | some u =>
      obtain ⟨rfl, z⟩ := hA b (by rw [q]; simp)
      rw [z] at e
      cases e)
  obtain ⟨mc, l1, l2⟩ := hlim
  exact ⟨kin, names hns, rfl, ⟨kin, names hns, ⟨mb, names hb, hbb⟩, mc, names l1, l2⟩, fun b o e => of_hidT e, Nat.le_of_eq (hidT_size _ _), trivial, fun b hb => absurd (show b ∈ ([] : List Addr) from hb) (by simp), hok, .of_eq hg⟩
theorem law_callG (KX : K.In s₁.heap) (hns : s₁.heap.Ns mainGlobals mg) (hb : s₁.heap.Ns builtinsNs mb) (hbb : ∀ x : Str, x ≠ "__name__" → mb x = bootBuiltins x) (hlim : s₁.heap.NoLimit) (hg : s₁.gens = #[])
    (ha : s₁.heap.get? a = some { cls := .type "list", data := .seq vs.toArray }) (hi : IntsAre vs ns) (hl : ns.length ≤ sizeLine) (hr : Room k callerA)
    (F : ∀ base : Heap, K.In base → base.Ns mainGlobals mg → FnG P w K mg base CX k fa fd [x] sp) (hbind : ∀ (s : Shared) (u : Value), BindsTo s fd ⟨[u], []⟩ [(x, u)])
    (hsp : ∀ H : Hp, Only H → SqL K H a (ns.map V.int) → sp [.ref a] H (fun v _ => v = .bl true) fun _ _ _ => False)
    (hCX : ∀ H e s', CX [] H s₁ (fun _ _ _ => False) e s' → False) :
    codeAny (model P w) callerA (.call (.ref fa) ⟨[.ref a], []⟩) (fun r s' => r = .ok (.ret (.bool true)) ∧ OldK s₁.heap s'.heap ∧ s'.os = s₁.os ∧ AllBare s'.gens) s₁ := by
  obtain ⟨H, hO, hS, hok, hA⟩ : ∃ H : Hp, Only H ∧ SqL K H a (ns.map V.int) ∧ HOk P w H s₁.heap ∧ ∀ b, H b ≠ none → b = a ∧ K.lookup a = none := by
    have rv := vals_ints hi
    cases hk : K.lookup a with
    | some o =>
      have e := KX a o hk
      rw [ha] at e
      cases e
      exact ⟨fun _ => none, fun _ => .inl rfl, .inr ⟨_, vs.toArray, _, hk, rfl, rfl, rfl, by rw [List.size_toArray, hi.length]; exact hl, by simpa using rv⟩, (fun b u z => by cases (show (none : Option HO) = some u from z)), fun b z => absurd rfl z⟩
    | none =>
      refine ⟨L2.upd (fun _ => none) a (.frz { cls := .type "list", data := .seq vs.toArray } (.lst (ns.map V.int))), fun b => ?_, .inl (.inr ⟨_, upd_same⟩), fun b u z => ?_, fun b z => ?_⟩
      · by_cases e : b = a
        · subst e
          exact .inr ⟨_, _, upd_same⟩
        · exact .inl (upd_ne e)
      · by_cases e : b = a
        · subst e
          rw [upd_same] at z
          cases z
          exact ⟨ha, by rw [List.length_map]; exact hl, vs, _, rv, ha⟩
        · rw [upd_ne e] at z
          cases z
      · by_cases e : b = a
        · exact ⟨e, rfl⟩
        · exact absurd (upd_ne e) z
  obtain ⟨kin, nm, e0⟩ := env_law KX hns hb hbb hlim hg ha hok hA
  refine codeAny_mono ((F _ kin nm).run callerA [] s₁ H ⟨[.ref a], []⟩ [.ref a] [.ref a] _ _ rfl hr e0 (hbind s₁ (.ref a)) (.cons rfl .nil) (hsp H hO hS)) fun r s' h => ?_
  cases r with
  | error e => exact (hCX H e s' h).elim
  | ok fl =>
    cases fl with
    | next => exact False.elim h
    | brk => exact False.elim h
    | cont => exact False.elim h
    | ret u =>
      obtain ⟨v, H', os, bare, un, hok', r', q⟩ := h
      cases (show v = .bl true from q)
      cases (show u = Value.bool true from r')
      refine ⟨rfl, OldK.of_keep fun b o e => ?_, os, bare⟩
      cases q : H b with
      | none => exact un.keep b o e q (by intro z; exact absurd (show b ∈ ([] : List Addr) from z) (by simp)) (by simp)
      | some u =>
        rcases hO b with z | ⟨ob, xs, z⟩
        · rw [q] at z
          cases z
        · have e1 := (hok b _ z).1
          rw [e] at e1
          cases e1
          exact (hok' b _ (un.frzs b _ _ z)).1
end
theorem walk_ofG {l : PySem.W.OpenLaw} {n k : Nat} {q : Program} {loose : List Str} {XP : (Str → Option Value) → Heap → Prop} {YP : World → Heap → Prop} {d : DefRec} {CX : CXT} {x : Str}
    (hn : l.most = some n) (hn2 : n ≤ sizeLine) (hdf : d.params.defaults = []) (hr : Room k callerA)
    (F : ∀ (w : World) (mg : Str → Option Value) (fa : Addr) (h : Heap), YP w h → h.Ns mainGlobals mg → mg d.name = some (.ref fa) →
      ∃ (K : PySem.W.Frag) (fd : FuncData) (sp : Sp), K.In h ∧ (∀ (s : Shared) (u : Value), BindsTo s fd ⟨[u], []⟩ [(x, u)]) ∧
        (∀ (H : Hp) (a : Addr) (ns : List Int), ns.length ≤ n → Only H → SqL K H a (ns.map V.int) → sp [.ref a] H (fun v _ => v = .bl true) fun _ _ _ => False) ∧
        ∀ base : Heap, K.In base → base.Ns mainGlobals mg → FnG l.prog w K mg base CX k fa fd [x] sp)
    (hCX : ∀ (H : Hp) (s : Shared) (e : Value) (s' : Shared), CX [] H s (fun _ _ _ => False) e s' → False) :
    PySem.W.WalkO q loose XP YP l.row.toRowW d [] (fun f vs => PySem.call f vs) := by
  refine Att.attach_call hn hdf fun w s₀ s₁ mg mb fa o pm cd doc a vs ns G Y ho hd hcd hmg hobj hints hlen hg => ?_
  obtain ⟨K, fd, sp, KX, hb, hsp, hF⟩ := F w mg fa _ Y G.T.g hmg
  exact law_callG KX G.T.g G.T.b G.T.builtins G.T.nolimit hg hobj hints (Nat.le_trans hlen hn2) hr hF hb (fun H hO hS => hsp H a ns hlen hO hS) fun H e s' => hCX H s₁ e s'
end Lf

set_option Elab.async false
set_option linter.all false
set_option maxRecDepth 100000
set_option maxHeartbeats 8000000
namespace K69
open PySem PySem.Spec PyProof.Rows L2 Lf
theorem facts {P : Program} {w : World} {K : PySem.W.Frag} {h : Heap} {mg : Str → Option Value} {f : Addr} (X : K.In h) (G : h.Ns mainGlobals mg) (hfa : mg ("law" : Str) = some (.ref f)) (c : He.SaysD fa fn K) (m : ex K = true) :
    ∃ fd : FuncData, (∀ (s : Shared) (v : Value), BindsTo s fd ⟨[v], []⟩ [("_law_script", v)]) ∧ ∀ base : Heap, K.In base → base.Ns mainGlobals mg → LamX.TabB base mg (He.cT K ("_what_words_do", none)).1 (He.cT K ("_what_words_do", none)).2 → FnOk P w K mg base CX0 9 f fd ["_law_script"] (spLaw K) := by
  obtain ⟨fd_is_number, F_is_number⟩ := c.def_ 0 (d := d_is_number) rfl
  obtain ⟨fd_is_between, F_is_between⟩ := c.def_ 1 (d := d_is_between) rfl
  obtain ⟨fd_is_sequence, F_is_sequence⟩ := c.def_ 2 (d := d_is_sequence) rfl
  obtain ⟨fd_wrong_place, F_wrong_place⟩ := c.def_ 3 (d := d_wrong_place) rfl
  obtain ⟨fd_Monoid_init, F_Monoid_init⟩ := c.def_ 16 (d := d_Monoid_init) rfl
  obtain ⟨fd_Monoid_size, F_Monoid_size⟩ := c.def_ 18 (d := d_Monoid_size) rfl
  obtain ⟨fd_check_monoid, F_check_monoid⟩ := c.def_ 23 (d := d_check_monoid) rfl
  obtain ⟨fd_check_form, F_check_form⟩ := c.def_ 24 (d := d_check_form) rfl
  obtain ⟨fd_made_by, F_made_by⟩ := c.def_ 25 (d := d_made_by) rfl
  obtain ⟨fd_left_table, F_left_table⟩ := c.def_ 26 (d := d_left_table) rfl
  obtain ⟨fd_check_products, F_check_products⟩ := c.def_ 27 (d := d_check_products) rfl
  obtain ⟨fd_Automaton_init, F_Automaton_init⟩ := c.def_ 39 (d := d_Automaton_init) rfl
  obtain ⟨fd_Language_init, F_Language_init⟩ := c.def_ 41 (d := d_Language_init) rfl
  obtain ⟨fd_check_thing, F_check_thing⟩ := c.def_ 45 (d := d_check_thing) rfl
  obtain ⟨fd_are_rows, F_are_rows⟩ := c.def_ 46 (d := d_are_rows) rfl
  obtain ⟨fd_states_of, F_states_of⟩ := c.def_ 47 (d := d_states_of) rfl
  obtain ⟨fd_Unions_init, F_Unions_init⟩ := c.def_ 36 (d := d_Unions_init) rfl
  obtain ⟨fd_Unions_top, F_Unions_top⟩ := c.def_ 37 (d := d_Unions_top) rfl
  obtain ⟨fd_Unions_unite, F_Unions_unite⟩ := c.def_ 38 (d := d_Unions_unite) rfl
  obtain ⟨fd_parting_word, F_parting_word⟩ := c.def_ 49 (d := d_parting_word) rfl
  obtain ⟨fd_check_letters, F_check_letters⟩ := c.def_ 48 (d := d_check_letters) rfl
  obtain ⟨fd_unlike_word, F_unlike_word⟩ := c.def_ 43 (d := d_unlike_word) rfl
  obtain ⟨fd_reached_from, F_reached_from⟩ := c.def_ 15 (d := d_reached_from) rfl
  obtain ⟨fd_Blocks_init, F_Blocks_init⟩ := c.def_ 31 (d := d_Blocks_init) rfl
  obtain ⟨fd_Blocks_taken, F_Blocks_taken⟩ := c.def_ 32 (d := d_Blocks_taken) rfl
  obtain ⟨fd_Blocks_set_apart, F_Blocks_set_apart⟩ := c.def_ 33 (d := d_Blocks_set_apart) rfl
  obtain ⟨fd_least_alike, F_least_alike⟩ := c.def_ 34 (d := d_least_alike) rfl
  obtain ⟨fd_fewest_states, F_fewest_states⟩ := c.def_ 35 (d := d_fewest_states) rfl
  obtain ⟨fd_what_words_do, F_what_words_do⟩ := c.def_ 50 (d := d_what_words_do) rfl
  obtain ⟨fd_syntactic, F_syntactic⟩ := c.def_ 44 (d := d_syntactic) rfl
  obtain ⟨fd_L_source, F_L_source⟩ := c.def_ 51 (d := d_L_source) rfl
  obtain ⟨fd_L_draw, F_L_draw⟩ := c.def_ 52 (d := d_L_draw) rfl
  obtain ⟨fd_L_pick, F_L_pick⟩ := c.def_ 53 (d := d_L_pick) rfl
  obtain ⟨fd_L_moves, F_L_moves⟩ := c.def_ 54 (d := d_L_moves) rfl
  obtain ⟨fd_L_plan, F_L_plan⟩ := c.def_ 55 (d := d_L_plan) rfl
  obtain ⟨fd_L_apart, F_L_apart⟩ := c.def_ 56 (d := d_L_apart) rfl
  obtain ⟨fd_L_made, F_L_made⟩ := c.def_ 57 (d := d_L_made) rfl
  obtain ⟨fd_L_two, F_L_two⟩ := c.def_ 58 (d := d_L_two) rfl
  obtain ⟨fd_L_is_refused, F_L_is_refused⟩ := c.def_ 59 (d := d_L_is_refused) rfl
  obtain ⟨fd_L_right, F_L_right⟩ := c.def_ 60 (d := d_L_right) rfl
  obtain ⟨fd, F⟩ := c.def_ 61 (d := d_law) rfl
  have gl : ∀ (i : Nat) (x : Str), fa[i]? = some (.glo x) → mg x = some (.ref (He.ga K x)) := fun i x e => He.glo_ok X G (c.fact i e)
  have fr : ∀ (i : Nat) (x : Str), fa[i]? = some (.free x) → mg x = none := fun i x e => He.free_ok X G (c.fact i e)
  have it : ∀ (i : Nat) (x : Str) (v : Int), fa[i]? = some (.int x v) → ∃ t, mg x = some (.int v t) := fun i x v e => He.int_ok X G (c.fact i e)
  have st : ∀ (i : Nat) (x v : Str), fa[i]? = some (.str x v) → ∃ t, mg x = some (.str v t) := fun i x v e => He.str_ok X G (c.fact i e)
  have e := hfa.symm.trans (gl 45 "law" rfl)
  cases e
  have b := FunD.bindsA (ps := ["_law_script"]) F fun _ _ _ _ _ _ us hl => match us, hl with | [_], _ => rfl
  refine ⟨fd, fun s v => b s [v] rfl, fun base _ _ TB => ?_⟩
  have T : Txt P w K mg base := ⟨c, m, gl, fr, it, st⟩
  have z_ValueError : mg "ValueError" = none := T.fr 52 "ValueError" rfl
  have z_abs : mg "abs" = none := T.fr 53 "abs" rfl
  have z_all : mg "all" = none := T.fr 54 "all" rfl
  have z_bool : mg "bool" = none := T.fr 55 "bool" rfl
  have z_enumerate : mg "enumerate" = none := T.fr 56 "enumerate" rfl
  have z_int : mg "int" = none := T.fr 57 "int" rfl
  have z_isinstance : mg "isinstance" = none := T.fr 58 "isinstance" rfl
  have z_len : mg "len" = none := T.fr 59 "len" rfl
  have z_list : mg "list" = none := T.fr 60 "list" rfl
  have z_max : mg "max" = none := T.fr 61 "max" rfl
  have z_min : mg "min" = none := T.fr 62 "min" rfl
  have z_range : mg "range" = none := T.fr 63 "range" rfl
  have z_set : mg "set" = none := T.fr 64 "set" rfl
  have z_sorted : mg "sorted" = none := T.fr 65 "sorted" rfl
  have z_tuple : mg "tuple" = none := T.fr 66 "tuple" rfl
  obtain ⟨t_LETTERS, g_LETTERS⟩ := T.st 50 "LETTERS" "abcdef" rfl
  obtain ⟨t_SIGNS, g_SIGNS⟩ := T.st 51 "SIGNS" "abcdefghijklmnopqrst" rfl
  have D_is_number : Def P w K mg base CX0 1 "is_number" ["thing"] spNum := ⟨_, fd_is_number, T.gl 12 "is_number" rfl, F_is_number.kp, ok_num F_is_number z_isinstance z_int z_bool, F_is_number.bindsN fun _ _ _ _ _ _ us hl => match us, hl with | [_], _ => rfl⟩
  have D_is_between : Def P w K mg base CX0 2 "is_between" ["thing", "least", "most"] spBtw := ⟨_, fd_is_between, T.gl 13 "is_between" rfl, F_is_between.kp, ok_btw F_is_between D_is_number, F_is_between.bindsN fun _ _ _ _ _ _ us hl => match us, hl with | [_, _, _], _ => rfl⟩
  have D_is_sequence : Def P w K mg base CX0 1 "is_sequence" ["thing", "least", "most"] (spSeq K) := ⟨_, fd_is_sequence, T.gl 14 "is_sequence" rfl, F_is_sequence.kp, ok_seq F_is_sequence z_isinstance z_list z_tuple z_len, F_is_sequence.bindsN fun _ _ _ _ _ _ us hl => match us, hl with | [_, _, _], _ => rfl⟩
  have D_wrong_place : Def P w K mg base CX0 3 "wrong_place" ["thing", "many"] (spWrong K) := ⟨_, fd_wrong_place, T.gl 15 "wrong_place" rfl, F_wrong_place.kp, ok_wrong F_wrong_place z_isinstance z_list z_tuple z_enumerate D_is_between, F_wrong_place.bindsN fun _ _ _ _ _ _ us hl => match us, hl with | [_, _], _ => rfl⟩
  have D_check_form : Def P w K mg base CX0 3 "_check_form" ["right"] (spForm K) := ⟨_, fd_check_form, T.gl 18 "_check_form" rfl, F_check_form.kp, ok_form F_check_form T D_is_sequence D_is_between, F_check_form.bindsN fun _ _ _ _ _ _ us hl => match us, hl with | [_], _ => rfl⟩
  have D_made_by : Def P w K mg base CX0 1 "_made_by" ["right"] (spMade K) := ⟨_, fd_made_by, T.gl 19 "_made_by" rfl, F_made_by.kp, ok_made F_made_by T, F_made_by.bindsN fun _ _ _ _ _ _ us hl => match us, hl with | [_], _ => rfl⟩
  have D_left_table : Def P w K mg base CX0 1 "_left_table" ["right", "made"] (spLeft K) := ⟨_, fd_left_table, T.gl 20 "_left_table" rfl, F_left_table.kp, ok_left F_left_table T, F_left_table.bindsN fun _ _ _ _ _ _ us hl => match us, hl with | [_, _], _ => rfl⟩
  have D_check_products : Def P w K mg base CX0 1 "_check_products" ["right", "left"] (spProds K) := ⟨_, fd_check_products, T.gl 21 "_check_products" rfl, F_check_products.kp, ok_prods F_check_products T, F_check_products.bindsN fun _ _ _ _ _ _ us hl => match us, hl with | [_, _], _ => rfl⟩
  have mM : L2.Mk K (He.ga K "Monoid") (He.ma K (He.ga K "Monoid") "__init__") := He.mkr_ok (T.d.fact 68 (f := .mkr "Monoid") rfl)
  have FM := ok_mon F_Monoid_init T D_check_form D_made_by D_left_table D_check_products
  have bM : L2.Binds K fd_Monoid_init ["self", "right"] [] := F_Monoid_init.bindsN fun _ _ _ _ _ _ us hl => match us, hl with | [_, _], _ => rfl
  have M_size : DefM P w K mg base CX0 1 "size" ["self"] (spSize K) := ⟨_, fd_Monoid_size, He.meth_ok (T.d.fact 70 (f := .meth "Monoid" "size") rfl), ok_size F_Monoid_size T, F_Monoid_size.bindsN fun _ _ _ _ _ _ us hl => match us, hl with | [_], _ => rfl⟩
  have D_check_monoid : Def P w K mg base CX0 1 "check_monoid" ["thing"] (spCkM K) := ⟨_, fd_check_monoid, T.gl 17 "check_monoid" rfl, F_check_monoid.kp, ok_ckM F_check_monoid T, F_check_monoid.bindsN fun _ _ _ _ _ _ us hl => match us, hl with | [_], _ => rfl⟩
  have D_are_rows : Def P w K mg base CX0 4 "_are_rows" ["rows"] (spRows K) := ⟨_, fd_are_rows, T.gl 30 "_are_rows" rfl, F_are_rows.kp, ok_rows F_are_rows T D_is_sequence D_wrong_place, F_are_rows.bindsN fun _ _ _ _ _ _ us hl => match us, hl with | [_], _ => rfl⟩
  have mA : L2.Mk K (He.ga K "Automaton") (He.ma K (He.ga K "Automaton") "__init__") := He.mkr_ok (T.d.fact 93 (f := .mkr "Automaton") rfl)
  have FA := ok_aut F_Automaton_init T D_are_rows D_is_between D_wrong_place
  have bA : L2.Binds K fd_Automaton_init ["self", "rows", "start", "accepted"] [] := F_Automaton_init.bindsN fun _ _ _ _ _ _ us hl => match us, hl with | [_, _, _, _], _ => rfl
  have mL : L2.Mk K (He.ga K "Language") (He.ma K (He.ga K "Language") "__init__") := He.mkr_ok (T.d.fact 99 (f := .mkr "Language") rfl)
  have FL := ok_lan F_Language_init T D_check_monoid M_size D_wrong_place
  have bL : L2.Binds K fd_Language_init ["self", "monoid", "accepted"] [] := F_Language_init.bindsN fun _ _ _ _ _ _ us hl => match us, hl with | [_, _, _], _ => rfl
  have D_check_thing : Def P w K mg base CX0 1 "check_thing" ["thing"] (spCkT K) := ⟨_, fd_check_thing, T.gl 29 "check_thing" rfl, F_check_thing.kp, ok_ckT F_check_thing T, F_check_thing.bindsN fun _ _ _ _ _ _ us hl => match us, hl with | [_], _ => rfl⟩
  have D_states_of : Def P w K mg base CX0 2 "_states_of" ["thing"] (spSt K) := ⟨_, fd_states_of, T.gl 31 "_states_of" rfl, F_states_of.kp, ok_st F_states_of T D_check_thing, F_states_of.bindsN fun _ _ _ _ _ _ us hl => match us, hl with | [_], _ => rfl⟩
  have mU : L2.Mk K (He.ga K "Unions") (He.ma K (He.ga K "Unions") "__init__") := He.mkr_ok (T.d.fact 87 (f := .mkr "Unions") rfl)
  have FU := ok_ui F_Unions_init T
  have bU : L2.Binds K fd_Unions_init ["self", "size"] [] := F_Unions_init.bindsN fun _ _ _ _ _ _ us hl => match us, hl with | [_, _], _ => rfl
  have M_top : DefC P w K mg base CX0 1 "Unions" "top" ["self", "number"] (spTop K) := ⟨_, fd_Unions_top, He.meth_ok (T.d.fact 88 (f := .meth "Unions" "top") rfl), ok_top F_Unions_top T, F_Unions_top.bindsN fun _ _ _ _ _ _ us hl => match us, hl with | [_, _], _ => rfl⟩
  have M_unite : DefC P w K mg base CX0 2 "Unions" "unite" ["self", "one", "other"] (spUnite K) := ⟨_, fd_Unions_unite, He.meth_ok (T.d.fact 89 (f := .meth "Unions" "unite") rfl), ok_unite F_Unions_unite T M_top, F_Unions_unite.bindsN fun _ _ _ _ _ _ us hl => match us, hl with | [_, _, _], _ => rfl⟩
  have D_parting_word : Def P w K mg base CX0 3 "_parting_word" ["rows", "marks", "one", "other"] (spPart K) := ⟨_, fd_parting_word, T.gl 33 "_parting_word" rfl, F_parting_word.kp, ok_part F_parting_word T mU FU bU M_unite, F_parting_word.bindsN fun _ _ _ _ _ _ us hl => match us, hl with | [_, _, _, _], _ => rfl⟩
  have D_check_letters : Def P w K mg base (L2.CX P w) 1 "_check_letters" ["rows", "other_rows"] (spCkL K) := ⟨_, fd_check_letters, T.gl 32 "_check_letters" rfl, F_check_letters.kp, ok_ckL F_check_letters T, F_check_letters.bindsN fun _ _ _ _ _ _ us hl => match us, hl with | [_, _], _ => rfl⟩
  have FS := ok_ul F_unlike_word T D_states_of D_check_letters D_parting_word
  have bS : L2.Binds K fd_unlike_word ["one", "other"] [] := F_unlike_word.bindsN fun _ _ _ _ _ _ us hl => match us, hl with | [_, _], _ => rfl
  have D_reached_from : Def P w K mg base CX0 2 "reached_from" ["rows", "first"] (spReach K) := ⟨_, fd_reached_from, T.gl 16 "reached_from" rfl, F_reached_from.kp, ok_reach F_reached_from T, F_reached_from.bindsN fun _ _ _ _ _ _ us hl => match us, hl with | [_, _], _ => rfl⟩
  have mB : L2.Mk K (He.ga K "Blocks") (He.ma K (He.ga K "Blocks") "__init__") := He.mkr_ok (T.d.fact 79 (f := .mkr "Blocks") rfl)
  have FB := ok_bi F_Blocks_init T
  have bB : L2.Binds K fd_Blocks_init ["self", "marks"] [] := F_Blocks_init.bindsN fun _ _ _ _ _ _ us hl => match us, hl with | [_, _], _ => rfl
  have M_taken : DefC P w K mg base CX0 1 "Blocks" "taken" ["self"] (spTaken K) := ⟨_, fd_Blocks_taken, He.meth_ok (T.d.fact 80 (f := .meth "Blocks" "taken") rfl), ok_tk F_Blocks_taken T, F_Blocks_taken.bindsN fun _ _ _ _ _ _ us hl => match us, hl with | [_], _ => rfl⟩
  have M_set : DefC P w K mg base CX0 1 "Blocks" "set_apart" ["self", "states"] (spSet K) := ⟨_, fd_Blocks_set_apart, He.meth_ok (T.d.fact 81 (f := .meth "Blocks" "set_apart") rfl), ok_sa F_Blocks_set_apart T, F_Blocks_set_apart.bindsN fun _ _ _ _ _ _ us hl => match us, hl with | [_, _], _ => rfl⟩
  have D_least_alike : Def P w K mg base CX0 3 "least_alike" ["rows", "marks"] (spLA K) := ⟨_, fd_least_alike, T.gl 25 "least_alike" rfl, F_least_alike.kp, ok_la F_least_alike T mB FB bB M_taken M_set, F_least_alike.bindsN fun _ _ _ _ _ _ us hl => match us, hl with | [_, _], _ => rfl⟩
  have D_fewest_states : Def P w K mg base CX0 4 "fewest_states" ["rows", "start", "marks"] (spFs K) := ⟨_, fd_fewest_states, T.gl 26 "fewest_states" rfl, F_fewest_states.kp, ok_fs F_fewest_states T D_reached_from D_least_alike, F_fewest_states.bindsN fun _ _ _ _ _ _ us hl => match us, hl with | [_, _, _], _ => rfl⟩
  have D_what_words_do : Def P w K mg base CX0 4 "_what_words_do" ["rows"] (spWhat K) := ⟨_, fd_what_words_do, T.gl 34 "_what_words_do" rfl, F_what_words_do.kp, ok_ww F_what_words_do T TB, F_what_words_do.bindsN fun _ _ _ _ _ _ us hl => match us, hl with | [_], _ => rfl⟩
  have D_syntactic : Def P w K mg base CX0 7 "syntactic" ["thing"] (spSyn K) := ⟨_, fd_syntactic, T.gl 28 "syntactic" rfl, F_syntactic.kp, ok_syn F_syntactic T D_states_of D_fewest_states D_what_words_do mM FM bM mL FL bL, F_syntactic.bindsN fun _ _ _ _ _ _ us hl => match us, hl with | [_], _ => rfl⟩
  have D_L_source : Def P w K mg base CX0 1 "_law_source" ["_law_cell"] spSource := ⟨_, fd_L_source, T.gl 35 "_law_source" rfl, F_L_source.kp, ok_source F_L_source z_abs z_int, F_L_source.bindsN fun _ _ _ _ _ _ us hl => match us, hl with | [_], _ => rfl⟩
  have D_L_draw : Def P w K mg base CX0 1 "_law_draw" ["_law_source_here", "_law_many"] spDraw := ⟨_, fd_L_draw, T.gl 36 "_law_draw" rfl, F_L_draw.kp, ok_draw F_L_draw z_int, F_L_draw.bindsN fun _ _ _ _ _ _ us hl => match us, hl with | [_, _], _ => rfl⟩
  have D_L_pick : Def P w K mg base CX0 2 "_law_pick" ["_law_source_here", "_law_some"] spPick := ⟨_, fd_L_pick, T.gl 37 "_law_pick" rfl, F_L_pick.kp, ok_pick F_L_pick z_len D_L_draw, F_L_pick.bindsN fun _ _ _ _ _ _ us hl => match us, hl with | [_, _], _ => rfl⟩
  have D_L_moves : Def P w K mg base CX0 3 "_law_moves" ["_law_source_here", "_law_many", "_law_letters"] spMoves := ⟨_, fd_L_moves, T.gl 38 "_law_moves" rfl, F_L_moves.kp, ok_moves F_L_moves z_range z_len z_list z_max z_sorted z_enumerate D_L_draw D_L_pick, F_L_moves.bindsN fun _ _ _ _ _ _ us hl => match us, hl with | [_, _, _], _ => rfl⟩
  have D_L_plan : Def P w K mg base CX0 4 "_law_plan" ["_law_source_here", "_law_most"] spPlan := ⟨_, fd_L_plan, T.gl 39 "_law_plan" rfl, F_L_plan.kp, ok_plan F_L_plan z_range D_L_draw D_L_pick D_L_moves, F_L_plan.bindsN fun _ _ _ _ _ _ us hl => match us, hl with | [_, _], _ => rfl⟩
  have D_L_apart : Def P w K mg base CX0 1 "_law_apart" ["_law_one", "_law_other"] (spApart K) := ⟨_, fd_L_apart, T.gl 40 "_law_apart" rfl, F_L_apart.kp, ok_ap F_L_apart T, F_L_apart.bindsN fun _ _ _ _ _ _ us hl => match us, hl with | [_, _], _ => rfl⟩
  have D_L_made : Def P w K mg base CX0 7 "_law_made" ["_law_plan_here"] (spMade2 K) := ⟨_, fd_L_made, T.gl 41 "_law_made" rfl, F_L_made.kp, ok_made2 F_L_made T mA FA bA, F_L_made.bindsN fun _ _ _ _ _ _ us hl => match us, hl with | [_], _ => rfl⟩
  have D_L_two : Def P w K mg base CX0 5 "_law_two" ["_law_source_here"] (spTwo K) := ⟨_, fd_L_two, T.gl 42 "_law_two" rfl, F_L_two.kp, ok_two F_L_two T D_L_draw D_L_plan D_L_moves, F_L_two.bindsN fun _ _ _ _ _ _ us hl => match us, hl with | [_], _ => rfl⟩
  have D_L_is_refused : Def P w K mg base CX0 5 "_law_is_refused" ["_law_one", "_law_other"] (spIsR K) := ⟨_, fd_L_is_refused, T.gl 43 "_law_is_refused" rfl, F_L_is_refused.kp, ok_ir F_L_is_refused T (T.gl 27 "unlike_word" rfl) F_unlike_word.kp FS bS, F_L_is_refused.bindsN fun _ _ _ _ _ _ us hl => match us, hl with | [_, _], _ => rfl⟩
  have D_L_right : Def P w K mg base CX0 8 "_law_right" ["_law_source_here"] (spRight K) := ⟨_, fd_L_right, T.gl 44 "_law_right" rfl, F_L_right.kp, ok_right F_L_right T D_L_two D_L_apart D_L_made D_syntactic D_L_is_refused mA FA bA (T.gl 27 "unlike_word" rfl) F_unlike_word.kp FS bS, F_L_right.bindsN fun _ _ _ _ _ _ us hl => match us, hl with | [_], _ => rfl⟩
  exact ok_law F T D_L_source D_L_right
end K69
open PySem PySem.W PySem.Calls PyProof.Rows
theorem PySem.Challenge.cw_letterfolds_k69_whole_least_words_apart_holds : PySem.Challenge.rw_letterfolds_k69_whole_least_words_apart.Holds := by
  w_on; o_law
  refine HandSHeadRun.head_any (r := K69.R) (q := K69.vw) (H := K69.hk) (ob := K69.ob) (M := 20000) (loose := K69.loose) (d := HandSHeadRun.topDef K69.R.prog 60) (kwd := []) K69.ob_eq
    (by kernel_rfl) (fun s => by kernel_rfl) K69.run (by kernel_rfl) (by kernel_rfl) (by kernel_rfl) (by rfl) (by first | assumption | decide +kernel) (by decide +kernel) ⟨rfl, rfl, rfl, rfl, rfl, by decide +kernel⟩ ?hw ?hc
  case hw => w_witness2
  case hc =>
    refine LamX.walk_ofTsE (l := PySem.Challenge.rw_letterfolds_k69_whole_least_words_apart) (n := 63) (k := 9) (x := "_law_script") (CX := fun _ => L2.CX0) rfl (by decide) (by kernel_rfl) ⟨rfl, by decide, by decide⟩ ?F (fun _ _ _ _ _ z => z)
    intro w mg fa h Y G hmg0
    obtain ⟨K, KX, S⟩ := Y
    have hmg : mg ("law" : PySem.Str) = some (.ref fa) := by
      have e : (HandSHeadRun.topDef K69.R.prog 60).name = ("law" : PySem.Str) := by kernel_rfl
      rw [← e]
      exact hmg0
    obtain ⟨fd, hb, hF⟩ := K69.facts (P := PySem.Challenge.rw_letterfolds_k69_whole_least_words_apart.prog) (w := w) KX G hmg S.d S.m
    have one : ∀ {C : PySem.Addr × PySem.Addr → Prop}, C (He.cT K ("_what_words_do", none)) → ∀ p ∈ [He.cT K ("_what_words_do", none)], C p := fun h p hp => by rw [List.mem_singleton.mp hp]; exact h
    refine ⟨K, KX, fd, [He.cT K ("_what_words_do", none)], K69.spLaw K, one (S.empty _ List.mem_cons_self), one (S.out _ List.mem_cons_self), one (PySem.W.codeHd_of_K KX (S.hd _ List.mem_cons_self)), hb, fun H a ns hl _ hH hS => ⟨a, ns, rfl, hS, hl, fun p hp => ?_, fun _ => rfl⟩, fun base k1 k2 k3 => hF base k1 k2 (k3 _ List.mem_cons_self)⟩
    rw [List.mem_singleton.mp hp]
    exact LamX.TabS.nil (hH _ List.mem_cons_self)
