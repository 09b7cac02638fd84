import PyProof.Rows.All
import Wide.All
import OpenK.AllK
import Wide.FinOn
import HandS.ForMost
import HandS.Wide
import HandS.Defaults
import HandS.MakeKwOnly
import HandS.Flow
import HandS.More
import HandS.Walk
import KE.LtData
import HandS.TupSets
import HandS.SortKw
import HandS.SetKeys
import KE.DataMinMax
import HandS.DictTup
import PyProof.DictMoreH
import HandS.SortRule
import KE.KItemsList
import KE.KDictZip
import KE.KTurns
import KE.KEqDict
import PyProof.DictFindH
import HandS.Gcd
import HandS.IsInst
import KE.KMathGC
import HandS.FStr
import HandS.Text
import HandS.Conv
import HandS.Exc
import HandS.ExcOwn
import HandS.WordsExc
import HandS.TryOnly
import KE.KAssignIn
import HandS.Iter
import HandS.Zip
import HandS.Deep
import HandS.SlotsOwn
import HandS.OwnEq
import HandS.ExcInit
import HandS.ExcField
import HandS.ExcIs
import KE.KExcSuper
import KE.KTypeName
import KE.KSuper
import KE.KExcIs
import HandS.Codes
import HandS.Lambda
import PySem.Challenge.RW_metronet_k21_texts_that_are_refused
set_option Elab.async false
set_option linter.all false
set_option maxRecDepth 100000
set_option maxHeartbeats 4000000
/-! What any law wants, without the row: heaps, loops, order of data. -/
namespace My
open PySem PySem.Spec PyProof.Rows L2

theorem same_new {H : Hp} {p : Addr} {o : HO} (h : H p = none) : Same H (upd H p o) := fun b x e => by
  rw [upd_ne (ne_of_none e h)]
  exact e
/-- an object that H does not know may change -/
theorem same_mut {H H' : Hp} {p : Addr} {o : HO} (e : Same H H') (h : H p = none) : Same H (upd H' p o) := fun a u ha => by
  rw [upd_ne (ne_of_none ha h)]
  exact e a u ha
theorem ne_new {H H' : Hp} {a p : Addr} (n : H p = none) (h : H' p ≠ none) (e : H' a = none) : p ≠ a := fun q => h (q ▸ e)
/-- a list of ints by place -/
theorem ints_at {ns : List Int} {i : Nat} {y : V} (h : (ns.map V.int)[i]? = some y) : ∃ n, ns[i]? = some n ∧ y = .int n := by
  rw [List.getElem?_map] at h
  cases e : ns[i]? with
  | none => rw [e] at h; cases h
  | some n => rw [e] at h; exact ⟨n, rfl, (Option.some.inj h).symm⟩
theorem int_at {ns : List Int} {i : Nat} {n : Int} (h : ns[i]? = some n) : (ns.map V.int)[i]? = some (.int n) := by
  rw [List.getElem?_map, h]; rfl
theorem atI_int {ns : List Int} {i : Nat} (h : i < ns.length) : atI (ns.map V.int) (i : Int) = some (.int ns[i]) := atI_nat (int_at (List.getElem?_eq_getElem h))
theorem sz {n : Nat} (h : n ≤ 100000) : n ≤ sizeLine := Nat.le_trans h (by decide)
theorem szl {n : Nat} (h : n < 100000) : n < sizeLine := Nat.lt_of_lt_of_le h (by decide)

theorem getD_lt {α : Type} {xs : List α} {j : Nat} (d : α) (h : j < xs.length) : xs.getD j d = xs[j] := by
  rw [List.getD_eq_getElem?_getD, List.getElem?_eq_getElem h]; rfl
theorem getD_at {α : Type} {xs : List α} {j : Nat} (d : α) (h : j < xs.length) : xs[j]? = some (xs.getD j d) := by
  rw [getD_lt d h, List.getElem?_eq_getElem h]
theorem atI_ints {ns : List Int} {z : Int} {j : Nat} (e : z = (j : Int)) (h : j < ns.length) : atI (ns.map V.int) z = some (.int (ns.getD j 0)) := by
  rw [e]
  exact atI_nat (int_at (getD_at 0 h))
theorem getD_mem {ns : List Int} {j : Nat} (h : j < ns.length) : ns.getD j 0 ∈ ns := by
  rw [getD_lt 0 h]; exact List.getElem_mem h
/-! ### tests that change nothing -/
theorem or_read {t u : TT} {σ : L2.St} {H : Hp} {Q : Bool → Hp → Prop} {a b : Bool} (ht : ∀ Q : Bool → Hp → Prop, Q a H → t σ H Q) (hu : ∀ Q : Bool → Hp → Prop, Q b H → u σ H Q) (h : Q (a || b) H) : tOr t u σ H Q := by
  refine ht _ ?_
  cases a with
  | true => exact iteT h
  | false => exact iteF (hu _ h)
theorem and_read {t u : TT} {σ : L2.St} {H : Hp} {Q : Bool → Hp → Prop} {a b : Bool} (ht : ∀ Q : Bool → Hp → Prop, Q a H → t σ H Q) (hu : a = true → ∀ Q : Bool → Hp → Prop, Q b H → u σ H Q) (h : Q (a && b) H) : tAnd t u σ H Q := by
  refine ht _ ?_
  cases a with
  | true => exact iteT (hu rfl _ h)
  | false => exact iteF h
/-! ### < of data -/
section
variable {X : Cx}
def rLtD (K : PySem.W.Frag) : R2 := fun x y H Q => ∃ d e, Dp K H x d ∧ Dp K H y e ∧ PySem.W.alike d e = true ∧ d ≠ .none ∧ min d.depth e.depth ≤ 64 ∧ Q (.bl (PySem.W.dataLt d e)) H
theorem op_ltD (hu : X.A.units + 64 < cLine) : OpR X (compareOp .Lt) (rLtD X.K) := by
  intro pins s σ H x y v u Q I rx ry h
  obtain ⟨d, e, hd, he, al, nn, dp, q⟩ := h
  obtain ⟨as, r1⟩ := Dp.reads I d x v hd rx
  obtain ⟨bs, r2⟩ := Dp.reads I e y u he ry
  have z : wpAny (model X.prog X.w) X.A (compareOp .Lt v u) (EP X pins σ Q) X.xe s := PySem.W.rcLt_alike d e X.A s v u as bs r1 r2 al nn (by omega) X.prog X.w X.xe (EP X pins σ Q) ⟨.bl _, H, I, rfl, q⟩
  exact z
end
/-! ### rules that name the written part, for a comprehension's block -/
section
variable {X : Cx} {K : PySem.W.Frag}
theorem pe_fldK {e : Expr} {f : Str} {pos : Pos} {ta : TE} (he : PE X e ta) (hK : X.K = K := by rfl) (hb : attributeBase e f X.env (eval e X.env) = eval e X.env := by rfl) : PE X (.Attribute e f pos) (tFld K ta f) := by
  subst hK
  exact pe_fld he hb
theorem ix_listK (hK : X.K = K := by rfl) : IxR X (rIxL K) := by
  subst hK
  exact ix_list
theorem ix_tupK (hK : X.K = K := by rfl) : IxR X (rIxT K) := by
  subst hK
  exact ix_tup
def rLenK (K : PySem.W.Frag) : List V → Hp → VK → Prop := fun xs H Q => ∃ p ys, xs = [.ref p] ∧ (SqL K H p ys ∨ SqT K H p ys) ∧ Q (.int ys.length) H
theorem call_lenK (hK : X.K = K := by rfl) : CallR X (.builtin "len") (rLenK K) := by
  subst hK
  exact call_len_seq
theorem pg_tupK {es : List Expr} {k : Nat} {t : TGs} {n : Nat} {pos : Pos} (hc : X.calm = true) (h : PGs X es t) (hK : X.K = K := by rfl)
    (hn : (assignEach es X.env).length = n := by rfl) (hst : (assignEach es X.env).findIdx? (·.1) = none := by rfl) : PG X (.Tuple es k pos) (gTup K n t) := by
  subst hK
  exact pg_tup hc h hn hst
end
end My
/-! min(d, default=..), max(d, default=..) over the int keys of a dict. No row. -/
namespace My
open PySem PySem.Spec PyProof.Rows L2
section
variable {X : Cx}
def rMinKD : List V → List V → Hp → VK → Prop := fun vs zs H Q => ∃ (a : Addr) (kvs : List (Key × V)) (is : List Int) (d : V), vs = [V.ref a] ∧ zs = [d] ∧ H a = some (.dK kvs) ∧ kvs.map (·.1) = is.map Sum.inl ∧ (is = [] → Q d H) ∧ (is ≠ [] → ∀ m, m ∈ is → (∀ j ∈ is, m ≤ j) → Q (.int m) H)
def rMaxKD : List V → List V → Hp → VK → Prop := fun vs zs H Q => ∃ (a : Addr) (kvs : List (Key × V)) (is : List Int) (d : V), vs = [V.ref a] ∧ zs = [d] ∧ H a = some (.dK kvs) ∧ kvs.map (·.1) = is.map Sum.inl ∧ (is = [] → Q d H) ∧ (is ≠ [] → ∀ m, m ∈ is → (∀ j ∈ is, j ≤ m) → Q (.int m) H)
theorem cr_minKD (hc : X.calm = true) : CallRK X (.builtin "min") ["default"] rMinKD := by
  intro pins s σ H vs zs us ws Q I r r2 h
  obtain ⟨a, kvs, is, d, rfl, rfl, ha, hv, q0, q⟩ := h
  rw [Vals.ref1 r]
  obtain ⟨dv, rd, rfl⟩ : ∃ dv, RelV d dv ∧ ws = [dv] := by
    cases r2 with
    | cons r t => cases t with
      | nil => exact ⟨_, r, rfl⟩
  obtain ⟨_, hsys, vs, rel, dof⟩ := dk_of I.hok ha
  obtain ⟨ep, dat⟩ := dof.dictAt
  obtain ⟨ob, es, ho, hex, hdat, hko, hpr, hnd⟩ := id dat
  have hlt : a < s.heap.objs.size := Heap.lt_size ho
  have hkeys : vs.map (·.1) = is.map Sum.inl := (KV.keys rel).symm.trans hv
  have hlv : vs.length = is.length := by
    have e1 := congrArg List.length hkeys
    rw [List.length_map, List.length_map] at e1
    exact e1
  have hval : ∀ (i : Nat) (v : Value), (∃ k x, vs[i]? = some (k, x) ∧ (mixKind X.prog X.w).is k v = true) → ∃ t, v = Value.int (is.getD i 0) t := fun i v ⟨k, x, hk, hkey⟩ => by
    have e1 : (vs.map (·.1))[i]? = some k := by rw [List.getElem?_map, hk] <;> rfl
    rw [hkeys, List.getElem?_map] at e1
    obtain ⟨j, hj, e2⟩ := Option.map_eq_some_iff.mp e1
    subst e2
    have hi : Value.isInt j v = true := hkey
    obtain ⟨t, e3⟩ := Value.isInt_shape (k := j) (v := v) hi
    refine ⟨t, ?_⟩
    rw [e3, List.getD_eq_getElem?_getD, hj] <;> rfl
  have hnew : ∀ b (u : Obj), s.heap.get? b = some u → b ∉ [s.heap.objs.size] := fun b u e hm => by
    have e1 : b = s.heap.objs.size := List.mem_singleton.mp hm
    have e2 := Heap.lt_size e
    rw [e1] at e2
    exact absurd e2 (Nat.lt_irrefl _)
  show wpAny _ _ (call (.builtin "min") [.ref a] [("default", dv)]) _ _ _
  refine call_min_walkD (wpAny_pyIter_dict (knd := mixKind X.prog X.w) hsys dat ?_)
  refine ⟨_, _, _, _, _, _, _, s.heap, _, rfl, (Walks.dictKeys (knd := mixKind X.prog X.w) (A := X.A.in1) (I.ok.hd hc) s.heap.objs.size a (Nat.ne_of_lt hlt) vs ep).toS,
    ⟨⟨_, Heap.get?_push_size _ rfl, rfl, rfl⟩, dat.keep fun b u e => Heap.get?_push_of_some _ e⟩, fun b hb => ?_, hnew, fun b o e => Heap.get?_push_of_some _ e, fun hz s' m => ?_, fun hp => ⟨fun i j vi vj s Q E _ => CmpOf.ints_lt (fun i => is.getD i 0) hval i j vi vj s Q E, fun v s' hP m => ?_⟩⟩
  · show b < (s.heap.push _).objs.size
    rw [Heap.size_push]
    rcases List.mem_cons.mp hb with e | hb
    · rw [e]
      exact Nat.lt_succ_self _
    · rw [List.mem_singleton.mp hb]
      exact Nat.lt_succ_of_lt hlt
  · obtain ⟨h', tk, rfl, hk'⟩ := PySem.W.moved_old (s := s) rfl rfl m
    exact ⟨d, H, I.kept (t' := tk) fun b u e => hk' b u e, rd, q0 (List.eq_nil_of_length_eq_zero (by omega))⟩
  · obtain ⟨h', tk, rfl, hk'⟩ := PySem.W.moved_old (s := s) rfl rfl m
    obtain ⟨t, rfl⟩ := hval _ v hP
    obtain ⟨b1, b2⟩ := argBest_lt (fun i => is.getD i 0) (vs.length - 1)
    have hne : is ≠ [] := fun z => by
      rw [z] at hlv
      have : vs.length = 0 := hlv
      omega
    refine ⟨.int _, H, I.kept (t' := tk) fun b u e => hk' b u e, ⟨t, rfl⟩, q hne _ ?_ fun j hj => ?_⟩
    · have hb : argBest (fun i j => decide (is.getD i 0 < is.getD j 0)) (vs.length - 1) < is.length := by omega
      rw [List.getD_eq_getElem?_getD, List.getElem?_eq_getElem hb]
      exact List.getElem_mem hb
    · obtain ⟨i, hi, e⟩ := List.mem_iff_getElem.mp hj
      have e2 : is.getD i 0 = j := by rw [List.getD_eq_getElem?_getD, List.getElem?_eq_getElem hi, ← e] <;> rfl
      rw [← e2]
      exact b2 i (by omega)
theorem cr_maxKD (hc : X.calm = true) : CallRK X (.builtin "max") ["default"] rMaxKD := by
  intro pins s σ H vs zs us ws Q I r r2 h
  obtain ⟨a, kvs, is, d, rfl, rfl, ha, hv, q0, q⟩ := h
  rw [Vals.ref1 r]
  obtain ⟨dv, rd, rfl⟩ : ∃ dv, RelV d dv ∧ ws = [dv] := by
    cases r2 with
    | cons r t => cases t with
      | nil => exact ⟨_, r, rfl⟩
  obtain ⟨_, hsys, vs, rel, dof⟩ := dk_of I.hok ha
  obtain ⟨ep, dat⟩ := dof.dictAt
  obtain ⟨ob, es, ho, hex, hdat, hko, hpr, hnd⟩ := id dat
  have hlt : a < s.heap.objs.size := Heap.lt_size ho
  have hkeys : vs.map (·.1) = is.map Sum.inl := (KV.keys rel).symm.trans hv
  have hlv : vs.length = is.length := by
    have e1 := congrArg List.length hkeys
    rw [List.length_map, List.length_map] at e1
    exact e1
  have hval : ∀ (i : Nat) (v : Value), (∃ k x, vs[i]? = some (k, x) ∧ (mixKind X.prog X.w).is k v = true) → ∃ t, v = Value.int (is.getD i 0) t := fun i v ⟨k, x, hk, hkey⟩ => by
    have e1 : (vs.map (·.1))[i]? = some k := by rw [List.getElem?_map, hk] <;> rfl
    rw [hkeys, List.getElem?_map] at e1
    obtain ⟨j, hj, e2⟩ := Option.map_eq_some_iff.mp e1
    subst e2
    have hi : Value.isInt j v = true := hkey
    obtain ⟨t, e3⟩ := Value.isInt_shape (k := j) (v := v) hi
    refine ⟨t, ?_⟩
    rw [e3, List.getD_eq_getElem?_getD, hj] <;> rfl
  have hnew : ∀ b (u : Obj), s.heap.get? b = some u → b ∉ [s.heap.objs.size] := fun b u e hm => by
    have e1 : b = s.heap.objs.size := List.mem_singleton.mp hm
    have e2 := Heap.lt_size e
    rw [e1] at e2
    exact absurd e2 (Nat.lt_irrefl _)
  show wpAny _ _ (call (.builtin "max") [.ref a] [("default", dv)]) _ _ _
  refine call_max_walkD (wpAny_pyIter_dict (knd := mixKind X.prog X.w) hsys dat ?_)
  refine ⟨_, _, _, _, _, _, _, s.heap, _, rfl, (Walks.dictKeys (knd := mixKind X.prog X.w) (A := X.A.in1) (I.ok.hd hc) s.heap.objs.size a (Nat.ne_of_lt hlt) vs ep).toS,
    ⟨⟨_, Heap.get?_push_size _ rfl, rfl, rfl⟩, dat.keep fun b u e => Heap.get?_push_of_some _ e⟩, fun b hb => ?_, hnew, fun b o e => Heap.get?_push_of_some _ e, fun hz s' m => ?_, fun hp => ⟨fun i j vi vj s Q E _ => CmpOf.ints_gt (fun i => is.getD i 0) hval i j vi vj s Q E, fun v s' hP m => ?_⟩⟩
  · show b < (s.heap.push _).objs.size
    rw [Heap.size_push]
    rcases List.mem_cons.mp hb with e | hb
    · rw [e]
      exact Nat.lt_succ_self _
    · rw [List.mem_singleton.mp hb]
      exact Nat.lt_succ_of_lt hlt
  · obtain ⟨h', tk, rfl, hk'⟩ := PySem.W.moved_old (s := s) rfl rfl m
    exact ⟨d, H, I.kept (t' := tk) fun b u e => hk' b u e, rd, q0 (List.eq_nil_of_length_eq_zero (by omega))⟩
  · obtain ⟨h', tk, rfl, hk'⟩ := PySem.W.moved_old (s := s) rfl rfl m
    obtain ⟨t, rfl⟩ := hval _ v hP
    obtain ⟨b1, b2⟩ := argBest_gt (fun i => is.getD i 0) (vs.length - 1)
    have hne : is ≠ [] := fun z => by
      rw [z] at hlv
      have : vs.length = 0 := hlv
      omega
    refine ⟨.int _, H, I.kept (t' := tk) fun b u e => hk' b u e, ⟨t, rfl⟩, q hne _ ?_ fun j hj => ?_⟩
    · have hb : argBest (fun i j => decide (is.getD i 0 > is.getD j 0)) (vs.length - 1) < is.length := by omega
      rw [List.getD_eq_getElem?_getD, List.getElem?_eq_getElem hb]
      exact List.getElem_mem hb
    · obtain ⟨i, hi, e⟩ := List.mem_iff_getElem.mp hj
      have e2 : is.getD i 0 = j := by rw [List.getD_eq_getElem?_getD, List.getElem?_eq_getElem hi, ← e] <;> rfl
      rw [← e2]
      exact b2 i (by omega)
end
end My
/-! d.setdefault(k, x) of a dict with tuple keys. No row. -/
namespace My
open PySem PySem.Spec PyProof.Rows L2
def tDSetdT (td ty tx : TE) : TE := fun σ H Q => td σ H fun x H1 => ∃ a, x = .ref a ∧ IsD H1 a ∧ ty σ H1 fun y H2 => tx σ H2 fun z H3 => ∃ (kvs : List (List Key × V)) (k : List Key) (b : Addr), H3 a = some (.dT kvs) ∧ y = .ref b ∧ H3 b = some (.tup (k.map kV)) ∧ kvs.length < sizeLine ∧
  (∀ v, valV kvs k = some v → Q v H3) ∧ (valV kvs k = none → Q z (upd H3 a (.dT (putK kvs k z))))
section
variable {X : Cx} {o e f : Expr} {td ty tx : TE} {apos cpos : Pos} {pins : List (Addr × Obj)} {σ : L2.St} {H : Hp} {s : Shared} {a b : Addr} {r : Value} {d : V} {A : Around} {E : Value → Shared → Prop}
theorem d_setdT {kvs : List (List Key × V)} {k : List Key} {Q : Value → Shared → Prop} (hu : A.units + 1 < cLine) (I : Inv X pins σ H s) (e : H a = some (.dT kvs)) (eb : H b = some (.tup (k.map kV))) (rd : RelV d r) (hl : kvs.length < sizeLine)
    (h1 : ∀ v, valV kvs k = some v → ∀ (w' : Value) (s' : Shared), Inv X pins σ H s' → RelV v w' → Q w' s') (h2 : valV kvs k = none → ∀ (w' : Value) (s' : Shared), Inv X pins σ (upd H a (.dT (putK kvs k d))) s' → RelV d w' → Q w' s') :
    wpAny (model X.prog X.w) A (call (.builtin "dict.setdefault") [.ref a, .ref b, r]) Q E s := by
  obtain ⟨z, hd, xs, rel, dd⟩ := dt_of I.hok e
  have hz : xs.length ≤ sizeLine := by rw [← Paired.length rel]; exact z
  have rv := rel.val k
  refine call_setdefault_heap (tupleKind_room_in1 hu) (key_of I.hok eb) hd dd (fun p hp => ?_) (fun hn h' dd' hs => ?_) hz
  · rw [hp] at rv
    cases q0 : valV kvs k with
    | none => rw [q0] at rv; exact (show False from rv).elim
    | some v0 =>
      rw [q0] at rv
      exact h1 v0 q0 _ _ (I.tok _) rv
  · rw [hn] at rv
    cases q0 : valV kvs k with
    | some v0 => rw [q0] at rv; exact (show False from rv).elim
    | none =>
      have hl2 : (putK kvs k d).length ≤ sizeLine := by have := length_putK kvs k d; omega
      obtain ⟨q, es, ep, hq, g2, g3, g4, _, g5⟩ := dd'
      refine h2 q0 _ _ (d_write I (by rw [e]; exact True.intro) hs ⟨q, hq⟩ ⟨hl2, hd, _, (rel.put k eb rd).keeps fun c ys ec => ?_, q, es, ep, hq, g2, g3, g4, g5⟩) rd
      rw [upd_ne (ne_of ec e (fun z => nomatch z))]
      exact ec
theorem pe_dsetdT (hu : X.A.units + 1 < cLine) (ho : PE X o td) (he : PE X e ty) (hf : PE X f tx) (m : M2 X o "setdefault" apos e f cpos) : PE X (.Call (.Attribute o "setdefault" apos) [e, f] [] cpos) (tDSetdT td ty tx) := by
  refine ⟨fun pins s σ H Q I h => ?_⟩
  refine wpAny_Call_method m.base m.few m.line PySem.F.plainAttrs_dict PySem.F.slot_dict_setdefault PySem.F.type_dict_setdefault (thn (ho.run pins s σ H _ I h) fun u s1 ⟨x, H1, I1, rx, a, ex, d, q1⟩ => ?_)
  subst ex
  obtain rfl : u = Value.ref a := rx
  obtain ⟨t1, t2, _⟩ := isD_at I1 d
  refine ⟨t1, t2, ?_⟩
  rw [m.trees]
  refine Calls.callWith_builtin rfl (Calls.evalArgs_plain (Calls.spliced_cons (thn (he.run pins s1 σ H1 _ I1 q1) fun iv s2 ⟨y, H2, I2, ry, q2⟩ =>
    Calls.spliced_cons (thn (hf.run pins s2 σ H2 _ I2 q2) fun fv s3 ⟨z, H3, I3, rz, kvs, k, b, ea, ey, eb, hl, q3, q4⟩ => Calls.spliced_nil ?_))))
  subst ey
  cases (show iv = Value.ref b from ry)
  exact d_setdT hu I3 ea eb rz hl (fun v hv w' s4 I4 rw' => ⟨v, _, I4, rw', q3 v hv⟩) fun hn w' s4 I4 rw' => ⟨z, _, I4, rw', q4 hn⟩
end
end My
/-! sorted(xs) of triples of ints, any length. No row. -/
namespace SrtO
open PySem PySem.Spec PyProof.Rows L2
abbrev I3 := Int × Int × Int
def lex3 (p q : I3) : Bool := if p.1 = q.1 then (if p.2.1 = q.2.1 then decide (p.2.2 < q.2.2) else decide (p.2.1 < q.2.1)) else decide (p.1 < q.1)
theorem lex3_iff {p q : I3} : lex3 p q = true ↔ p.1 < q.1 ∨ (p.1 = q.1 ∧ (p.2.1 < q.2.1 ∨ (p.2.1 = q.2.1 ∧ p.2.2 < q.2.2))) := by
  unfold lex3
  by_cases e : p.1 = q.1
  · rw [if_pos e]
    by_cases e2 : p.2.1 = q.2.1
    · rw [if_pos e2, decide_eq_true_eq]; omega
    · rw [if_neg e2, decide_eq_true_eq]; omega
  · rw [if_neg e, decide_eq_true_eq]; omega
theorem lex3_no {p q : I3} : lex3 p q = false ↔ ¬ (p.1 < q.1 ∨ (p.1 = q.1 ∧ (p.2.1 < q.2.1 ∨ (p.2.1 = q.2.1 ∧ p.2.2 < q.2.2)))) := by
  rw [← lex3_iff]
  cases lex3 p q <;> simp
theorem swo_lex3 {α : Type} (k : α → I3) : Swo fun v u => lex3 (k v) (k u) := by
  refine ⟨fun x y h => ?_, fun x y z h1 h2 => ?_⟩
  · have a := lex3_iff.mp h
    refine lex3_no.mpr ?_
    omega
  · have a := lex3_no.mp h1
    have b := lex3_no.mp h2
    refine lex3_no.mpr ?_
    omega
def IsTrip (h : Heap) (v : Value) (k : I3) : Prop := ∃ a o t u r n, v = .ref a ∧ h.get? a = some o ∧ o.cls = .type "tuple" ∧ o.data = .seq #[.int k.1 t, .int k.2.1 u, .int k.2.2 r] n
theorem IsTrip.keeps {h h' : Heap} {v : Value} {x : I3} (p : IsTrip h v x) (k : ∀ b o, h.get? b = some o → o.cls = .type "tuple" → h'.get? b = some o) : IsTrip h' v x := by
  obtain ⟨a, o, t, u, r, n, e, ho, hc, hd⟩ := p
  exact ⟨a, o, t, u, r, n, e, k _ _ ho hc, hc, hd⟩
theorem firsts3 {h : Heap} : ∀ {vs : List Value}, (∀ v ∈ vs, ∃ x, IsTrip h v x) → ∃ fs : List Value, PySem.W.KatTups h vs fs ∧ fs.length = vs.length ∧ ∀ f ∈ fs, ∃ x t, f = Value.int x t
  | [], _ => ⟨[], PySem.W.KatTups.nil, rfl, fun _ hm => by simp at hm⟩
  | v :: vs, hp => by
    obtain ⟨fs, h1, h2, h3⟩ := firsts3 (vs := vs) fun v' hm => hp v' (List.mem_cons_of_mem _ hm)
    obtain ⟨x, a, o, t, u, r, n, e, ho, hc, hd⟩ := hp v (List.mem_cons_self ..)
    subst e
    refine ⟨.int x.1 t :: fs, PySem.W.KatTups.cons ho hc hd rfl h1, by rw [List.length_cons, List.length_cons, h2], fun f hm => ?_⟩
    rcases List.mem_cons.mp hm with rfl | hm
    · exact ⟨_, t, rfl⟩
    · exact h3 f hm
section
variable {prog : Program} {w : World} {A : Around} {E : Value → Shared → Prop} {s : Shared}
theorem trip_cmp {vs : List Value} {k : Value → I3} (hp : ∀ v ∈ vs, IsTrip s.heap v (k v)) : Cmp prog w A s (tuples' true) (fun p => p.1 ∈ vs) (lt2 fun v u => lex3 (k v) (k u)) := by
  intro p q hm hm'
  have h1 := hp _ hm
  have h2 := hp _ hm'
  show wpAny (model prog w) A (keyLt' (tuples' true) p.1 q.1) (fun r s' => s' = s ∧ r = lex3 (k p.1) (k q.1)) (fun _ _ => False) s
  unfold lex3
  generalize k p.1 = x at h1 ⊢
  generalize k q.1 = x' at h2 ⊢
  obtain ⟨x, y, z⟩ := x
  obtain ⟨x', y', z'⟩ := x'
  dsimp only at *
  obtain ⟨a, o, t, u, r, n, e, ho, hc, hd⟩ := h1
  obtain ⟨a', o', t', u', r', n', e', ho', hc', hd'⟩ := h2
  dsimp only at hd hd'
  rw [e, e']
  refine PySem.W.kat_lt ho hd ho' hd' ?_
  show PySem.W.KatLex prog w A true (decide (3 < 3)) _ [(.int x t, .int x' t'), (.int y u, .int y' u'), (.int z r, .int z' r')] 0 s
  refine PySem.W.kat_cons (SeqAt.EqAt.int_int x t x' t' prog w _ _ ?_)
  refine PySem.W.kat_go (fun e1 => ?_) (fun e1 => ?_)
  · have ex : x = x' := by simpa using e1
    rw [if_pos ex]
    refine PySem.W.kat_yes (PySem.W.kat_cons (SeqAt.EqAt.int_int y u y' u' prog w _ _ ?_))
    refine PySem.W.kat_go (fun e2 => ?_) (fun e2 => ?_)
    · have ey : y = y' := by simpa using e2
      rw [if_pos ey]
      refine PySem.W.kat_yes (PySem.W.kat_cons (SeqAt.EqAt.int_int z r z' r' prog w _ _ ?_))
      refine PySem.W.kat_go (fun e3 => ?_) (fun e3 => ?_)
      · have ez : z = z' := by simpa using e3
        exact PySem.W.kat_yes (PySem.W.kat_nil ⟨rfl, (by rw [ez]; exact (decide_eq_false (Int.lt_irrefl _)).symm)⟩)
      · refine PySem.W.kat_no (PySem.W.kat_one _ _ (PyProof.Rows.lt_int ?_))
        exact ⟨rfl, rfl⟩
    · have ey : ¬ y = y' := by simpa using e2
      rw [if_neg ey]
      refine PySem.W.kat_no (PySem.W.kat_one _ _ (PyProof.Rows.lt_int ?_))
      exact ⟨rfl, rfl⟩
  · have ex : ¬ x = x' := by simpa using e1
    rw [if_neg ex]
    exact PySem.W.kat_no (oneLt_int ⟨rfl, rfl⟩)
theorem trips_sortable {a : Addr} {vs : List Value} {k : Value → I3} (h0 : 0 < vs.length) (hp : ∀ v ∈ vs, IsTrip s.heap v (k v)) (ha : ∀ o, s.heap.get? a = some o → o.cls ≠ .type "tuple") : SortableO prog w A s a vs fun v u => lex3 (k v) (k u) := by
  intro h' keep
  have hp' : ∀ v ∈ vs, IsTrip h' v (k v) := fun v hm => (hp v hm).keeps fun b o e c => keep b o (fun z => by subst z; exact ha o e c) e
  obtain ⟨fs, h1, h2, h3⟩ := firsts3 fun v hm => ⟨_, hp' v hm⟩
  refine ⟨tuples' true, fun Q E hq => ?_, trip_cmp hp'⟩
  refine PySem.W.kat_kind (T := .type "int") h1 (by omega) (fun f hm => ?_) (by rfl) ?_
  · obtain ⟨x, t, rfl⟩ := h3 f hm
    exact PySem.W.Looks.now
  · have e : (Value.type "int" != Value.type "tuple") = true := by first | decide +kernel | rfl | decide
    rw [e]
    exact hq
theorem sorted_trips {l : Addr} {vs : List Value} {k : Value → I3} {Q : Value → Shared → Prop} (hl : s.heap.IsList l vs.toArray) (hz : vs.length ≤ sizeLine) (hp : ∀ v ∈ vs, IsTrip s.heap v (k v))
    (h : ∀ (h' : Heap) (d : Addr) (out : List Value), Srtd (fun v u => lex3 (k v) (k u)) out → Stb (fun v u => lex3 (k v) (k u)) out vs → (∀ b o, s.heap.get? b = some o → h'.get? b = some o) → s.heap.objs.size ≤ d → (∃ n, h'.get? d = some (seqObj "list" out.toArray n)) → Q (.ref d) { s with heap := h' }) :
    wpAny (model prog w) A (call (.builtin "sorted") [.ref l]) Q E s := by
  refine sorted_ord (swo_lex3 k) hl hz (fun h2 h₁ a ha kk => ?_) fun out hs hb => ?_
  · refine trips_sortable (s := { s with heap := h₁ }) (by omega) (fun v hm => (hp v hm).keeps fun b o e _ => (kk b o e).2) fun o e => ?_
    have e' : some o = some (seqObj "list" vs.toArray 0) := e.symm.trans ha
    cases e'
    intro c
    exact absurd (Value.type.inj c) (by decide)
  · exact h _ _ out hs hb (fun b o e => sortedAll_old e) (Nat.le_succ _) (sortedAll_at s.heap vs out.toArray)
end
end SrtO
namespace L2
open PySem PySem.Spec PyProof.Rows
abbrev ltT (k : V → SrtO.I3) (x y : V) : Bool := SrtO.lex3 (k x) (k y)
def rSortedT3 (K : PySem.W.Frag) : List V → Hp → VK → Prop := fun vs H Q => ∃ (a : Addr) (xs : List V) (k : V → SrtO.I3), vs = [V.ref a] ∧ SqL K H a xs ∧ (∀ x ∈ xs, ∃ t, x = V.ref t ∧ H t = some (.tup [.int (k x).1, .int (k x).2.1, .int (k x).2.2])) ∧
  ∀ ys p, SrtO.Srtd (ltT k) ys → ys.Perm xs → H p = none → Q (.ref p) (upd H p (.lst ys))
section
variable {X : Cx}
theorem cr_sortedT3 : CallR X (.builtin "sorted") (rSortedT3 X.K) := by
  intro pins s σ H vs us Q I r h
  obtain ⟨a, xs, k, rfl, hs, hx, q⟩ := h
  obtain ⟨its, rv, hl, hz⟩ := I.list hs
  obtain ⟨u, rfl, ru⟩ := vals1 r
  obtain rfl : u = Value.ref a := ru
  obtain ⟨e1, e2⟩ := refs_back rv fun x m => by
    obtain ⟨t, e, _⟩ := hx x m
    exact ⟨t, e⟩
  refine SrtO.sorted_trips (k := fun u => k (backV u)) hl.isList (by rw [← rv.length]; exact hz) (fun v hv => ?_) fun h' d out h1 h2 kp hd hn => ?_
  · obtain ⟨t, rfl⟩ := e2 v hv
    have hm : V.ref t ∈ xs := by rw [e1]; exact List.mem_map.mpr ⟨_, hv, rfl⟩
    obtain ⟨t', e, ht⟩ := hx _ hm
    cases e
    obtain ⟨_, its2, r2, o, ho, hc, n, hd⟩ := I.hok _ _ ht
    obtain ⟨u1, u2, u3, rfl, ri, rj, rk⟩ : ∃ u1 u2 u3, its2 = [u1, u2, u3] ∧ RelV (.int (k (.ref t)).1) u1 ∧ RelV (.int (k (.ref t)).2.1) u2 ∧ RelV (.int (k (.ref t)).2.2) u3 := by
      cases r2 with
      | cons a1 r2 => cases r2 with
        | cons a2 r2 => cases r2 with
          | cons a3 r2 => cases r2 with
            | nil => exact ⟨_, _, _, rfl, a1, a2, a3⟩
    obtain ⟨t1, rfl⟩ := ri
    obtain ⟨t2, rfl⟩ := rj
    obtain ⟨t3, rfl⟩ := rk
    exact ⟨t, o, t1, t2, t3, n, rfl, ho, hc, hd⟩
  · have h3 : ∀ u ∈ out, ∃ a, u = Value.ref a := fun u hu => e2 u (h2.perm.mem_iff.mp hu)
    obtain ⟨n, hn⟩ := hn
    have hb : (out.map backV).Perm xs := by
      rw [e1]
      exact h2.perm.map backV
    refine ⟨.ref d, upd H d (.lst (out.map backV)), I.laid (t' := s.toks) kp hd ⟨?_, out, n, vals_back h3, hn⟩, rfl, q _ d (SrtO.srtd_map h1) hb (I.hok.fresh hd)⟩
    rw [hb.length_eq]
    exact hz
end
end L2
/-! Nets as data, how the heap bears them. No row. -/
namespace My
open PySem PySem.Spec PyProof.Rows L2
/-- a net as data: host or not, the lines, processing, clock bound -/
structure NetD where
  ks : List Bool
  ls : List (Nat × Nat × Int)
  pr : Int
  er : Int
def kindV (b : Bool) : V := .str (if b then "host" else "switch")
def lineV (l : Nat × Nat × Int) : List V := [.int (l.1 : Int), .int (l.2.1 : Int), .int l.2.2]
def key2 (a b : Nat) : List Key := [Sum.inl (a : Int), Sum.inl (b : Int)]
def put2 (acc : List (List Key × V)) (l : Nat × Nat × Int) : List (List Key × V) := putK (putK acc (key2 l.1 l.2.1) (.int l.2.2)) (key2 l.2.1 l.1) (.int l.2.2)
def delaysOf (ls : List (Nat × Nat × Int)) : List (List Key × V) := ls.foldl put2 []
theorem put2_len (acc : List (List Key × V)) (l : Nat × Nat × Int) : (put2 acc l).length ≤ acc.length + 2 := by
  have h1 := length_putK (putK acc (key2 l.1 l.2.1) (.int l.2.2)) (key2 l.2.1 l.1) (.int l.2.2)
  have h2 := length_putK acc (key2 l.1 l.2.1) (.int l.2.2)
  unfold put2
  omega
theorem foldl_len : ∀ (ls : List (Nat × Nat × Int)) (acc : List (List Key × V)), (ls.foldl put2 acc).length ≤ acc.length + 2 * ls.length
  | [], acc => by simp
  | l :: r, acc => by
    have := foldl_len r (put2 acc l)
    have := put2_len acc l
    rw [List.foldl_cons, List.length_cons]
    omega
theorem delays_len (ls : List (Nat × Nat × Int)) : (delaysOf ls).length ≤ 2 * ls.length := by
  have := foldl_len ls []
  rw [List.length_nil] at this
  unfold delaysOf
  omega
theorem delays_snoc (ls : List (Nat × Nat × Int)) (l : Nat × Nat × Int) : delaysOf (ls ++ [l]) = put2 (delaysOf ls) l := by
  unfold delaysOf
  rw [List.foldl_append]
  rfl
theorem take_snoc {α : Type} {xs : List α} {i : Nat} {x : α} (h : xs[i]? = some x) : xs.take (i + 1) = xs.take i ++ [x] := by
  rw [List.take_add_one, h]
  rfl
theorem key2_inj {a b c d : Nat} (e : key2 a b = key2 c d) : a = c ∧ b = d := by
  unfold key2 at e
  injection e with e1 e2
  injection e2 with e2 _
  injection e1 with e1
  injection e2 with e2
  exact ⟨by omega, by omega⟩
/-- the line joins both nodes -/
def hits (a b : Nat) (l : Nat × Nat × Int) : Bool := (decide (l.1 = a) && decide (l.2.1 = b)) || (decide (l.1 = b) && decide (l.2.1 = a))
theorem valV_put2 (acc : List (List Key × V)) (l : Nat × Nat × Int) (a b : Nat) : valV (put2 acc l) (key2 a b) = if hits a b l = true then some (.int l.2.2) else valV acc (key2 a b) := by
  unfold put2 hits
  rw [valV_put, valV_put]
  by_cases h1 : key2 a b = key2 l.2.1 l.1
  · obtain ⟨e1, e2⟩ := key2_inj h1
    rw [if_pos h1, if_pos]
    simp [e1, e2]
  · rw [if_neg h1]
    by_cases h2 : key2 a b = key2 l.1 l.2.1
    · obtain ⟨e1, e2⟩ := key2_inj h2
      rw [if_pos h2, if_pos]
      simp [e1, e2]
    · rw [if_neg h2, if_neg]
      intro h
      rw [Bool.or_eq_true, Bool.and_eq_true, Bool.and_eq_true, decide_eq_true_eq, decide_eq_true_eq, decide_eq_true_eq, decide_eq_true_eq] at h
      rcases h with ⟨e1, e2⟩ | ⟨e1, e2⟩
      · exact h2 (by rw [e1, e2])
      · exact h1 (by rw [e1, e2])
theorem valV_fold (a b : Nat) : ∀ (ls : List (Nat × Nat × Int)) (acc : List (List Key × V)), (valV (ls.foldl put2 acc) (key2 a b)).isSome = (ls.any (hits a b) || (valV acc (key2 a b)).isSome)
  | [], acc => by simp
  | l :: r, acc => by
    rw [List.foldl_cons, valV_fold a b r, valV_put2, List.any_cons]
    cases hits a b l with
    | true => simp
    | false => simp
def adj (N : NetD) (a b : Nat) : Bool := N.ls.any (hits a b)
theorem adj_val (N : NetD) (a b : Nat) : (valV (delaysOf N.ls) (key2 a b)).isSome = adj N a b := by
  unfold delaysOf adj
  rw [valV_fold]
  simp [valV_nil]
/-- the first line that joins both -/
def joined (N : NetD) (a b : Nat) : Option Int := (N.ls.find? (hits a b)).map (·.2.2)
theorem joined_some (N : NetD) (a b : Nat) : (joined N a b).isSome = adj N a b := by
  unfold joined adj
  rw [Option.isSome_map, Bool.eq_iff_iff, List.find?_isSome, List.any_eq_true]

def nbs (N : NetD) (a : Nat) : List Nat := (List.range N.ks.length).filter (adj N a)
def natsV (ns : List Nat) : List V := ns.map fun (n : Nat) => V.int (n : Int)
/-- host or not -/
def host (N : NetD) (a : Nat) : Bool := N.ks.getD a true
def lastN (r : List Nat) : Nat := r.getD (r.length - 1) 0
def okb (N : NetD) (r : List Nat) (b : Nat) : Bool := !(r.contains b) && adj N (lastN r) b
def exH (N : NetD) (r : List Nat) : List (List Nat) := ((List.range N.ks.length).filter fun b => okb N r b && host N b).map fun b => r ++ [b]
def exS (N : NetD) (r : List Nat) : List (List Nat) := ((List.range N.ks.length).filter fun b => okb N r b && !host N b).map fun b => r ++ [b]
def rowsOf (N : NetD) : Nat → List (List Nat)
  | 0 => ((List.range N.ks.length).filter (host N)).map fun a => [a]
  | t + 1 => (rowsOf N t).flatMap (exS N)
def foundOf (N : NetD) : Nat → List (List Nat)
  | 0 => []
  | t + 1 => foundOf N t ++ (rowsOf N t).flatMap (exH N)
theorem natsV_at {ns : List Nat} {i n : Nat} (h : ns[i]? = some n) : (natsV ns)[i]? = some (.int (n : Int)) := by
  unfold natsV
  rw [List.getElem?_map, h]
  rfl
theorem natsV_len (ns : List Nat) : (natsV ns).length = ns.length := List.length_map ..
theorem natsV_flat (ns : List Nat) : (natsV ns).all flatV = true := by
  rw [List.all_eq_true]
  intro x hx
  obtain ⟨n, _, rfl⟩ := List.mem_map.mp hx
  rfl
theorem natsV_in (ns : List Nat) (b : Nat) : inV (.int (b : Int)) (natsV ns) = ns.contains b := by
  unfold inV natsV
  rw [List.any_map, List.contains_eq_any_beq]
  congr 1
  funext x
  show ((x : Int) == (b : Int)) = (b == x)
  rw [Bool.eq_iff_iff, beq_iff_eq, beq_iff_eq]
  omega
theorem natsV_app (r : List Nat) (b : Nat) : natsV r ++ [V.int (b : Int)] = natsV (r ++ [b]) := by
  unfold natsV
  rw [List.map_append]
  rfl
theorem len_flat {α β : Type} (f : α → List β) (m : Nat) (h : ∀ a, (f a).length ≤ m) : ∀ l : List α, (l.flatMap f).length ≤ m * l.length
  | [] => by simp
  | a :: r => by
    have := len_flat f m h r
    have := h a
    rw [List.flatMap_cons, List.length_append, List.length_cons, Nat.mul_add]
    omega
theorem exH_len (N : NetD) (r : List Nat) : (exH N r).length ≤ N.ks.length := by
  have := List.length_filter_le (fun b => okb N r b && host N b) (List.range N.ks.length)
  unfold exH
  rw [List.length_map]
  rw [List.length_range] at this
  exact this
theorem exS_len (N : NetD) (r : List Nat) : (exS N r).length ≤ N.ks.length := by
  have := List.length_filter_le (fun b => okb N r b && !host N b) (List.range N.ks.length)
  unfold exS
  rw [List.length_map]
  rw [List.length_range] at this
  exact this
theorem rows_len (N : NetD) (h : N.ks.length ≤ 7) : ∀ t, (rowsOf N t).length ≤ 8 ^ (t + 1)
  | 0 => by
    have := List.length_filter_le (host N) (List.range N.ks.length)
    rw [List.length_range] at this
    show (((List.range N.ks.length).filter (host N)).map fun a => [a]).length ≤ 8 ^ 1
    rw [List.length_map]
    omega
  | t + 1 => by
    have h1 := rows_len N h t
    have h2 := len_flat (exS N) 7 (fun a => Nat.le_trans (exS_len N a) h) (rowsOf N t)
    show ((rowsOf N t).flatMap (exS N)).length ≤ _
    rw [Nat.pow_succ]
    omega
theorem found_len (N : NetD) (h : N.ks.length ≤ 7) : ∀ t, (foundOf N t).length ≤ 8 ^ (t + 1)
  | 0 => by simp [foundOf]
  | t + 1 => by
    have h1 := found_len N h t
    have h0 := rows_len N h t
    have h2 := len_flat (exH N) 7 (fun a => Nat.le_trans (exH_len N a) h) (rowsOf N t)
    show (foundOf N t ++ (rowsOf N t).flatMap (exH N)).length ≤ _
    rw [List.length_append, Nat.pow_succ]
    omega
theorem ex_ne (N : NetD) (r x : List Nat) (h : x ∈ exH N r ∨ x ∈ exS N r) : x ≠ [] := by
  rcases h with h | h
  · obtain ⟨b, _, rfl⟩ := List.mem_map.mp h
    simp
  · obtain ⟨b, _, rfl⟩ := List.mem_map.mp h
    simp
theorem rows_row (N : NetD) : ∀ t, ∀ r ∈ rowsOf N t, r.length = t + 1
  | 0, r, h => by
    obtain ⟨a, _, rfl⟩ := List.mem_map.mp h
    rfl
  | t + 1, r, h => by
    obtain ⟨r', h1, h2⟩ := List.mem_flatMap.mp h
    obtain ⟨b, _, rfl⟩ := List.mem_map.mp h2
    rw [List.length_append, rows_row N t r' h1]
    rfl
theorem flat_take {α β : Type} (f : α → List β) {l : List α} {i : Nat} {a : α} (h : l[i]? = some a) : (l.take (i + 1)).flatMap f = (l.take i).flatMap f ++ f a := by
  rw [take_snoc h, List.flatMap_append, List.flatMap_cons, List.flatMap_nil, List.append_nil]
theorem filt_succ {α : Type} (p : Nat → Bool) (f : Nat → α) (j : Nat) : ((List.range (j + 1)).filter p).map f = ((List.range j).filter p).map f ++ (if p j = true then [f j] else []) := by
  rw [List.range_succ, List.filter_append, List.map_append, List.filter_cons]
  split <;> rfl
def optV : Option Int → V
  | none => .non
  | some d => .int d
theorem optV_non (o : Option Int) : (!decide (optV o = .non)) = o.isSome := by
  cases o with
  | none => rfl
  | some d => rfl
theorem dec_nat (a b : Nat) : decide (V.int (a : Int) = V.int (b : Int)) = decide (a = b) := by
  by_cases h : a = b
  · rw [h]; simp
  · rw [decide_eq_false h, decide_eq_false]
    intro z
    injection z with z
    omega
theorem find_take {α : Type} (p : α → Bool) {l : List α} {i : Nat} {a : α} (h : l[i]? = some a) (h0 : (l.take i).find? p = none) (hp : p a = true) : l.find? p = some a := by
  have e : l = l.take i ++ a :: l.drop (i + 1) := by
    obtain ⟨hi, e⟩ := List.getElem?_eq_some_iff.mp h
    rw [← e, List.getElem_cons_drop, List.take_append_drop]
  rw [e, List.find?_append, h0, List.find?_cons, hp]
  rfl
theorem find_skip {α : Type} (p : α → Bool) {l : List α} {i : Nat} {a : α} (h : l[i]? = some a) (h0 : (l.take i).find? p = none) (hp : ¬ p a = true) : (l.take (i + 1)).find? p = none := by
  rw [take_snoc h, List.find?_append, h0, List.find?_cons, Bool.eq_false_iff.mpr hp]
  rfl
/-! ### the instance's attributes -/
def netF (lk ll : Addr) (pr er : Int) (ld : Addr) : List (Str × V) := [("kinds", .ref lk), ("lines", .ref ll), ("processing", .int pr), ("error", .int er), ("_delays", .ref ld)]
theorem putF_new {f : Str} {v : V} : ∀ {fs : List (Str × V)}, fs.lookup f = none → putF f v fs = fs ++ [(f, v)]
  | [], _ => rfl
  | (g, x) :: r, h => by
    have e : (f == g) = false := by
      cases q : f == g with
      | false => rfl
      | true => rw [List.lookup_cons, q] at h; cases h
    rw [List.lookup_cons, e] at h
    have ne : ¬ g = f := fun z => by rw [z] at e; simp at e
    show (if g = f then (g, v) :: r else (g, x) :: putF f v r) = _
    rw [if_neg ne, putF_new h]
    rfl
theorem f1 {lk : Addr} : putF "kinds" (.ref lk) [] = [(("kinds" : Str), V.ref lk)] := rfl
theorem f2 {lk ll : Addr} : putF "lines" (.ref ll) [(("kinds" : Str), V.ref lk)] = [(("kinds" : Str), V.ref lk), ("lines", V.ref ll)] := putF_new rfl
theorem f3 {lk ll : Addr} {pr : Int} : putF "processing" (.int pr) [(("kinds" : Str), V.ref lk), ("lines", V.ref ll)] = [(("kinds" : Str), V.ref lk), ("lines", V.ref ll), ("processing", .int pr)] := putF_new rfl
theorem f4 {lk ll : Addr} {pr er : Int} : putF "error" (.int er) [(("kinds" : Str), V.ref lk), ("lines", V.ref ll), ("processing", .int pr)] = [(("kinds" : Str), V.ref lk), ("lines", V.ref ll), ("processing", .int pr), ("error", .int er)] := putF_new rfl
theorem f5 {lk ll ld : Addr} {pr er : Int} : putF "_delays" (.ref ld) [(("kinds" : Str), V.ref lk), ("lines", V.ref ll), ("processing", .int pr), ("error", .int er)] = netF lk ll pr er ld := putF_new rfl
section
variable {lk ll ld : Addr} {pr er : Int}
theorem g1 : (netF lk ll pr er ld).lookup ("kinds" : Str) = some (.ref lk) := rfl
theorem g2 : (netF lk ll pr er ld).lookup ("lines" : Str) = some (.ref ll) := rfl
theorem g3 : (netF lk ll pr er ld).lookup ("processing" : Str) = some (.int pr) := rfl
theorem g4 : (netF lk ll pr er ld).lookup ("error" : Str) = some (.int er) := rfl
theorem g5 : (netF lk ll pr er ld).lookup ("_delays" : Str) = some (.ref ld) := rfl
theorem g6 : (netF lk ll pr er ld).lookup ("neighbours" : Str) = none := rfl
theorem g7 : (netF lk ll pr er ld).lookup ("delay" : Str) = none := rfl
end
/-- tuples of lines -/
abbrev LinesAt (K : PySem.W.Frag) (H : Hp) (ts : List Addr) (ls : List (Nat × Nat × Int)) : Prop := Paired (fun (t : Addr) (l : Nat × Nat × Int) => SqT K H t (lineV l)) ts ls
theorem same_tup {K : PySem.W.Frag} {H H' : Hp} {a : Addr} {xs : List V} (e : Same H H') (h : SqT K H a xs) : SqT K H' a xs := by
  rcases h with (h | ⟨o, h⟩) | h
  · exact .inl (.inl (e _ _ h))
  · exact .inl (.inr ⟨o, e _ _ h⟩)
  · exact .inr h
theorem Paired.imp {α β : Type} {F G : α → β → Prop} : ∀ {l1 : List α} {l2 : List β}, Paired F l1 l2 → (∀ a b, F a b → G a b) → Paired G l1 l2
  | _, _, .nil, _ => .nil
  | _, _, .cons r t, f => .cons (f _ _ r) (Paired.imp t f)
theorem Paired.at {α β : Type} {F : α → β → Prop} : ∀ {xs : List α} {ys : List β}, Paired F xs ys → ∀ {i : Nat} {x : α}, xs[i]? = some x → ∃ y, ys[i]? = some y ∧ F x y
  | _, _, .nil, i, x, h => by cases h
  | _, _, .cons r t, 0, x, h => by
    have e := Option.some.inj h
    subst e
    exact ⟨_, rfl, r⟩
  | _, _, .cons r t, i + 1, x, h => Paired.at t h
theorem Paired.snoc {α β : Type} {F : α → β → Prop} {x : α} {y : β} (r : F x y) : ∀ {xs : List α} {ys : List β}, Paired F xs ys → Paired F (xs ++ [x]) (ys ++ [y])
  | _, _, .nil => .cons r .nil
  | _, _, .cons h t => .cons h (Paired.snoc r t)
theorem LinesAt.same {K : PySem.W.Frag} {H H' : Hp} {ts : List Addr} {ls : List (Nat × Nat × Int)} (h : LinesAt K H ts ls) (e : Same H H') : LinesAt K H' ts ls := Paired.imp h fun _ _ q => same_tup e q
/-- a Net stands at p -/
def NetAt (K : PySem.W.Frag) (C : Addr) (H : Hp) (p : Addr) (N : NetD) : Prop := ∃ (dx lk ll ld : Addr) (ts : List Addr), H p = some (.ins C dx (netF lk ll N.pr N.er ld)) ∧ H lk = some (.lst (N.ks.map kindV)) ∧ H ll = some (.lst (ts.map V.ref)) ∧
  LinesAt K H ts N.ls ∧ H ld = some (.dT (delaysOf N.ls))
theorem NetAt.same {K : PySem.W.Frag} {C : Addr} {H H' : Hp} {p : Addr} {N : NetD} (h : NetAt K C H p N) (e : Same H H') : NetAt K C H' p N := by
  obtain ⟨dx, lk, ll, ld, ts, h1, h2, h3, h4, h5⟩ := h
  exact ⟨dx, lk, ll, ld, ts, e _ _ h1, e _ _ h2, e _ _ h3, h4.same e, e _ _ h5⟩
/-- all but p is kept -/
def But (p : Addr) (H H' : Hp) : Prop := ∀ b o, H b = some o → b ≠ p → H' b = some o
theorem But.trans {p : Addr} {H H1 H2 : Hp} (a : But p H H1) (b : But p H1 H2) : But p H H2 := fun c o h n => b c o (a c o h n) n
theorem But.seq {K : PySem.W.Frag} {p C dx a : Addr} {fs : List (Str × V)} {H H' : Hp} {xs : List V} (h : But p H H') (hp : H p = some (.ins C dx fs)) (q : SqL K H a xs) : SqL K H' a xs := by
  rcases q with (q | ⟨o, q⟩) | q
  · exact .inl (.inl (h _ _ q (ne_of q hp (by intro z; cases z))))
  · exact .inl (.inr ⟨o, h _ _ q (ne_of q hp (by intro z; cases z))⟩)
  · exact .inr q
theorem But.tup {K : PySem.W.Frag} {p C dx a : Addr} {fs : List (Str × V)} {H H' : Hp} {xs : List V} (h : But p H H') (hp : H p = some (.ins C dx fs)) (q : SqT K H a xs) : SqT K H' a xs := by
  rcases q with (q | ⟨o, q⟩) | q
  · exact .inl (.inl (h _ _ q (ne_of q hp (by intro z; cases z))))
  · exact .inl (.inr ⟨o, h _ _ q (ne_of q hp (by intro z; cases z))⟩)
  · exact .inr q
theorem but_new {p l : Addr} {o u : HO} {H : Hp} (nl : H l = none) : But p H (upd (upd H l o) p u) := fun b x e n => by
  rw [upd_ne n, upd_ne (ne_of_none e nl)]; exact e
theorem but_self {p : Addr} {u : HO} {H : Hp} : But p H (upd H p u) := fun b x e n => by
  rw [upd_ne n]; exact e
theorem but_app {p t : Addr} {o u : HO} {H : Hp} (nt : H t = none) : But p H (upd (upd H t o) p u) := but_new nt
theorem But.refl (p : Addr) (H : Hp) : But p H H := fun _ _ e _ => e
theorem But.tupL {K : PySem.W.Frag} {p a : Addr} {ys : List V} {H H' : Hp} {xs : List V} (h : But p H H') (hp : H p = some (.lst ys)) (q : SqT K H a xs) : SqT K H' a xs := by
  rcases q with (q | ⟨o, q⟩) | q
  · exact .inl (.inl (h _ _ q (ne_of q hp (by intro z; cases z))))
  · exact .inl (.inr ⟨o, h _ _ q (ne_of q hp (by intro z; cases z))⟩)
  · exact .inr q
theorem same_but {p : Addr} {H H1 H2 : Hp} (e : Same H H1) (n : H p = none) (h : But p H1 H2) : Same H H2 := fun b o q => h _ _ (e _ _ q) (ne_of_none q n)
theorem kind_sw {b : Bool} (h : kindV b = V.str "switch") : b = false := by
  cases b with
  | false => rfl
  | true => exact absurd h (by decide +kernel)
theorem kind_ho {b : Bool} (h : kindV b = V.str "host") : b = true := by
  cases b with
  | true => rfl
  | false => exact absurd h (by decide +kernel)
theorem kind_inj {a b : Bool} (h : kindV a = kindV b) : a = b := by
  cases a with
  | true => exact (kind_ho h.symm).symm
  | false => exact (kind_sw h.symm).symm
theorem atI_kind {ks : List Bool} {z : Int} {j : Nat} (e : z = (j : Int)) (h : j < ks.length) : atI (ks.map kindV) z = some (kindV (ks.getD j true)) := by
  rw [e]
  refine atI_nat ?_
  rw [List.getElem?_map, getD_at true h]
  rfl
/-- a line's nodes, the greater one first -/
def norm (l : Nat × Nat × Int) : Nat × Nat := if l.2.1 < l.1 then (l.1, l.2.1) else (l.2.1, l.1)
theorem norm_gt {a b : Nat} {d : Int} (h : b < a) : norm (a, b, d) = (a, b) := if_pos h
theorem norm_lt {a b : Nat} {d : Int} (h : b < a) : norm (b, a, d) = (a, b) := if_neg (by show ¬ a < b; omega)
structure LsOk (n : Nat) (ls : List (Nat × Nat × Int)) : Prop where
  nd : (ls.map norm).Nodup
  bd : ∀ l ∈ ls, (norm l).2 < (norm l).1 ∧ (norm l).1 < n
  dl : ∀ l ∈ ls, 0 ≤ l.2.2 ∧ l.2.2 ≤ 4
  few : ls.length ≤ 100
structure NetWf (N : NetD) : Prop where
  h0 : 2 ≤ N.ks.count true
  h1 : N.ks.count true ≤ 4
  s0 : 1 ≤ N.ks.count false
  s1 : N.ks.count false ≤ 3
  ls : LsOk N.ks.length N.ls
  p0 : 0 ≤ N.pr
  p1 : N.pr ≤ 2
  e0 : 0 ≤ N.er
  e1 : N.er ≤ 2
theorem len_count : ∀ ks : List Bool, ks.length = ks.count true + ks.count false
  | [] => rfl
  | b :: r => by
    have := len_count r
    rw [List.length_cons, List.count_cons, List.count_cons]
    cases b <;> simp <;> omega
theorem count_ins (ks : List Bool) (i : Nat) (b x : Bool) : (ks.take i ++ [b] ++ ks.drop i).count x = ks.count x + [b].count x := by
  have h : ks.count x = (ks.take i).count x + (ks.drop i).count x := by rw [← List.count_append, List.take_append_drop]
  rw [List.count_append, List.count_append, h]
  omega
theorem rep_flat {α : Type} (x : α) : ∀ n : Nat, (List.replicate n [x]).flatten = List.replicate n x
  | 0 => rfl
  | n + 1 => by rw [List.replicate_succ, List.flatten_cons, rep_flat x n]; rfl
/-- pairs of nodes as tuples -/
abbrev PairsAt (K : PySem.W.Frag) (H : Hp) (ts : List Addr) (ps : List (Nat × Nat)) : Prop := Paired (fun (t : Addr) (p : Nat × Nat) => SqT K H t [.int (p.1 : Int), .int (p.2 : Int)]) ts ps
theorem PairsAt.mono {K : PySem.W.Frag} {H H' : Hp} {ts : List Addr} {ps : List (Nat × Nat)} (h : PairsAt K H ts ps) (f : ∀ a ys, SqT K H a ys → SqT K H' a ys) : PairsAt K H' ts ps := Paired.imp h fun _ _ z => f _ _ z
theorem LinesAt.mono {K : PySem.W.Frag} {H H' : Hp} {ts : List Addr} {ps : List (Nat × Nat × Int)} (h : LinesAt K H ts ps) (f : ∀ a ys, SqT K H a ys → SqT K H' a ys) : LinesAt K H' ts ps := Paired.imp h fun _ _ z => f _ _ z
theorem PairsAt.snoc {K : PySem.W.Frag} {H : Hp} {ts : List Addr} {ps : List (Nat × Nat)} {t : Addr} {p : Nat × Nat} (h : PairsAt K H ts ps) (x : SqT K H t [.int (p.1 : Int), .int (p.2 : Int)]) : PairsAt K H (ts ++ [t]) (ps ++ [p]) := Paired.snoc (F := fun (t : Addr) (p : Nat × Nat) => SqT K H t [.int (p.1 : Int), .int (p.2 : Int)]) x h
theorem LinesAt.snoc {K : PySem.W.Frag} {H : Hp} {ts : List Addr} {ps : List (Nat × Nat × Int)} {t : Addr} {p : Nat × Nat × Int} (h : LinesAt K H ts ps) (x : SqT K H t (lineV p)) : LinesAt K H (ts ++ [t]) (ps ++ [p]) := Paired.snoc (F := fun (t : Addr) (l : Nat × Nat × Int) => SqT K H t (lineV l)) x h
structure PInv (ks : List Bool) (ps : List (Nat × Nat)) (a b : Nat) : Prop where
  nd : ps.Nodup
  ok : ∀ p ∈ ps, p.2 < p.1 ∧ p.1 < ks.length ∧ (p.1 < a ∨ (p.1 = a ∧ p.2 < b)) ∧ (ks.getD p.1 true = false ∨ ks.getD p.2 true = false)
  few : ps.length ≤ 7 * a + b
theorem nd_snoc' {α : Type} : ∀ {l : List α} {k : α}, l.Nodup → ¬ k ∈ l → (l ++ [k]).Nodup
  | [], k, _, _ => by simp
  | a :: r, k, h, hk => by
    obtain ⟨h1, h2⟩ := List.nodup_cons.mp h
    show (a :: (r ++ [k])).Nodup
    refine List.nodup_cons.mpr ⟨fun m => ?_, nd_snoc' h2 fun m => hk (List.mem_cons.mpr (Or.inr m))⟩
    rcases List.mem_append.mp m with q | q
    · exact h1 q
    · exact hk (List.mem_cons.mpr (Or.inl (List.mem_singleton.mp q).symm))
theorem PInv.nil {ks : List Bool} : PInv ks [] 0 0 := ⟨List.nodup_nil, fun p h => by (cases h), Nat.le_refl _⟩
theorem PInv.skip {ks : List Bool} {ps : List (Nat × Nat)} {a b : Nat} (h : PInv ks ps a b) : PInv ks ps a (b + 1) :=
  ⟨h.nd, fun p hp => let ⟨x, y, z, w⟩ := h.ok p hp; ⟨x, y, by omega, w⟩, by have := h.few; omega⟩
theorem PInv.next {ks : List Bool} {ps : List (Nat × Nat)} {a b : Nat} (h : PInv ks ps a b) (hb : b ≤ 7) : PInv ks ps (a + 1) 0 :=
  ⟨h.nd, fun p hp => let ⟨x, y, z, w⟩ := h.ok p hp; ⟨x, y, by omega, w⟩, by have := h.few; omega⟩
theorem PInv.snoc {ks : List Bool} {ps : List (Nat × Nat)} {a b : Nat} (h : PInv ks ps a b) (ha : a < ks.length) (hb : b < a) (hs : ks.getD a true = false ∨ ks.getD b true = false) : PInv ks (ps ++ [(a, b)]) a (b + 1) := by
  refine ⟨nd_snoc' h.nd fun m => ?_, fun p hp => ?_, by have := h.few; rw [List.length_append, List.length_singleton]; omega⟩
  · obtain ⟨_, _, z, _⟩ := h.ok _ m
    have z' : a < a ∨ (a = a ∧ b < b) := z
    omega
  · rcases List.mem_append.mp hp with q | q
    · obtain ⟨x, y, z, w⟩ := h.ok p q
      exact ⟨x, y, by omega, w⟩
    · rw [List.mem_singleton.mp q]
      exact ⟨hb, ha, .inr ⟨rfl, by show b < b + 1; omega⟩, hs⟩
/-- lines made from the first k pairs -/
structure LInv (ps : List (Nat × Nat)) (ls : List (Nat × Nat × Int)) (k : Nat) : Prop where
  nd : (ls.map norm).Nodup
  from_ : ∀ l ∈ ls, ∃ j, j < k ∧ ps[j]? = some (norm l)
  dl : ∀ l ∈ ls, 0 ≤ l.2.2 ∧ l.2.2 ≤ 4
  few : ls.length ≤ k
theorem LInv.nil {ps : List (Nat × Nat)} : LInv ps [] 0 := ⟨List.nodup_nil, fun p h => by (cases h), fun p h => by (cases h), Nat.le_refl _⟩
theorem LInv.skip {ps : List (Nat × Nat)} {ls : List (Nat × Nat × Int)} {k : Nat} (h : LInv ps ls k) : LInv ps ls (k + 1) :=
  ⟨h.nd, fun l hl => let ⟨j, x, y⟩ := h.from_ l hl; ⟨j, by omega, y⟩, h.dl, by have := h.few; omega⟩
theorem LInv.snoc {ps : List (Nat × Nat)} {ls : List (Nat × Nat × Int)} {k : Nat} {l : Nat × Nat × Int} (h : LInv ps ls k) (hp : ps.Nodup) (e : ps[k]? = some (norm l)) (d : 0 ≤ l.2.2 ∧ l.2.2 ≤ 4) : LInv ps (ls ++ [l]) (k + 1) := by
  refine ⟨?_, fun x hx => ?_, fun x hx => ?_, by have := h.few; rw [List.length_append, List.length_singleton]; omega⟩
  · rw [List.map_append]
    refine nd_snoc' h.nd fun m => ?_
    obtain ⟨x, hx, ex⟩ := List.mem_map.mp m
    obtain ⟨j, hj, ej⟩ := h.from_ x hx
    rw [ex] at ej
    have := nd_ix hp ej e
    omega
  · rcases List.mem_append.mp hx with q | q
    · obtain ⟨j, x1, y⟩ := h.from_ x q
      exact ⟨j, by omega, y⟩
    · rw [List.mem_singleton.mp q]
      exact ⟨k, by omega, e⟩
  · rcases List.mem_append.mp hx with q | q
    · exact h.dl x q
    · rw [List.mem_singleton.mp q]
      exact d
/-- .. and host pairs ahead of (a, b) -/
structure HInv (ks : List Bool) (ps : List (Nat × Nat)) (ls : List (Nat × Nat × Int)) (a b : Nat) : Prop where
  nd : (ls.map norm).Nodup
  from_ : ∀ l ∈ ls, norm l ∈ ps ∨ ((norm l).2 < (norm l).1 ∧ (norm l).1 < ks.length ∧ ((norm l).1 < a ∨ ((norm l).1 = a ∧ (norm l).2 < b)) ∧ ks.getD (norm l).1 true = true ∧ ks.getD (norm l).2 true = true)
  dl : ∀ l ∈ ls, 0 ≤ l.2.2 ∧ l.2.2 ≤ 4
  few : ls.length ≤ 100
theorem LInv.host {ks : List Bool} {ps : List (Nat × Nat)} {ls : List (Nat × Nat × Int)} {k : Nat} (h : LInv ps ls k) (hk : k ≤ 100) : HInv ks ps ls 0 0 :=
  ⟨h.nd, fun l hl => let ⟨j, _, y⟩ := h.from_ l hl; .inl (List.mem_of_getElem? y), h.dl, by have := h.few; omega⟩
theorem HInv.skip {ks : List Bool} {ps : List (Nat × Nat)} {ls : List (Nat × Nat × Int)} {a b : Nat} (h : HInv ks ps ls a b) : HInv ks ps ls a (b + 1) :=
  ⟨h.nd, fun l hl => (h.from_ l hl).imp id fun ⟨x, y, z, w⟩ => ⟨x, y, by omega, w⟩, h.dl, h.few⟩
theorem HInv.next {ks : List Bool} {ps : List (Nat × Nat)} {ls : List (Nat × Nat × Int)} {a b : Nat} (h : HInv ks ps ls a b) : HInv ks ps ls (a + 1) 0 :=
  ⟨h.nd, fun l hl => (h.from_ l hl).imp id fun ⟨x, y, z, w⟩ => ⟨x, y, by omega, w⟩, h.dl, h.few⟩
theorem HInv.snoc {ks : List Bool} {ps : List (Nat × Nat)} {ls : List (Nat × Nat × Int)} {a b c e : Nat} {d : Int} (h : HInv ks ps ls a b) (hp : PInv ks ps c e) (ha : a < ks.length) (hb : b < a) (h1 : ks.getD a true = true) (h2 : ks.getD b true = true) (hd : 0 ≤ d ∧ d ≤ 4) (hf : ls.length < 20) :
    HInv ks ps (ls ++ [(a, b, d)]) a (b + 1) := by
  have en : norm (a, b, d) = (a, b) := norm_gt hb
  refine ⟨?_, fun x hx => ?_, fun x hx => ?_, by rw [List.length_append, List.length_singleton]; omega⟩
  · rw [List.map_append]
    refine nd_snoc' h.nd fun m => ?_
    obtain ⟨x, hx, ex⟩ := List.mem_map.mp m
    rw [en] at ex
    rcases h.from_ x hx with q | ⟨_, _, z, _⟩
    · rw [ex] at q
      obtain ⟨_, _, _, w⟩ := hp.ok _ q
      have w' : ks.getD a true = false ∨ ks.getD b true = false := w
      rw [h1, h2] at w'
      rcases w' with w' | w' <;> cases w'
    · rw [ex] at z
      have z' : a < a ∨ (a = a ∧ b < b) := z
      omega
  · rcases List.mem_append.mp hx with q | q
    · exact (h.from_ x q).imp id fun ⟨x, y, z, w⟩ => ⟨x, y, by omega, w⟩
    · rw [List.mem_singleton.mp q, en]
      exact .inr ⟨hb, ha, .inr ⟨rfl, by show b < b + 1; omega⟩, h1, h2⟩
  · rcases List.mem_append.mp hx with q | q
    · exact h.dl x q
    · rw [List.mem_singleton.mp q]
      exact hd
theorem HInv.ok {ks : List Bool} {ps : List (Nat × Nat)} {ls : List (Nat × Nat × Int)} {a b c e : Nat} (h : HInv ks ps ls a b) (hp : PInv ks ps c e) : LsOk ks.length ls :=
  ⟨h.nd, fun l hl => by
    rcases h.from_ l hl with q | ⟨x, y, _⟩
    · obtain ⟨x, y, _⟩ := hp.ok _ q
      exact ⟨x, y⟩
    · exact ⟨x, y⟩, h.dl, h.few⟩
/-- rows as lists -/
abbrev RowsAt (H : Hp) (as : List Addr) (rs : List (List Nat)) : Prop := Paired (fun (a : Addr) (r : List Nat) => r ≠ [] ∧ H a = some (.lst (natsV r))) as rs
theorem RowsAt.mono {H H' : Hp} {as : List Addr} {rs : List (List Nat)} (h : RowsAt H as rs) (f : ∀ a r, r ≠ [] → H a = some (.lst (natsV r)) → H' a = some (.lst (natsV r))) : RowsAt H' as rs := Paired.imp h fun _ _ z => ⟨z.1, f _ _ z.1 z.2⟩
theorem RowsAt.snoc {H : Hp} {as : List Addr} {rs : List (List Nat)} {a : Addr} {r : List Nat} (h : RowsAt H as rs) (n : r ≠ []) (e : H a = some (.lst (natsV r))) : RowsAt H (as ++ [a]) (rs ++ [r]) := Paired.snoc (F := fun (a : Addr) (r : List Nat) => r ≠ [] ∧ H a = some (.lst (natsV r))) ⟨n, e⟩ h
theorem RowsAt.same {H H' : Hp} {as : List Addr} {rs : List (List Nat)} (h : RowsAt H as rs) (e : Same H H') : RowsAt H' as rs := h.mono fun _ _ _ z => e _ _ z
/-- a row's list is no list of objects -/
theorem row_ne {H : Hp} {a p : Addr} {r : List Nat} {fs : List Addr} (n : r ≠ []) (h : H a = some (.lst (natsV r))) (hp : H p = some (.lst (fs.map V.ref))) : a ≠ p := by
  refine ne_of h hp fun e => ?_
  injection e with e
  cases r with
  | nil => exact n rfl
  | cons x r =>
    cases fs with
    | nil => cases e
    | cons y t =>
      unfold natsV at e
      rw [List.map_cons, List.map_cons] at e
      injection e with e1 _
      cases e1
theorem RowsAt.but {H H' : Hp} {as fs : List Addr} {rs : List (List Nat)} {p : Addr} (h : RowsAt H as rs) (hp : H p = some (.lst (fs.map V.ref))) (e : But p H H') : RowsAt H' as rs := h.mono fun _ _ n z => e _ _ z (row_ne n z hp)
/-- the class's facts -/
structure NetC (K : PySem.W.Frag) (C : Addr) : Prop where
  cl : Cls K C
  n1 : NoAttr K C "kinds"
  n2 : NoAttr K C "lines"
  n3 : NoAttr K C "processing"
  n4 : NoAttr K C "error"
  n5 : NoAttr K C "_delays"
end My
/-! A search level by level, as data. No row. -/
namespace My
open PySem PySem.Spec PyProof.Rows L2
abbrev Ways := Nat → Option (List Nat)
def setW (W : Ways) (v : Nat) (r : List Nat) : Ways := fun x => if x = v then some r else W x
def visit (u : Nat) (st : Ways × List Nat) (v : Nat) : Ways × List Nat :=
  if (st.1 v).isSome = true then st else (setW st.1 v ((st.1 u).getD [] ++ [v]), st.2 ++ [v])
def levStep (A : Nat → List Nat) (st : Ways × List Nat) : Ways × List Nat := st.2.foldl (fun s u => (A u).foldl (visit u) s) (st.1, [])
def lev (A : Nat → List Nat) (s : Nat) : Nat → Ways × List Nat
  | 0 => (fun x => if x = s then some [s] else none, [s])
  | t + 1 => levStep A (lev A s t)
theorem foldl_take {α β : Type} (f : β → α → β) {l : List α} {i : Nat} {a : α} (b : β) (h : l[i]? = some a) : (l.take (i + 1)).foldl f b = f ((l.take i).foldl f b) a := by
  rw [take_snoc h, List.foldl_append]
  rfl
theorem nodup_lt : ∀ (n : Nat) (l : List Nat), l.Nodup → (∀ x ∈ l, x < n) → l.length ≤ n
  | 0, l, _, h => by
    cases l with
    | nil => exact Nat.le_refl _
    | cons x r => exact absurd (h x List.mem_cons_self) (Nat.not_lt_zero _)
  | n + 1, l, hd, h => by
    by_cases hn : n ∈ l
    · have h1 := nodup_lt n (l.erase n) (hd.erase n) fun x hx => by
        have := (List.Nodup.mem_erase_iff hd).mp hx
        have := h x this.2
        omega
      rw [List.length_erase_of_mem hn] at h1
      omega
    · have h1 := nodup_lt n l hd fun x hx => by
        have := h x hx
        have : x ≠ n := fun z => hn (z ▸ hx)
        omega
      omega
/-- what a level's list is -/
structure Prog (n : Nat) (st : Ways × List Nat) : Prop where
  nd : st.2.Nodup
  lt : ∀ v ∈ st.2, v < n ∧ (st.1 v).isSome = true
theorem Prog.len {n : Nat} {st : Ways × List Nat} (h : Prog n st) : st.2.length ≤ n := nodup_lt n _ h.nd fun x hx => (h.lt x hx).1
theorem visit_some {u v : Nat} {st : Ways × List Nat} (h : (st.1 v).isSome = true) : visit u st v = st := if_pos h
theorem visit_none {u v : Nat} {st : Ways × List Nat} (h : ¬ (st.1 v).isSome = true) : visit u st v = (setW st.1 v ((st.1 u).getD [] ++ [v]), st.2 ++ [v]) := if_neg h
theorem visit_keep {u v x : Nat} {st : Ways × List Nat} {r : List Nat} (h : st.1 x = some r) : (visit u st v).1 x = some r := by
  by_cases e : (st.1 v).isSome = true
  · rw [visit_some e]; exact h
  · rw [visit_none e]
    show setW st.1 v _ x = some r
    unfold setW
    rw [if_neg fun z => e (by rw [← z, h]; rfl)]
    exact h
theorem Prog.visit {n u v : Nat} {st : Ways × List Nat} (h : Prog n st) (hv : v < n) : Prog n (visit u st v) := by
  by_cases e : (st.1 v).isSome = true
  · rw [visit_some e]; exact h
  · have hk : ∀ x, (st.1 x).isSome = true → ((My.visit u st v).1 x).isSome = true := fun x hx => by
      obtain ⟨r, hr⟩ := Option.isSome_iff_exists.mp hx
      rw [visit_keep hr]; rfl
    refine ⟨?_, fun x hx => ?_⟩
    · rw [visit_none e]
      exact nd_snoc' h.nd fun m => e (h.lt v m).2
    · have hx2 : x ∈ st.2 ++ [v] := by rw [visit_none e] at hx; exact hx
      rcases List.mem_append.mp hx2 with q | q
      · exact ⟨(h.lt x q).1, hk x (h.lt x q).2⟩
      · rw [List.mem_singleton.mp q]
        refine ⟨hv, ?_⟩
        rw [visit_none e]
        show (setW st.1 v _ v).isSome = true
        unfold setW
        rw [if_pos rfl]
        rfl
theorem Prog.fold {n u : Nat} : ∀ (l : List Nat) {st : Ways × List Nat}, Prog n st → (∀ v ∈ l, v < n) → Prog n (l.foldl (My.visit u) st)
  | [], _, h, _ => h
  | v :: r, _, h, hl => Prog.fold r (h.visit (hl v List.mem_cons_self)) fun x hx => hl x (List.mem_cons_of_mem _ hx)
theorem Prog.fold2 {n : Nat} {A : Nat → List Nat} : ∀ (l : List Nat) {st : Ways × List Nat}, Prog n st → (∀ u ∈ l, ∀ v ∈ A u, v < n) → Prog n (l.foldl (fun s u => (A u).foldl (My.visit u) s) st)
  | [], _, h, _ => h
  | u :: r, _, h, hl => Prog.fold2 r (h.fold (A u) (hl u List.mem_cons_self)) fun x hx => hl x (List.mem_cons_of_mem _ hx)
theorem keep_fold {u x : Nat} {r : List Nat} : ∀ (l : List Nat) {st : Ways × List Nat}, st.1 x = some r → (l.foldl (My.visit u) st).1 x = some r
  | [], _, h => h
  | v :: t, _, h => keep_fold t (visit_keep h)
theorem keep_fold2 {A : Nat → List Nat} {x : Nat} {r : List Nat} : ∀ (l : List Nat) {st : Ways × List Nat}, st.1 x = some r → (l.foldl (fun s u => (A u).foldl (My.visit u) s) st).1 x = some r
  | [], _, h => h
  | u :: t, _, h => keep_fold2 t (keep_fold (A u) h)
theorem lev_prog {A : Nat → List Nat} {s n : Nat} (hs : s < n) (hA : ∀ a, a < n → ∀ b ∈ A a, b < n) : ∀ t, Prog n (lev A s t)
  | 0 => ⟨by show [s].Nodup; simp, fun v hv => by
      have hv : v ∈ [s] := hv
      rw [List.mem_singleton.mp hv]
      exact ⟨hs, by show (if s = s then some [s] else none).isSome = true; rw [if_pos rfl]; rfl⟩⟩
  | t + 1 => by
    have ih := lev_prog hs hA t
    exact Prog.fold2 (st := ((lev A s t).1, [])) _ ⟨List.nodup_nil, fun v hv => by cases hv⟩ fun u hu => hA u (ih.lt u hu).1
theorem lev_end {A : Nat → List Nat} {s t : Nat} (h : (lev A s t).2 = []) : ∀ k, lev A s (t + k) = ((lev A s t).1, []) ∨ k = 0
  | 0 => .inr rfl
  | k + 1 => by
    refine .inl ?_
    show levStep A (lev A s (t + k)) = _
    rcases lev_end h k with e | e
    · rw [e]
      rfl
    · rw [e]
      unfold levStep
      rw [Nat.add_zero, h]
      rfl
theorem lev_same {A : Nat → List Nat} {s t T : Nat} (h : (lev A s t).2 = []) (ht : t ≤ T) : (lev A s T).1 = (lev A s t).1 := by
  obtain ⟨k, rfl⟩ : ∃ k, T = t + k := ⟨T - t, by omega⟩
  rcases lev_end h k with e | e
  · rw [e]
  · rw [e]; rfl
/-! ### how the heap bears them -/
def ArcsAt (H : Hp) (d : Addr) (A : Nat → List Nat) (n : Nat) : Prop := ∃ kvs : List (Key × V), H d = some (.dK kvs) ∧ ∀ a, a < n → ∃ l, valV kvs (Sum.inl (a : Int)) = some (.ref l) ∧ H l = some (.lst (natsV (A a)))
theorem ArcsAt.same {H H' : Hp} {d : Addr} {A : Nat → List Nat} {n : Nat} (h : ArcsAt H d A n) (e : Same H H') : ArcsAt H' d A n := by
  obtain ⟨kvs, h1, h2⟩ := h
  exact ⟨kvs, e _ _ h1, fun a ha => let ⟨l, x, y⟩ := h2 a ha; ⟨l, x, e _ _ y⟩⟩
/-- the dict of ways; no way's list is q -/
def WaysAt (H0 H : Hp) (d : Addr) (W : Ways) (m : Nat) (q : Addr) : Prop := ∃ kvs : List (Key × V), H d = some (.dK kvs) ∧ kvs.length ≤ m ∧ (∀ v, W v = none → valV kvs (Sum.inl (v : Int)) = none) ∧
  ∀ v r, W v = some r → r.length ≤ kvs.length ∧ ∃ l, valV kvs (Sum.inl (v : Int)) = some (.ref l) ∧ H l = some (.lst (natsV r)) ∧ H0 l = none ∧ l ≠ q
def WayV (H0 H : Hp) (o : Option (List Nat)) (v : V) : Prop := match o with
  | none => v = .non
  | some r => ∃ l, v = .ref l ∧ H0 l = none ∧ H l = some (.lst (natsV r))
theorem WaysAt.get {H0 H : Hp} {d : Addr} {W : Ways} {m : Nat} {q : Addr} (h : WaysAt H0 H d W m q) (v : Nat) : ∃ o, DGet H d (.int (v : Int)) o ∧ o.isSome = (W v).isSome ∧ WayV H0 H (W v) (o.getD .non) := by
  obtain ⟨kvs, h1, _, h2, h3⟩ := h
  refine ⟨valV kvs (Sum.inl (v : Int)), DGet.k (k := Sum.inl (v : Int)) h1, ?_, ?_⟩
  · cases e : W v with
    | none => rw [h2 v e]; rfl
    | some r =>
      obtain ⟨_, l, x, _⟩ := h3 v r e
      rw [x]
      rfl
  · cases e : W v with
    | none => rw [h2 v e]; rfl
    | some r =>
      obtain ⟨_, l, x, y, z, _⟩ := h3 v r e
      rw [x]
      exact ⟨l, rfl, z, y⟩
theorem WaysAt.mono {H0 H H' : Hp} {d : Addr} {W : Ways} {m : Nat} {q q' : Addr} (h : WaysAt H0 H d W m q) (hd : ∀ kvs, H d = some (.dK kvs) → H' d = some (.dK kvs)) (hl : ∀ l r, l ≠ q → H l = some (.lst (natsV r)) → H' l = some (.lst (natsV r)) ∧ l ≠ q') : WaysAt H0 H' d W m q' := by
  obtain ⟨kvs, h1, h2, h3, h4⟩ := h
  refine ⟨kvs, hd _ h1, h2, h3, fun v r e => ?_⟩
  obtain ⟨a, l, x, y, z, n⟩ := h4 v r e
  exact ⟨a, l, x, (hl l r n y).1, z, (hl l r n y).2⟩
theorem WaysAt.put {H0 H : Hp} {d : Addr} {W : Ways} {m : Nat} {q : Addr} {v : Nat} {r : List Nat} {l : Addr} {kvs : List (Key × V)} (h : WaysAt H0 H d W m q) (hd : H d = some (.dK kvs)) (hv : W v = none) (hr : r.length ≤ kvs.length + 1) (hl : H l = some (.lst (natsV r))) (h0 : H0 l = none) (hq : l ≠ q) :
    WaysAt H0 (upd H d (.dK (putK kvs (Sum.inl (v : Int)) (.ref l)))) d (setW W v r) (m + 1) q := by
  obtain ⟨kvs', h1, h2, h3, h4⟩ := h
  rw [hd] at h1
  cases h1
  have en := putK_new (V.ref l) (h3 v hv)
  have key : ∀ x : Nat, ((Sum.inl (x : Int) : Key) = Sum.inl (v : Int)) ↔ x = v := fun x => ⟨fun z => by injection z with z; omega, fun z => by rw [z]⟩
  have nd : ∀ (l' : Addr) (r' : List Nat), H l' = some (.lst (natsV r')) → l' ≠ d := fun l' r' e => ne_of e hd (by intro z; cases z)
  refine ⟨_, upd_same, by rw [en, List.length_append, List.length_singleton]; omega, fun x hx => ?_, fun x r' hx => ?_⟩
  · unfold setW at hx
    by_cases e : x = v
    · rw [if_pos e] at hx; cases hx
    · rw [if_neg e] at hx
      rw [valV_put, if_neg fun z => e ((key x).mp z)]
      exact h3 x hx
  · unfold setW at hx
    by_cases e : x = v
    · rw [if_pos e] at hx
      cases hx
      refine ⟨by rw [en, List.length_append, List.length_singleton]; exact hr, l, ?_, by rw [upd_ne (nd l r hl)]; exact hl, h0, hq⟩
      rw [valV_put, if_pos ((key x).mpr e)]
    · rw [if_neg e] at hx
      obtain ⟨a, l', x', y, z, n⟩ := h4 x r' hx
      refine ⟨by rw [en, List.length_append, List.length_singleton]; omega, l', ?_, by rw [upd_ne (nd l' r' y)]; exact y, z, n⟩
      rw [valV_put, if_neg fun z => e ((key x).mp z)]
      exact x'
end My
/-! The rows found one by one, and the search level by level: the same shortest rows. No row of Lean's, no Python. -/
namespace My
open PySem PySem.Spec PyProof.Rows L2
/-! ### order -/
def lexlt : List Nat → List Nat → Prop
  | x :: xs, y :: ys => x < y ∨ (x = y ∧ lexlt xs ys)
  | _, _ => False
theorem lex_irr : ∀ x : List Nat, ¬ lexlt x x
  | [], h => h
  | x :: xs, h => by
    rcases h with h | ⟨_, h⟩
    · omega
    · exact lex_irr xs h
theorem lex_trans : ∀ {x y z : List Nat}, lexlt x y → lexlt y z → lexlt x z
  | [], _, _, h, _ => h.elim
  | _ :: _, [], _, h, _ => h.elim
  | _ :: _, _ :: _, [], _, h => h.elim
  | a :: x, b :: y, c :: z, h1, h2 => by
    rcases h1 with h1 | ⟨e1, h1⟩ <;> rcases h2 with h2 | ⟨e2, h2⟩
    · exact .inl (by omega)
    · exact .inl (by omega)
    · exact .inl (by omega)
    · exact .inr ⟨by omega, lex_trans h1 h2⟩
theorem lex_app1 : ∀ {x y : List Nat} (s t : List Nat), lexlt x y → lexlt (x ++ s) (y ++ t)
  | [], _, _, _, h => h.elim
  | _ :: _, [], _, _, h => h.elim
  | a :: x, b :: y, s, t, h => by
    rcases h with h | ⟨e, h⟩
    · exact .inl h
    · exact .inr ⟨e, lex_app1 s t h⟩
theorem lex_app2 : ∀ (x : List Nat) {s t : List Nat}, lexlt s t → lexlt (x ++ s) (x ++ t)
  | [], _, _, h => h
  | a :: x, _, _, h => .inr ⟨rfl, lex_app2 x h⟩
theorem lex_one {b c : Nat} (h : b < c) (x : List Nat) : lexlt (x ++ [b]) (x ++ [c]) := lex_app2 x (.inl h)
/-- fewer nodes, or as many and lexicographically less -/
def rlt (x y : List Nat) : Prop := x.length < y.length ∨ (x.length = y.length ∧ lexlt x y)
def rle (x y : List Nat) : Prop := x = y ∨ rlt x y
theorem rlt_irr (x : List Nat) : ¬ rlt x x := fun h => by
  rcases h with h | ⟨_, h⟩
  · omega
  · exact lex_irr x h
theorem rlt_trans {x y z : List Nat} (h1 : rlt x y) (h2 : rlt y z) : rlt x z := by
  rcases h1 with h1 | ⟨e1, h1⟩ <;> rcases h2 with h2 | ⟨e2, h2⟩
  · exact .inl (by omega)
  · exact .inl (by omega)
  · exact .inl (by omega)
  · exact .inr ⟨by omega, lex_trans h1 h2⟩
/-! ### rows -/
inductive Row (N : NetD) (a : Nat) : List Nat → Prop
  | start : Row N a [a]
  | ext {r : List Nat} {b : Nat} : Row N a r → (r = [a] ∨ host N (lastN r) = false) → okb N r b = true → b < N.ks.length → Row N a (r ++ [b])
theorem lastN_app (r : List Nat) (b : Nat) : lastN (r ++ [b]) = b := by
  unfold lastN
  rw [List.length_append, List.length_singleton, Nat.add_sub_cancel, List.getD_eq_getElem?_getD, List.getElem?_append_right (Nat.le_refl _), Nat.sub_self]
  rfl
theorem lastN_one (a : Nat) : lastN [a] = a := rfl
theorem okb_mem {N : NetD} {r : List Nat} {b : Nat} (h : okb N r b = true) : b ∉ r ∧ adj N (lastN r) b = true := by
  unfold okb at h
  rw [Bool.and_eq_true, Bool.not_eq_true'] at h
  refine ⟨fun m => ?_, h.2⟩
  have := List.contains_iff_mem.mpr m
  rw [h.1] at this
  cases this
theorem okb_of {N : NetD} {r : List Nat} {b : Nat} (h1 : b ∉ r) (h2 : adj N (lastN r) b = true) : okb N r b = true := by
  unfold okb
  rw [Bool.and_eq_true, Bool.not_eq_true']
  refine ⟨?_, h2⟩
  cases e : r.contains b with
  | false => rfl
  | true => exact absurd (List.contains_iff_mem.mp e) h1
theorem Row.ne {N : NetD} {a : Nat} {r : List Nat} (h : Row N a r) : r ≠ [] := by
  cases h with
  | start => simp
  | ext => simp
theorem Row.pos {N : NetD} {a : Nat} {r : List Nat} (h : Row N a r) : 1 ≤ r.length := List.length_pos_iff.mpr h.ne
theorem Row.nodup {N : NetD} {a : Nat} {r : List Nat} (h : Row N a r) : r.Nodup := by
  induction h with
  | start => simp
  | ext _ _ o _ ih => exact nd_snoc' ih (okb_mem o).1
theorem Row.head {N : NetD} {a : Nat} {r : List Nat} (h : Row N a r) : r.head? = some a := by
  induction h with
  | start => rfl
  | ext h _ _ _ ih =>
    cases ‹List Nat› with
    | nil => exact absurd rfl h.ne
    | cons x t => exact ih
theorem Row.lt {N : NetD} {a : Nat} {r : List Nat} (h : Row N a r) (ha : a < N.ks.length) : ∀ x ∈ r, x < N.ks.length := by
  induction h with
  | start => intro x hx; rw [List.mem_singleton.mp hx]; exact ha
  | ext _ _ _ hb ih =>
    intro x hx
    rcases List.mem_append.mp hx with q | q
    · exact ih x q
    · rw [List.mem_singleton.mp q]; exact hb
theorem Row.mem_last {N : NetD} {a : Nat} {r : List Nat} (h : Row N a r) : lastN r ∈ r := by
  cases h with
  | start => exact List.mem_singleton.mpr rfl
  | ext => rw [lastN_app]; exact List.mem_append.mpr (.inr (List.mem_singleton.mpr rfl))
/-- a node of a row is the end of a row that is not longer -/
theorem Row.pre {N : NetD} {a : Nat} {r : List Nat} (h : Row N a r) : ∀ v ∈ r, ∃ x, Row N a x ∧ lastN x = v ∧ x.length ≤ r.length := by
  induction h with
  | start => intro v hv; exact ⟨[a], .start, (List.mem_singleton.mp hv).symm ▸ rfl, Nat.le_refl _⟩
  | @ext r b h1 h2 o hb ih =>
    intro v hv
    rcases List.mem_append.mp hv with q | q
    · obtain ⟨x, x1, x2, x3⟩ := ih v q
      exact ⟨x, x1, x2, by rw [List.length_append]; omega⟩
    · exact ⟨r ++ [b], .ext h1 h2 o hb, by rw [lastN_app, List.mem_singleton.mp q], Nat.le_refl _⟩
theorem Row.split {N : NetD} {a : Nat} {x : List Nat} (h : Row N a x) : x = [a] ∨ ∃ y b, x = y ++ [b] ∧ Row N a y ∧ (y = [a] ∨ host N (lastN y) = false) ∧ okb N y b = true ∧ b < N.ks.length := by
  cases h with
  | start => exact .inl rfl
  | ext h1 h2 o hb => exact .inr ⟨_, _, rfl, h1, h2, o, hb⟩
theorem Row.back {N : NetD} {a : Nat} {r : List Nat} (h : Row N a r) (e : lastN r = a) : r = [a] := by
  rcases h.split with z | ⟨y, b, rfl, h1, _, o, _⟩
  · exact z
  · rw [lastN_app] at e
    exact absurd (by rw [e]; exact List.mem_of_mem_head? h1.head) (okb_mem o).1
/-! ### what the law finds -/
theorem mem_rows {N : NetD} : ∀ (t : Nat) (r : List Nat), r ∈ rowsOf N t ↔ ∃ a, a < N.ks.length ∧ host N a = true ∧ Row N a r ∧ r.length = t + 1 ∧ (r = [a] ∨ host N (lastN r) = false)
  | 0, r => by
    constructor
    · intro h
      obtain ⟨a, ha, rfl⟩ := List.mem_map.mp h
      obtain ⟨h1, h2⟩ := List.mem_filter.mp ha
      exact ⟨a, List.mem_range.mp h1, h2, .start, rfl, .inl rfl⟩
    · rintro ⟨a, h1, h2, h3, h4, _⟩
      rcases h3.split with rfl | ⟨y, b, rfl, h5, _⟩
      · exact List.mem_map.mpr ⟨a, List.mem_filter.mpr ⟨List.mem_range.mpr h1, h2⟩, rfl⟩
      · have := h5.pos
        rw [List.length_append, List.length_singleton] at h4
        omega
  | t + 1, r => by
    constructor
    · intro h
      obtain ⟨y, hy, hr⟩ := List.mem_flatMap.mp h
      obtain ⟨a, h1, h2, h3, h4, h5⟩ := (mem_rows t y).mp hy
      obtain ⟨b, hb, rfl⟩ := List.mem_map.mp hr
      obtain ⟨b1, b2⟩ := List.mem_filter.mp hb
      rw [Bool.and_eq_true, Bool.not_eq_true'] at b2
      exact ⟨a, h1, h2, .ext h3 h5 b2.1 (List.mem_range.mp b1), by rw [List.length_append, h4]; rfl, .inr (by rw [lastN_app]; exact b2.2)⟩
    · rintro ⟨a, h1, h2, h3, h4, h5⟩
      rcases h3.split with rfl | ⟨y, b, rfl, h6, h7, o, hb⟩
      · cases h4
      · rw [List.length_append, List.length_singleton] at h4
        have hb2 : host N b = false := by
          rcases h5 with z | z
          · have w1 := congrArg List.length z
            rw [List.length_append, List.length_singleton, List.length_singleton] at w1
            omega
          · rw [lastN_app] at z; exact z
        exact List.mem_flatMap.mpr ⟨y, (mem_rows t y).mpr ⟨a, h1, h2, h6, by omega, h7⟩, List.mem_map.mpr ⟨b, List.mem_filter.mpr ⟨List.mem_range.mpr hb, by rw [o, hb2]; rfl⟩, rfl⟩⟩
theorem mem_found {N : NetD} : ∀ (t : Nat) (r : List Nat), r ∈ foundOf N t ↔ ∃ a, a < N.ks.length ∧ host N a = true ∧ Row N a r ∧ 2 ≤ r.length ∧ r.length ≤ t + 1 ∧ host N (lastN r) = true
  | 0, r => by
    constructor
    · intro h; cases h
    · rintro ⟨a, _, _, _, h1, h2, _⟩; omega
  | t + 1, r => by
    have ih := mem_found (N := N) t r
    constructor
    · intro h
      rcases List.mem_append.mp h with q | q
      · obtain ⟨a, h1, h2, h3, h4, h5, h6⟩ := ih.mp q
        exact ⟨a, h1, h2, h3, h4, by omega, h6⟩
      · obtain ⟨y, hy, hr⟩ := List.mem_flatMap.mp q
        obtain ⟨a, h1, h2, h3, h4, h5⟩ := (mem_rows t y).mp hy
        obtain ⟨b, hb, rfl⟩ := List.mem_map.mp hr
        obtain ⟨b1, b2⟩ := List.mem_filter.mp hb
        rw [Bool.and_eq_true] at b2
        refine ⟨a, h1, h2, .ext h3 h5 b2.1 (List.mem_range.mp b1), ?_, ?_, by rw [lastN_app]; exact b2.2⟩
        · rw [List.length_append, List.length_singleton]; omega
        · rw [List.length_append, List.length_singleton]; omega
    · rintro ⟨a, h1, h2, h3, h4, h5, h6⟩
      by_cases hl : r.length ≤ t + 1
      · exact List.mem_append.mpr (.inl (ih.mpr ⟨a, h1, h2, h3, h4, hl, h6⟩))
      · refine List.mem_append.mpr (.inr ?_)
        rcases h3.split with rfl | ⟨y, b, rfl, h7, h8, o, hb⟩
        · rw [List.length_singleton] at h4; omega
        · rw [lastN_app] at h6
          rw [List.length_append, List.length_singleton] at hl h5
          exact List.mem_flatMap.mpr ⟨y, (mem_rows t y).mpr ⟨a, h1, h2, h7, by omega, h8⟩, List.mem_map.mpr ⟨b, List.mem_filter.mpr ⟨List.mem_range.mpr hb, by rw [o, h6]; rfl⟩, rfl⟩⟩
theorem range_pw (n : Nat) : (List.range n).Pairwise (· < ·) := List.pairwise_lt_range
theorem ext_pw {p : Nat → Bool} (r : List Nat) (n : Nat) : (((List.range n).filter p).map fun b => r ++ [b]).Pairwise lexlt := by
  refine List.Pairwise.map _ (fun b c h => lex_one h r) ((range_pw n).filter p)
theorem flat_pw {f : List Nat → List (List Nat)} {l : List (List Nat)} (hl : l.Pairwise lexlt) (hf : ∀ r ∈ l, (f r).Pairwise lexlt) (hx : ∀ r, ∀ x ∈ f r, ∃ b, x = r ++ [b]) : (l.flatMap f).Pairwise lexlt := by
  rw [List.pairwise_flatMap]
  refine ⟨hf, List.Pairwise.imp (fun {r r'} h x hx1 y hy1 => ?_) hl⟩
  obtain ⟨b, rfl⟩ := hx r x hx1
  obtain ⟨c, rfl⟩ := hx r' y hy1
  exact lex_app1 _ _ h
theorem exS_ext {N : NetD} {r x : List Nat} (h : x ∈ exS N r) : ∃ b, x = r ++ [b] := by
  obtain ⟨b, _, rfl⟩ := List.mem_map.mp h
  exact ⟨b, rfl⟩
theorem exH_ext {N : NetD} {r x : List Nat} (h : x ∈ exH N r) : ∃ b, x = r ++ [b] := by
  obtain ⟨b, _, rfl⟩ := List.mem_map.mp h
  exact ⟨b, rfl⟩
theorem rows_pw {N : NetD} : ∀ t, (rowsOf N t).Pairwise lexlt
  | 0 => by
    show (((List.range N.ks.length).filter (host N)).map fun b => ([] : List Nat) ++ [b]).Pairwise lexlt
    exact ext_pw [] _
  | t + 1 => flat_pw (rows_pw t) (fun r _ => ext_pw r _) fun r x h => exS_ext h
theorem found_pw {N : NetD} : ∀ t, (foundOf N t).Pairwise rlt
  | 0 => List.Pairwise.nil
  | t + 1 => by
    show (foundOf N t ++ (rowsOf N t).flatMap (exH N)).Pairwise rlt
    have hlen : ∀ x ∈ (rowsOf N t).flatMap (exH N), x.length = t + 2 := fun x hx => by
      obtain ⟨y, hy, hr⟩ := List.mem_flatMap.mp hx
      obtain ⟨b, rfl⟩ := exH_ext hr
      rw [List.length_append, rows_row N t y hy]
      rfl
    rw [List.pairwise_append]
    refine ⟨found_pw t, ?_, fun x hx y hy => .inl ?_⟩
    · have h := flat_pw (f := exH N) (rows_pw (N := N) t) (fun r _ => ext_pw r _) fun r x h => exH_ext h
      refine List.Pairwise.imp_of_mem (fun {x y} hx hy h => .inr ⟨?_, h⟩) h
      rw [hlen x hx, hlen y hy]
    · obtain ⟨_, _, _, _, _, h5, _⟩ := (mem_found t x).mp hx
      rw [hlen y hy]
      omega
def matchP (a b : Nat) (r : List Nat) : Bool := (r.getD 0 0 == a) && (lastN r == b)
theorem row_matchP {N : NetD} {a b : Nat} {r : List Nat} (h : Row N a r) (e : lastN r = b) : matchP a b r = true := by
  unfold matchP
  rw [Bool.and_eq_true, beq_iff_eq, beq_iff_eq]
  refine ⟨?_, e⟩
  have := h.head
  cases r with
  | nil => cases this
  | cons x t => exact Option.some.inj this
theorem matchP_row {N : NetD} {a b c : Nat} {r : List Nat} (h : Row N c r) (m : matchP a b r = true) : c = a ∧ lastN r = b := by
  unfold matchP at m
  rw [Bool.and_eq_true, beq_iff_eq, beq_iff_eq] at m
  refine ⟨?_, m.2⟩
  have := h.head
  have m1 := m.1
  cases r with
  | nil => cases this
  | cons x t =>
    have e : x = c := Option.some.inj this
    rw [← e]
    exact m1
theorem find_first {l : List (List Nat)} {p : List Nat → Bool} {r : List Nat} (hs : l.Pairwise rlt) (hr : r ∈ l) (hp : p r = true) (hmin : ∀ x ∈ l, p x = true → rle r x) : l.find? p = some r := by
  induction l with
  | nil => cases hr
  | cons x t ih =>
    rw [List.find?_cons]
    rw [List.pairwise_cons] at hs
    cases hx : p x with
    | true =>
      show some x = some r
      rcases hmin x List.mem_cons_self hx with e | e
      · rw [e]
      · rcases List.mem_cons.mp hr with q | q
        · rw [q]
        · exact absurd (rlt_trans e (hs.1 r q)) (rlt_irr r)
    | false =>
      show t.find? p = some r
      rcases List.mem_cons.mp hr with q | q
      · rw [q, hx] at hp; cases hp
      · exact ih hs.2 q fun y hy => hmin y (List.mem_cons_of_mem _ hy)
end My
/-! The search level by level gives the least of the shortest rows. -/
namespace My
open PySem PySem.Spec PyProof.Rows L2
/-- a level's fold, pair by pair -/
def pairsOf (A : Nat → List Nat) (L : List Nat) : List (Nat × Nat) := L.flatMap fun u => (A u).map fun v => (u, v)
def visitP (st : Ways × List Nat) (p : Nat × Nat) : Ways × List Nat := visit p.1 st p.2
theorem foldl_pairs1 (u : Nat) : ∀ (l : List Nat) (st : Ways × List Nat), l.foldl (visit u) st = (l.map fun v => (u, v)).foldl visitP st
  | [], _ => rfl
  | v :: r, st => foldl_pairs1 u r (visit u st v)
theorem foldl_pairs (A : Nat → List Nat) : ∀ (L : List Nat) (st : Ways × List Nat), L.foldl (fun s u => (A u).foldl (visit u) s) st = (pairsOf A L).foldl visitP st
  | [], _ => rfl
  | u :: r, st => by
    show r.foldl _ ((A u).foldl (visit u) st) = _
    rw [foldl_pairs A r, foldl_pairs1]
    show _ = (((A u).map fun v => (u, v)) ++ pairsOf A r).foldl visitP st
    rw [List.foldl_append]
/-- the way that a pair gives -/
def wayP (W : Ways) (p : Nat × Nat) : List Nat := (W p.1).getD [] ++ [p.2]
/-- within a level: the pairs of `done` are through -/
structure Mid (W0 : Ways) (done : List (Nat × Nat)) (st : Ways × List Nat) : Prop where
  val : ∀ v, st.1 v = match W0 v with | some r => some r | none => (done.find? fun p => p.2 == v).map (wayP W0)
  mem : ∀ v, v ∈ st.2 ↔ W0 v = none ∧ (st.1 v).isSome = true
  ord : st.2.Pairwise fun v v' => ∀ r r', st.1 v = some r → st.1 v' = some r' → lexlt r r'
theorem Mid.start (W0 : Ways) : Mid W0 [] (W0, []) := by
  refine ⟨fun v => ?_, fun v => ⟨(fun h => by cases h), fun ⟨h1, h2⟩ => ?_⟩, List.Pairwise.nil⟩
  · show W0 v = _
    cases W0 v <;> rfl
  · have h2 : (W0 v).isSome = true := h2
    rw [h1] at h2
    cases h2
theorem Mid.step {W0 : Ways} {done : List (Nat × Nat)} {st : Ways × List Nat} {p : Nat × Nat} (h : Mid W0 done st) (hs : (done ++ [p]).Pairwise fun q q' => lexlt (wayP W0 q) (wayP W0 q')) (hu : (W0 p.1).isSome = true) : Mid W0 (done ++ [p]) (visitP st p) := by
  obtain ⟨u, v⟩ := p
  have hval := h.val v
  by_cases e : (st.1 v).isSome = true
  · have ev : visitP st (u, v) = st := visit_some e
    rw [ev]
    refine ⟨fun x => ?_, h.mem, h.ord⟩
    rw [h.val x]
    cases e0 : W0 x with
    | some r => rfl
    | none =>
      show (done.find? fun p => p.2 == x).map (wayP W0) = ((done ++ [(u, v)]).find? fun p => p.2 == x).map (wayP W0)
      rw [List.find?_append]
      cases e1 : done.find? fun p => p.2 == x with
      | some q => rfl
      | none =>
        have hx : ¬ v = x := fun z => by
          subst z
          rw [hval, e0, e1] at e
          cases e
        have : (v == x) = false := beq_eq_false_iff_ne.mpr hx
        show Option.map (wayP W0) none = Option.map (wayP W0) ([(u, v)].find? fun p => p.2 == x)
        rw [List.find?_cons, this]
        rfl
  · have en : st.1 v = none := by
      cases z : st.1 v with
      | none => rfl
      | some y => rw [z] at e; exact absurd rfl e
    have e0 : W0 v = none := by
      cases z : W0 v with
      | none => rfl
      | some y => rw [z] at hval; rw [hval] at en; cases en
    have e1 : (done.find? fun p => p.2 == v) = none := by
      rw [e0, en] at hval
      cases z : done.find? fun p => p.2 == v with
      | none => rfl
      | some y => rw [z] at hval; cases hval
    have eu : st.1 u = W0 u := by
      obtain ⟨r, hr⟩ := Option.isSome_iff_exists.mp hu
      have hr : W0 u = some r := hr
      rw [h.val u, hr]
    have ev : visitP st (u, v) = (setW st.1 v (wayP W0 (u, v)), st.2 ++ [v]) := by
      show visit u st v = _
      rw [visit_none e, eu]
      rfl
    rw [ev]
    have hne : ∀ x, x ∈ st.2 → ¬ x = v := fun x hx z => by
      have := ((h.mem x).mp hx).2
      rw [z, en] at this
      cases this
    refine ⟨fun x => ?_, fun x => ?_, ?_⟩
    · show setW st.1 v (wayP W0 (u, v)) x = _
      unfold setW
      by_cases ex : x = v
      · subst ex
        rw [if_pos rfl, e0]
        show some (wayP W0 (u, x)) = ((done ++ [(u, x)]).find? fun p => p.2 == x).map (wayP W0)
        rw [List.find?_append, e1, List.find?_cons, show (x == x) = true from beq_self_eq_true x]
        rfl
      · rw [if_neg ex, h.val x]
        cases W0 x with
        | some r => rfl
        | none =>
          show (done.find? fun p => p.2 == x).map (wayP W0) = ((done ++ [(u, v)]).find? fun p => p.2 == x).map (wayP W0)
          rw [List.find?_append]
          cases done.find? fun p => p.2 == x with
          | some q => rfl
          | none =>
            have : (v == x) = false := beq_eq_false_iff_ne.mpr fun z => ex z.symm
            show Option.map (wayP W0) none = Option.map (wayP W0) ([(u, v)].find? fun p => p.2 == x)
            rw [List.find?_cons, this]
            rfl
    · show x ∈ st.2 ++ [v] ↔ W0 x = none ∧ (setW st.1 v (wayP W0 (u, v)) x).isSome = true
      unfold setW
      rw [List.mem_append, List.mem_singleton]
      by_cases ex : x = v
      · subst ex
        rw [if_pos rfl]
        exact ⟨fun _ => ⟨e0, rfl⟩, fun _ => .inr rfl⟩
      · rw [if_neg ex, h.mem x]
        exact ⟨fun q => q.resolve_right ex, fun q => .inl q⟩
    · show (st.2 ++ [v]).Pairwise _
      rw [List.pairwise_append]
      refine ⟨List.Pairwise.imp_of_mem (fun {x y} hx hy hr r r' h1 h2 => ?_) h.ord, List.pairwise_singleton _ _, fun x hx y hy r r' h1 h2 => ?_⟩
      · have h1 : setW st.1 v (wayP W0 (u, v)) x = some r := h1
        have h2 : setW st.1 v (wayP W0 (u, v)) y = some r' := h2
        unfold setW at h1 h2
        rw [if_neg (hne x hx)] at h1
        rw [if_neg (hne y hy)] at h2
        exact hr r r' h1 h2
      · rw [List.mem_singleton.mp hy] at h2
        have h1 : setW st.1 v (wayP W0 (u, v)) x = some r := h1
        have h2 : setW st.1 v (wayP W0 (u, v)) v = some r' := h2
        unfold setW at h1 h2
        rw [if_neg (hne x hx)] at h1
        rw [if_pos rfl] at h2
        cases h2
        rw [h.val x, ((h.mem x).mp hx).1] at h1
        obtain ⟨q, hq, rfl⟩ := Option.map_eq_some_iff.mp h1
        have hqm : q ∈ done := List.mem_of_find?_eq_some hq
        rw [List.pairwise_append] at hs
        exact hs.2.2 q hqm (u, v) (List.mem_singleton.mpr rfl)
theorem Mid.fold {W0 : Ways} : ∀ (l done : List (Nat × Nat)) {st : Ways × List Nat}, Mid W0 done st → (done ++ l).Pairwise (fun q q' => lexlt (wayP W0 q) (wayP W0 q')) → (∀ p ∈ l, (W0 p.1).isSome = true) → Mid W0 (done ++ l) (l.foldl visitP st)
  | [], done, _, h, _, _ => by rw [List.append_nil]; exact h
  | p :: r, done, st, h, hs, hu => by
    have e : done ++ p :: r = (done ++ [p]) ++ r := by rw [List.append_assoc]; rfl
    rw [e] at hs ⊢
    refine Mid.fold r (done ++ [p]) (h.step ?_ (hu p List.mem_cons_self)) hs fun q hq => hu q (List.mem_cons_of_mem _ hq)
    exact (List.pairwise_append.mp hs).1
/-! ### the levels -/
def arcsOf (N : NetD) (first a : Nat) : List Nat := if decide (a = first) || !host N a then nbs N a else []
theorem arcs_pw (N : NetD) (a u : Nat) : (arcsOf N a u).Pairwise (· < ·) := by
  unfold arcsOf nbs
  split
  · exact (range_pw _).filter _
  · exact List.Pairwise.nil
theorem mem_arcs {N : NetD} {a u v : Nat} : v ∈ arcsOf N a u ↔ (u = a ∨ host N u = false) ∧ v < N.ks.length ∧ adj N u v = true := by
  unfold arcsOf nbs
  by_cases e : (decide (u = a) || !host N u) = true
  · rw [if_pos e, List.mem_filter, List.mem_range]
    rw [Bool.or_eq_true, decide_eq_true_eq, Bool.not_eq_true'] at e
    exact ⟨fun h => ⟨e, h⟩, fun h => h.2⟩
  · rw [if_neg e]
    rw [Bool.or_eq_true, decide_eq_true_eq, Bool.not_eq_true'] at e
    exact ⟨(fun h => by cases h), fun h => absurd h.1 e⟩
theorem rle_len {x y : List Nat} (h : rle x y) : x.length ≤ y.length := by
  rcases h with rfl | h | ⟨h, _⟩
  · exact Nat.le_refl _
  · omega
  · omega
structure Lv (N : NetD) (a t : Nat) (st : Ways × List Nat) : Prop where
  row : ∀ v r, st.1 v = some r → Row N a r ∧ lastN r = v ∧ r.length ≤ t + 1 ∧ ∀ x, Row N a x → lastN x = v → rle r x
  all : ∀ x, Row N a x → x.length ≤ t + 1 → (st.1 (lastN x)).isSome = true
  mem : ∀ u, u ∈ st.2 ↔ ∃ r, st.1 u = some r ∧ r.length = t + 1
  ord : st.2.Pairwise fun u u' => ∀ r r', st.1 u = some r → st.1 u' = some r' → lexlt r r'
theorem lv_zero (N : NetD) (a : Nat) : Lv N a 0 (lev (arcsOf N a) a 0) := by
  have ev : ∀ v, (lev (arcsOf N a) a 0).1 v = if v = a then some [a] else none := fun v => rfl
  refine ⟨fun v r h => ?_, fun x hx hl => ?_, fun u => ?_, List.pairwise_singleton _ _⟩
  · rw [ev] at h
    by_cases e : v = a
    · rw [if_pos e] at h
      cases h
      refine ⟨.start, e.symm ▸ rfl, Nat.le_refl _, fun x hx _ => ?_⟩
      rcases hx.split with rfl | ⟨y, b, rfl, h1, _⟩
      · exact .inl rfl
      · refine .inr (.inl ?_)
        have := h1.pos
        rw [List.length_append, List.length_singleton, List.length_singleton]
        omega
    · rw [if_neg e] at h; cases h
  · rcases hx.split with rfl | ⟨y, b, rfl, h1, _⟩
    · rw [lastN_one, ev, if_pos rfl]; rfl
    · have := h1.pos
      rw [List.length_append, List.length_singleton] at hl
      omega
  · show u ∈ [a] ↔ _
    rw [List.mem_singleton]
    constructor
    · intro e
      exact ⟨[a], by rw [ev, if_pos e], rfl⟩
    · rintro ⟨r, h, _⟩
      rw [ev] at h
      by_cases e : u = a
      · exact e
      · rw [if_neg e] at h; cases h
theorem mem_pairs {A : Nat → List Nat} {L : List Nat} {p : Nat × Nat} : p ∈ pairsOf A L ↔ p.1 ∈ L ∧ p.2 ∈ A p.1 := by
  unfold pairsOf
  rw [List.mem_flatMap]
  constructor
  · rintro ⟨u, hu, h⟩
    obtain ⟨v, hv, rfl⟩ := List.mem_map.mp h
    exact ⟨hu, hv⟩
  · rintro ⟨h1, h2⟩
    exact ⟨p.1, h1, List.mem_map.mpr ⟨p.2, h2, rfl⟩⟩
theorem pairs_pw {N : NetD} {a t : Nat} {st : Ways × List Nat} (h : Lv N a t st) : (pairsOf (arcsOf N a) st.2).Pairwise fun q q' => lexlt (wayP st.1 q) (wayP st.1 q') := by
  unfold pairsOf
  rw [List.pairwise_flatMap]
  refine ⟨fun u hu => ?_, List.Pairwise.imp_of_mem (fun {u u'} hu hu' hr p hp q hq => ?_) h.ord⟩
  · exact List.Pairwise.map _ (fun v v' hv => lex_one hv _) (arcs_pw N a u)
  · obtain ⟨v, _, rfl⟩ := List.mem_map.mp hp
    obtain ⟨v', _, rfl⟩ := List.mem_map.mp hq
    obtain ⟨r, h1, _⟩ := (h.mem u).mp hu
    obtain ⟨r', h2, _⟩ := (h.mem u').mp hu'
    unfold wayP
    show lexlt ((st.1 u).getD [] ++ [v]) ((st.1 u').getD [] ++ [v'])
    rw [h1, h2]
    exact lex_app1 _ _ (hr r r' h1 h2)
theorem find_least {W : Ways} {v : Nat} {p q : Nat × Nat} : ∀ {l : List (Nat × Nat)}, l.Pairwise (fun q q' => lexlt (wayP W q) (wayP W q')) → (l.find? fun p => p.2 == v) = some p → q ∈ l → q.2 = v → q = p ∨ lexlt (wayP W p) (wayP W q)
  | [], _, h, _, _ => by cases h
  | x :: t, hs, h, hq, e => by
    rw [List.pairwise_cons] at hs
    rw [List.find?_cons] at h
    cases hx : x.2 == v with
    | true =>
      rw [hx] at h
      cases h
      rcases List.mem_cons.mp hq with z | z
      · exact .inl z
      · exact .inr (hs.1 q z)
    | false =>
      rw [hx] at h
      rcases List.mem_cons.mp hq with z | z
      · rw [z] at e
        rw [e, beq_self_eq_true] at hx
        cases hx
      · exact find_least hs.2 h z e
theorem lv_succ {N : NetD} {a t : Nat} (ha : a < N.ks.length) (h : Lv N a t (lev (arcsOf N a) a t)) : Lv N a (t + 1) (lev (arcsOf N a) a (t + 1)) := by
  generalize hst : lev (arcsOf N a) a t = st at h
  have e1 : lev (arcsOf N a) a (t + 1) = (pairsOf (arcsOf N a) st.2).foldl visitP (st.1, []) := by
    show levStep (arcsOf N a) (lev (arcsOf N a) a t) = _
    rw [hst]
    exact foldl_pairs _ _ _
  have hL : ∀ p ∈ pairsOf (arcsOf N a) st.2, ∃ r, st.1 p.1 = some r ∧ r.length = t + 1 := fun p hp => (h.mem p.1).mp (mem_pairs.mp hp).1
  have M : Mid st.1 (pairsOf (arcsOf N a) st.2) ((pairsOf (arcsOf N a) st.2).foldl visitP (st.1, [])) := by
    have := Mid.fold (pairsOf (arcsOf N a) st.2) [] (Mid.start st.1) (by rw [List.nil_append]; exact pairs_pw h) fun p hp => by
      obtain ⟨r, hr, _⟩ := hL p hp
      rw [hr]; rfl
    rw [List.nil_append] at this
    exact this
  rw [e1]
  generalize hs2 : (pairsOf (arcsOf N a) st.2).foldl visitP (st.1, []) = st2 at M
  have hpw := pairs_pw h
  -- a node that is not yet there is in no row that is as short
  have notin : ∀ v, st.1 v = none → ∀ r, Row N a r → r.length ≤ t + 1 → v ∉ r := fun v hv r hr hl m => by
    obtain ⟨x, x1, x2, x3⟩ := hr.pre v m
    have := h.all x x1 (by omega)
    rw [x2, hv] at this
    cases this
  -- a row one longer comes from a pair
  have from_ : ∀ x, Row N a x → x.length ≤ t + 2 → st.1 (lastN x) = none → ∃ y b, x = y ++ [b] ∧ y.length = t + 1 ∧ ∃ r', st.1 (lastN y) = some r' ∧ r'.length = t + 1 ∧ rle r' y ∧ (lastN y, b) ∈ pairsOf (arcsOf N a) st.2 := fun x hx hl hv => by
    have hlen : ¬ x.length ≤ t + 1 := fun z => by
      have := h.all x hx z
      rw [hv] at this
      cases this
    rcases hx.split with rfl | ⟨y, b, rfl, y1, y2, o, hb⟩
    · rw [List.length_singleton] at hlen; omega
    · rw [List.length_append, List.length_singleton] at hl hlen
      rw [lastN_app] at hv
      have yl : y.length = t + 1 := by omega
      obtain ⟨r', hr'⟩ := Option.isSome_iff_exists.mp (h.all y y1 (by omega))
      obtain ⟨w1, w2, w3, w4⟩ := h.row _ _ hr'
      have hle := w4 y y1 rfl
      have hu : lastN y = a ∨ host N (lastN y) = false := y2.imp (fun z => by rw [z]; rfl) id
      have hadj := (okb_mem o).2
      have hr'l : r'.length = t + 1 := by
        rcases Nat.lt_or_ge r'.length (t + 1) with z | z
        · exfalso
          have hbn : b ∉ r' := notin b hv r' w1 w3
          have hx2 : Row N a (r' ++ [b]) := by
            refine .ext w1 ?_ (okb_of hbn (by rw [w2]; exact hadj)) hb
            rcases hu with q | q
            · exact .inl (w1.back (by rw [w2]; exact q))
            · exact .inr (by rw [w2]; exact q)
          have := h.all _ hx2 (by rw [List.length_append, List.length_singleton]; omega)
          rw [lastN_app, hv] at this
          cases this
        · omega
      exact ⟨y, b, rfl, yl, r', hr', hr'l, hle, mem_pairs.mpr ⟨(h.mem _).mpr ⟨r', hr', hr'l⟩, mem_arcs.mpr ⟨hu, hb, hadj⟩⟩⟩
  refine ⟨fun v r hr => ?_, fun x hx hl => ?_, fun u => ?_, M.ord⟩
  · rw [M.val v] at hr
    cases e0 : st.1 v with
    | some r0 =>
      rw [e0] at hr
      cases hr
      obtain ⟨w1, w2, w3, w4⟩ := h.row v r e0
      exact ⟨w1, w2, by omega, w4⟩
    | none =>
      rw [e0] at hr
      obtain ⟨p, hp, rfl⟩ := Option.map_eq_some_iff.mp hr
      have hpm := List.mem_of_find?_eq_some hp
      have hp2 : p.2 = v := by
        have := List.find?_some hp
        exact beq_iff_eq.mp this
      obtain ⟨ru, hru, hrul⟩ := hL p hpm
      obtain ⟨w1, w2, w3, w4⟩ := h.row p.1 ru hru
      obtain ⟨c1, c2, c3⟩ := mem_arcs.mp (mem_pairs.mp hpm).2
      have ew : wayP st.1 p = ru ++ [v] := by
        unfold wayP
        rw [hru, hp2]
        rfl
      rw [ew]
      have hvn : v ∉ ru := notin v e0 ru w1 w3
      have hrow : Row N a (ru ++ [v]) := by
        refine .ext w1 ?_ (okb_of hvn (by rw [w2, ← hp2]; exact c3)) (by rw [← hp2]; exact c2)
        rcases c1 with q | q
        · exact .inl (w1.back (by rw [w2]; exact q))
        · exact .inr (by rw [w2]; exact q)
      refine ⟨hrow, lastN_app _ _, by rw [List.length_append, List.length_singleton]; omega, fun x hx hv => ?_⟩
      by_cases hl : x.length ≤ t + 2
      · obtain ⟨y, b, rfl, yl, r', hr', hr'l, hle, hpair⟩ := from_ x hx hl (by rw [hv]; exact e0)
        rw [lastN_app] at hv
        have ewq : wayP st.1 (lastN y, b) = r' ++ [b] := by
          unfold wayP
          rw [hr']
          rfl
        have key : rle (ru ++ [v]) (r' ++ [b]) := by
          rcases find_least hpw hp hpair hv with z | z
          · rw [← ew, ← ewq, z]
            exact .inl rfl
          · rw [ew, ewq] at z
            exact .inr (.inr ⟨by rw [List.length_append, List.length_append, hrul, hr'l]; rfl, z⟩)
        have key2 : rle (r' ++ [b]) (y ++ [b]) := by
          rcases hle with z | z | ⟨_, z⟩
          · rw [z]; exact .inl rfl
          · omega
          · exact .inr (.inr ⟨by rw [List.length_append, List.length_append, yl, hr'l], lex_app1 _ _ z⟩)
        rcases key with z | z
        · rw [z]; exact key2
        · rcases key2 with z2 | z2
          · rw [← z2]; exact .inr z
          · exact .inr (rlt_trans z z2)
      · refine .inr (.inl ?_)
        rw [List.length_append, List.length_singleton]
        omega
  · rw [M.val]
    cases e0 : st.1 (lastN x) with
    | some r0 => rfl
    | none =>
      obtain ⟨y, b, rfl, yl, r', hr', hr'l, hle, hpair⟩ := from_ x hx hl e0
      rw [lastN_app]
      show (Option.map (wayP st.1) _).isSome = true
      rw [Option.isSome_map, List.find?_isSome]
      exact ⟨_, hpair, beq_iff_eq.mpr rfl⟩
  · rw [M.mem u]
    constructor
    · rintro ⟨e0, e2⟩
      have hv := M.val u
      rw [e0] at hv
      rw [hv] at e2
      obtain ⟨r, hr⟩ := Option.isSome_iff_exists.mp e2
      refine ⟨r, by rw [hv]; exact hr, ?_⟩
      obtain ⟨p, hp, rfl⟩ := Option.map_eq_some_iff.mp hr
      obtain ⟨ru, hru, hrul⟩ := hL p (List.mem_of_find?_eq_some hp)
      unfold wayP
      rw [hru, List.length_append]
      show ru.length + 1 = _
      rw [hrul]
    · rintro ⟨r, hr, hrl⟩
      refine ⟨?_, by rw [hr]; rfl⟩
      cases e0 : st.1 u with
      | none => rfl
      | some r0 =>
        have hv := M.val u
        rw [e0] at hv
        rw [hv] at hr
        cases hr
        obtain ⟨_, _, w3, _⟩ := h.row u r e0
        omega
theorem lv_all {N : NetD} {a : Nat} (ha : a < N.ks.length) : ∀ t, Lv N a t (lev (arcsOf N a) a t)
  | 0 => lv_zero N a
  | t + 1 => lv_succ ha (lv_all ha t)
/-- no level is longer than there are nodes -/
theorem lev_stop {N : NetD} {a : Nat} (ha : a < N.ks.length) : (lev (arcsOf N a) a N.ks.length).2 = [] := by
  have h := lv_all ha N.ks.length
  cases e : (lev (arcsOf N a) a N.ks.length).2 with
  | nil => rfl
  | cons u t =>
    obtain ⟨r, hr, hl⟩ := (h.mem u).mp (by rw [e]; exact List.mem_cons_self)
    obtain ⟨w1, _⟩ := h.row u r hr
    have := nodup_lt N.ks.length r w1.nodup (w1.lt ha)
    omega
/-- a row between hosts has at most two nodes more than there are switches -/
theorem nodup_sub : ∀ {l m : List Nat}, l.Nodup → (∀ x ∈ l, x ∈ m) → l.length ≤ m.length
  | [], _, _, _ => Nat.zero_le _
  | x :: l, m, hd, hs => by
    rw [List.nodup_cons] at hd
    have hx := hs x List.mem_cons_self
    have ih := nodup_sub (l := l) (m := m.erase x) hd.2 fun y hy => (List.mem_erase_of_ne (fun z => hd.1 (by rw [← z]; exact hy))).mpr (hs y (List.mem_cons_of_mem _ hy))
    rw [List.length_erase_of_mem hx] at ih
    have := List.length_pos_of_mem hx
    rw [List.length_cons]
    omega
theorem count_range (p : Nat → Bool) (ks : List Bool) (off : Nat) (hp : ∀ i, i < ks.length → p (off + i) = !(ks.getD i true)) : ((List.range' off ks.length).filter p).length = ks.count false := by
  induction ks generalizing off with
  | nil => rfl
  | cons b r ih =>
    have h0 := hp 0 (by rw [List.length_cons]; omega)
    have h0 : p off = !b := h0
    have ih := ih (off + 1) fun i hi => by
      have := hp (i + 1) (by rw [List.length_cons]; omega)
      rw [show off + 1 + i = off + (i + 1) by omega, this]
      rfl
    rw [List.length_cons, List.range'_succ, List.filter_cons, List.count_cons, h0]
    cases b with
    | true =>
      show ((List.range' (off + 1) r.length).filter p).length = _
      rw [ih]
      rfl
    | false =>
      show ((List.range' (off + 1) r.length).filter p).length + 1 = _
      rw [ih]
      rfl
theorem switches_len (N : NetD) : ((List.range N.ks.length).filter fun a => !host N a).length = N.ks.count false := by
  rw [List.range_eq_range']
  refine count_range _ N.ks 0 fun i _ => ?_
  unfold host
  rw [Nat.zero_add]
/-- all but the first and the last are switches -/
theorem Row.inner {N : NetD} {a : Nat} {r : List Nat} (h : Row N a r) (ha : a < N.ks.length) : ∃ m, (r = [a] ∧ m = []) ∨ (∃ b, r = a :: (m ++ [b])) ∧ m.Nodup ∧ ∀ x ∈ m, x < N.ks.length ∧ host N x = false := by
  induction h with
  | start => exact ⟨[], .inl ⟨rfl, rfl⟩⟩
  | @ext r b h1 h2 o hb ih =>
    obtain ⟨m, z⟩ := ih
    rcases z with ⟨z, _⟩ | ⟨⟨c, z⟩, m1, m2⟩
    · exact ⟨[], .inr ⟨⟨b, by rw [z]; rfl⟩, List.nodup_nil, fun x hx => by cases hx⟩⟩
    · refine ⟨m ++ [c], .inr ⟨⟨b, by rw [z]; rfl⟩, ?_, ?_⟩⟩
      · have := h1.nodup
        rw [z, List.nodup_cons] at this
        exact this.2
      · intro x hx
        rcases List.mem_append.mp hx with q | q
        · exact m2 x q
        · rw [List.mem_singleton.mp q]
          have hl : lastN r = c := by
            rw [z]
            exact lastN_app (a :: m) c
          refine ⟨h1.lt ha c (by rw [z]; simp), ?_⟩
          rcases h2 with y | y
          · rw [z] at y
            have := congrArg List.length y
            rw [List.length_cons, List.length_append] at this
            simp at this
          · rw [← hl]; exact y
theorem Row.short {N : NetD} {a : Nat} {r : List Nat} (h : Row N a r) (ha : a < N.ks.length) : r.length ≤ N.ks.count false + 2 := by
  obtain ⟨m, z⟩ := h.inner ha
  rcases z with ⟨z, _⟩ | ⟨⟨b, z⟩, m1, m2⟩
  · rw [z, List.length_singleton]; omega
  · have := nodup_sub (m := (List.range N.ks.length).filter fun a => !host N a) m1 fun x hx => by
      obtain ⟨y1, y2⟩ := m2 x hx
      exact List.mem_filter.mpr ⟨List.mem_range.mpr y1, by rw [y2]; rfl⟩
    rw [switches_len] at this
    rw [z, List.length_cons, List.length_append, List.length_singleton]
    omega
/-- THE POINT: the search's way is the first row found -/
theorem way_is_found {N : NetD} {a b T : Nat} (ha : a < N.ks.length) (ha2 : host N a = true) (hb : host N b = true) (hab : a ≠ b) (hT : N.ks.count false + 1 ≤ T) : (lev (arcsOf N a) a N.ks.length).1 b = (foundOf N T).find? (matchP a b) := by
  have h := lv_all ha N.ks.length
  have two : ∀ x, Row N a x → lastN x = b → 2 ≤ x.length := fun x hx e => by
    rcases hx.split with rfl | ⟨y, c, rfl, y1, _⟩
    · exact absurd e hab
    · have := y1.pos
      rw [List.length_append, List.length_singleton]
      omega
  have inF : ∀ x, Row N a x → lastN x = b → x ∈ foundOf N T := fun x hx e => by
    have := hx.short ha
    exact (mem_found _ _).mpr ⟨a, ha, ha2, hx, two x hx e, by omega, by rw [e]; exact hb⟩
  cases e : (lev (arcsOf N a) a N.ks.length).1 b with
  | none =>
    symm
    rw [List.find?_eq_none]
    intro x hx m
    obtain ⟨c, _, _, h3, _⟩ := (mem_found _ _).mp hx
    obtain ⟨rfl, e2⟩ := matchP_row h3 m
    have := h.all x h3 (by have := nodup_lt N.ks.length x h3.nodup (h3.lt ha); omega)
    rw [e2, e] at this
    cases this
  | some r =>
    obtain ⟨w1, w2, w3, w4⟩ := h.row b r e
    symm
    refine find_first (found_pw T) (inF r w1 w2) (row_matchP w1 w2) fun x hx m => ?_
    obtain ⟨c, _, _, h3, _⟩ := (mem_found _ _).mp hx
    obtain ⟨rfl, e2⟩ := matchP_row h3 m
    exact w4 x h3 e2
end My
/-! Rows as data: ==, < of pairs (len(row), row). -/
namespace My
open PySem PySem.Spec PyProof.Rows L2
def dList (r : List Nat) : PyData := .list (r.map fun (n : Nat) => PyData.int (n : Int))
def dPair (r : List Nat) : PyData := .tuple [.int ((r.length : Nat) : Int), dList r]
theorem dp_ints {K : PySem.W.Frag} {H : Hp} : ∀ r : List Nat, DpAll K H (natsV r) (r.map fun (n : Nat) => PyData.int (n : Int))
  | [] => .nil
  | n :: r => .cons (.int _) (dp_ints r)
theorem dp_list {K : PySem.W.Frag} {H : Hp} {a : Addr} {r : List Nat} (h : SqL K H a (natsV r)) : Dp K H (.ref a) (dList r) := .lst h (dp_ints r)
theorem canLay_ints : ∀ r : List Nat, PyData.canLayAll0 (r.map fun (n : Nat) => PyData.int (n : Int)) = true
  | [] => rfl
  | n :: r => by
    rw [List.map_cons, PyData.canLayAll0, canLay_ints r]
    rfl
theorem depth_ints : ∀ r : List Nat, PyData.depthAll (r.map fun (n : Nat) => PyData.int (n : Int)) = 0
  | [] => by rw [List.map_nil, PyData.depthAll]
  | n :: r => by
    rw [List.map_cons, PyData.depthAll, depth_ints r, PyData.depth]
    rfl
theorem depth_list (r : List Nat) : (dList r).depth = 1 := by
  unfold dList
  rw [PyData.depth, depth_ints]
theorem shaped_list (r : List Nat) : SeqAt.shaped (dList r) = true := by
  unfold SeqAt.shaped
  rw [depth_list]
  unfold dList
  rw [PyData.canLay0, canLay_ints]
  rfl
theorem shaped_none : SeqAt.shaped PyData.none = true := by decide +kernel
theorem eqv_list (r : List Nat) : PyData.eqv (dList r) (dList r) = true := SeqAt.eqv_refl _ (SeqAt.canLay_of_shaped (shaped_list r))
theorem eqv_none : PyData.eqv PyData.none PyData.none = true := by rw [PyData.eqv]
theorem alike_ints : ∀ r x : List Nat, PySem.W.alikeAll (r.map fun (n : Nat) => PyData.int (n : Int)) (x.map fun (n : Nat) => PyData.int (n : Int)) = true
  | [], x => by rw [List.map_nil, PySem.W.alikeAll]
  | n :: r, [] => by
    rw [List.map_cons, List.map_nil]
    rw [PySem.W.alikeAll]
  | n :: r, y :: x => by
    rw [List.map_cons, List.map_cons, PySem.W.alikeAll, alike_ints r x, PySem.W.alike]
    rfl
theorem alike_pair (r x : List Nat) : PySem.W.alike (dPair r) (dPair x) = true := by
  unfold dPair dList
  rw [PySem.W.alike, PySem.W.alikeAll, PySem.W.alikeAll, PySem.W.alikeAll, PySem.W.alike, PySem.W.alike, alike_ints]
  rfl
theorem depth_pair (r : List Nat) : (dPair r).depth = 2 := by
  unfold dPair
  rw [PyData.depth, PyData.depthAll, PyData.depthAll, PyData.depthAll, depth_list, PyData.depth]
  rfl
theorem eqv_int (i j : Int) : PyData.eqv (.int i) (.int j) = (i == j) := by rw [PyData.eqv]
theorem alike_int (i j : Int) : PySem.W.alike (.int i) (.int j) = true := by rw [PySem.W.alike]
/-- lists of ints: the greater one is not less -/
theorem ints_nlt : ∀ {b x : List Nat}, lexlt b x → PyProof.Rows.lexLt PyProof.Rows.itemOrd (PySem.W.keyToksAll (x.map fun (n : Nat) => PyData.int (n : Int))) (PySem.W.keyToksAll (b.map fun (n : Nat) => PyData.int (n : Int))) = false
  | [], _, h => h.elim
  | _ :: _, [], h => h.elim
  | n :: b, y :: x, h => by
    rw [List.map_cons, List.map_cons]
    by_cases e : y = n
    · rw [PySem.W.dataLt_all_yes (alike_int _ _) (by rw [eqv_int, e]; exact beq_self_eq_true _)]
      rcases h with h | ⟨_, h⟩
      · omega
      · exact ints_nlt h
    · rw [PySem.W.dataLt_all_no (alike_int _ _) (by rw [eqv_int]; exact beq_eq_false_iff_ne.mpr (by omega)), PySem.W.dataLt_int]
      rcases h with h | ⟨z, _⟩
      · exact decide_eq_false (by omega)
      · exact absurd z.symm e
theorem lex_len : ∀ {b x : List Nat}, lexlt b x → b.length = x.length → PyData.eqvAll (x.map fun (n : Nat) => PyData.int (n : Int)) (b.map fun (n : Nat) => PyData.int (n : Int)) = false
  | [], _, h, _ => h.elim
  | _ :: _, [], h, _ => h.elim
  | n :: b, y :: x, h, hl => by
    rw [List.map_cons, List.map_cons, PyData.eqvAll, eqv_int]
    rcases h with h | ⟨e, h⟩
    · rw [show (((y : Nat) : Int) == (n : Int)) = false from beq_eq_false_iff_ne.mpr (by omega)]
      rfl
    · rw [lex_len h (by simpa using hl), Bool.and_false]
theorem pair_nlt {b x : List Nat} (h : rlt b x) : PySem.W.dataLt (dPair x) (dPair b) = false := by
  unfold dPair
  rw [PySem.W.dataLt_tuple]
  by_cases e : x.length = b.length
  · rw [PySem.W.dataLt_all_yes (alike_int _ _) (by rw [eqv_int, e]; exact beq_self_eq_true _)]
    rcases h with h | ⟨_, h⟩
    · omega
    · have al : PySem.W.alike (dList x) (dList b) = true := by
        unfold dList
        rw [PySem.W.alike]
        exact alike_ints x b
      have ev : PyData.eqv (dList x) (dList b) = false := by
        unfold dList
        rw [PyData.eqv]
        exact lex_len h e.symm
      rw [PySem.W.dataLt_all_no al ev]
      unfold dList
      rw [PySem.W.dataLt_list]
      exact ints_nlt h
  · rw [PySem.W.dataLt_all_no (alike_int _ _) (by rw [eqv_int]; exact beq_eq_false_iff_ne.mpr (by omega)), PySem.W.dataLt_int]
    rcases h with h | ⟨z, _⟩
    · exact decide_eq_false (by omega)
    · exact absurd z.symm e
end My
/-! == of lists of kinds, nodes, ports, lines as data. No row. -/
namespace My
open PySem PySem.Spec PyProof.Rows L2
structure Shp (n : Nat) (d : PyData) : Prop where
  c : d.canLay0 = true
  d : d.depth ≤ n
theorem Shp.shaped {n : Nat} {d : PyData} (h : Shp n d) (hn : n ≤ 64 := by decide) : SeqAt.shaped d = true := by
  unfold SeqAt.shaped
  rw [h.c, decide_eq_true (Nat.le_trans h.d hn)]
  rfl
theorem shp_int (i : Int) : Shp 0 (.int i) := ⟨by rw [PyData.canLay0], by rw [PyData.depth]; exact Nat.le_refl _⟩
theorem shp_kind (b : Bool) : Shp 0 (.str (if b then "host" else "switch")) := ⟨by rw [PyData.canLay0]; cases b <;> decide +kernel, by rw [PyData.depth]; exact Nat.le_refl _⟩
theorem shp_all {n : Nat} : ∀ {ds : List PyData}, (∀ d ∈ ds, Shp n d) → PyData.canLayAll0 ds = true ∧ PyData.depthAll ds ≤ n
  | [], _ => ⟨by rw [PyData.canLayAll0], by rw [PyData.depthAll]; exact Nat.zero_le _⟩
  | d :: r, h => by
    have h1 := h d List.mem_cons_self
    have h2 := shp_all (ds := r) fun x hx => h x (List.mem_cons_of_mem _ hx)
    refine ⟨by rw [PyData.canLayAll0, h1.c, h2.1]; rfl, by rw [PyData.depthAll]; exact Nat.max_le.mpr ⟨h1.d, h2.2⟩⟩
theorem shp_list {n : Nat} {ds : List PyData} (h : ∀ d ∈ ds, Shp n d) : Shp (n + 1) (.list ds) := ⟨by rw [PyData.canLay0]; exact (shp_all h).1, by rw [PyData.depth]; exact Nat.succ_le_succ (shp_all h).2⟩
theorem shp_tuple {n : Nat} {ds : List PyData} (h : ∀ d ∈ ds, Shp n d) : Shp (n + 1) (.tuple ds) := ⟨by rw [PyData.canLay0]; exact (shp_all h).1, by rw [PyData.depth]; exact Nat.succ_le_succ (shp_all h).2⟩
theorem shp_map {α : Type} {n : Nat} {f : α → PyData} {xs : List α} (h : ∀ x, Shp n (f x)) : ∀ d ∈ xs.map f, Shp n d := fun d hd => by
  obtain ⟨x, _, rfl⟩ := List.mem_map.mp hd
  exact h x
theorem eqv_map {α : Type} [DecidableEq α] (f : α → PyData) (h : ∀ x y, PyData.eqv (f x) (f y) = decide (x = y)) : ∀ xs ys : List α, PyData.eqvAll (xs.map f) (ys.map f) = decide (xs = ys)
  | [], [] => by rw [List.map_nil, PyData.eqvAll, decide_eq_true rfl]
  | [], y :: ys => by rw [List.map_nil, List.map_cons, PyData.eqvAll, decide_eq_false (by simp)]
  | x :: xs, [] => by rw [List.map_nil, List.map_cons, PyData.eqvAll, decide_eq_false (by simp)]
  | x :: xs, y :: ys => by
    rw [List.map_cons, List.map_cons, PyData.eqvAll, h, eqv_map f h xs ys, Bool.eq_iff_iff, Bool.and_eq_true, decide_eq_true_eq, decide_eq_true_eq, decide_eq_true_eq, List.cons.injEq]
theorem beq_dec (i j : Int) : (i == j) = decide (i = j) := by
  rw [Bool.eq_iff_iff, beq_iff_eq, decide_eq_true_eq]
/-! ### kinds -/
def dKind (b : Bool) : PyData := .str (if b then "host" else "switch")
def dKinds (ks : List Bool) : PyData := .list (ks.map dKind)
theorem eqv_kind (a b : Bool) : PyData.eqv (dKind a) (dKind b) = decide (a = b) := by
  unfold dKind
  rw [PyData.eqv]
  cases a <;> cases b <;> decide +kernel
theorem eqv_kinds (a b : List Bool) : PyData.eqv (dKinds a) (dKinds b) = decide (a = b) := by
  unfold dKinds
  rw [PyData.eqv, eqv_map dKind eqv_kind]
theorem shp_kinds (ks : List Bool) : Shp 1 (dKinds ks) := shp_list (shp_map shp_kind)
theorem dp_all {α : Type} {K : PySem.W.Frag} {H : Hp} (f : α → PyData) (g : α → V) (h : ∀ x, Dp K H (g x) (f x)) : ∀ xs : List α, DpAll K H (xs.map g) (xs.map f)
  | [] => .nil
  | x :: r => .cons (h x) (dp_all f g h r)
theorem dp_kinds {K : PySem.W.Frag} {H : Hp} {a : Addr} {ks : List Bool} (h : SqL K H a (ks.map kindV)) : Dp K H (.ref a) (dKinds ks) := .lst h (dp_all dKind kindV (fun _ => .str _) ks)
/-! ### nodes -/
theorem shp_nats (r : List Nat) : Shp 1 (dList r) := shp_list (shp_map (f := fun (n : Nat) => PyData.int (n : Int)) fun _ => shp_int _)
theorem eqv_nats (a b : List Nat) : PyData.eqv (dList a) (dList b) = decide (a = b) := by
  unfold dList
  rw [PyData.eqv, eqv_map (fun (n : Nat) => PyData.int (n : Int)) fun x y => by
    rw [eqv_int, beq_dec]
    by_cases e : x = y
    · rw [e, decide_eq_true rfl, decide_eq_true rfl]
    · rw [decide_eq_false e, decide_eq_false (by omega)]]
/-! ### ports -/
def portV (p : Nat × Nat) : List V := [.int (p.1 : Int), .int (p.2 : Int)]
def dPort (p : Nat × Nat) : PyData := .tuple [.int (p.1 : Int), .int (p.2 : Int)]
def dPorts (ps : List (Nat × Nat)) : PyData := .list (ps.map dPort)
theorem shp_port (p : Nat × Nat) : Shp 1 (dPort p) := shp_tuple fun d hd => by
  rcases List.mem_cons.mp hd with e | hd
  · rw [e]; exact shp_int _
  · rw [List.mem_singleton.mp hd]; exact shp_int _
theorem eqv_port (p q : Nat × Nat) : PyData.eqv (dPort p) (dPort q) = decide (p = q) := by
  obtain ⟨a, b⟩ := p
  obtain ⟨c, d⟩ := q
  unfold dPort
  rw [PyData.eqv, PyData.eqvAll, PyData.eqvAll, PyData.eqvAll, eqv_int, eqv_int, beq_dec, beq_dec, Bool.and_true, Bool.eq_iff_iff, Bool.and_eq_true, decide_eq_true_eq, decide_eq_true_eq, decide_eq_true_eq, Prod.mk.injEq]
  show ((a : Int) = (c : Int) ∧ (b : Int) = (d : Int)) ↔ _
  omega
theorem shp_ports (ps : List (Nat × Nat)) : Shp 2 (dPorts ps) := shp_list (shp_map shp_port)
theorem eqv_ports (a b : List (Nat × Nat)) : PyData.eqv (dPorts a) (dPorts b) = decide (a = b) := by
  unfold dPorts
  rw [PyData.eqv, eqv_map dPort eqv_port]
theorem dp_paired {α : Type} {K : PySem.W.Frag} {H : Hp} (f : α → PyData) {F : Addr → α → Prop} (h : ∀ t x, F t x → Dp K H (.ref t) (f x)) : ∀ {ts : List Addr} {xs : List α}, Paired F ts xs → DpAll K H (ts.map V.ref) (xs.map f)
  | _, _, .nil => .nil
  | _, _, .cons r t => .cons (h _ _ r) (dp_paired f h t)
theorem dp_port {K : PySem.W.Frag} {H : Hp} {t : Addr} {p : Nat × Nat} (h : SqT K H t (portV p)) : Dp K H (.ref t) (dPort p) := .tup h (.cons (.int _) (.cons (.int _) .nil))
theorem dp_ports {K : PySem.W.Frag} {H : Hp} {a : Addr} {ts : List Addr} {ps : List (Nat × Nat)} (h : SqL K H a (ts.map V.ref)) (p : PairsAt K H ts ps) : Dp K H (.ref a) (dPorts ps) := .lst h (dp_paired dPort (fun _ _ z => dp_port z) p)
/-! ### lines -/
def dLine (l : Nat × Nat × Int) : PyData := .tuple [.int (l.1 : Int), .int (l.2.1 : Int), .int l.2.2]
def dLines (ls : List (Nat × Nat × Int)) : PyData := .list (ls.map dLine)
theorem shp_line (l : Nat × Nat × Int) : Shp 1 (dLine l) := shp_tuple fun d hd => by
  rcases List.mem_cons.mp hd with e | hd
  · rw [e]; exact shp_int _
  · rcases List.mem_cons.mp hd with e | hd
    · rw [e]; exact shp_int _
    · rw [List.mem_singleton.mp hd]; exact shp_int _
theorem eqv_line (p q : Nat × Nat × Int) : PyData.eqv (dLine p) (dLine q) = decide (p = q) := by
  obtain ⟨a, b, x⟩ := p
  obtain ⟨c, d, y⟩ := q
  unfold dLine
  rw [PyData.eqv, PyData.eqvAll, PyData.eqvAll, PyData.eqvAll, PyData.eqvAll, eqv_int, eqv_int, eqv_int, beq_dec, beq_dec, beq_dec, Bool.and_true, Bool.eq_iff_iff, Bool.and_eq_true, Bool.and_eq_true, decide_eq_true_eq, decide_eq_true_eq, decide_eq_true_eq, decide_eq_true_eq, Prod.mk.injEq, Prod.mk.injEq]
  show ((a : Int) = (c : Int) ∧ (b : Int) = (d : Int) ∧ x = y) ↔ _
  omega
theorem shp_lines (ls : List (Nat × Nat × Int)) : Shp 2 (dLines ls) := shp_list (shp_map shp_line)
theorem eqv_lines (a b : List (Nat × Nat × Int)) : PyData.eqv (dLines a) (dLines b) = decide (a = b) := by
  unfold dLines
  rw [PyData.eqv, eqv_map dLine eqv_line]
theorem dp_lines {K : PySem.W.Frag} {H : Hp} {a : Addr} {ts : List Addr} {ls : List (Nat × Nat × Int)} (h : SqL K H a (ts.map V.ref)) (p : LinesAt K H ts ls) : Dp K H (.ref a) (dLines ls) := .lst h (dp_paired dLine (fun _ _ z => .tup z (.cons (.int _) (.cons (.int _) (.cons (.int _) .nil)))) p)
end My
/-! min(xs) of a list of ports: one of them. No row. -/
namespace My
open PySem PySem.Spec PyProof.Rows L2 PySem.W
theorem alike_port (p q : Nat × Nat) : PySem.W.alike (dPort p) (dPort q) = true := by
  unfold dPort
  rw [PySem.W.alike, PySem.W.alikeAll, PySem.W.alikeAll, PySem.W.alikeAll, PySem.W.alike, PySem.W.alike]
  rfl
def rMinPorts (K : PySem.W.Frag) : List V → Hp → VK → Prop := fun vs H Q => ∃ (a : Addr) (ts : List Addr) (ps : List (Nat × Nat)), vs = [V.ref a] ∧ SqL K H a (ts.map V.ref) ∧ PairsAt K H ts ps ∧ ps ≠ [] ∧ ∀ t ∈ ts, Q (.ref t) H
section
variable {X : Cx}
theorem cr_minPorts (hc : X.calm = true) (hu : X.A.units + 64 < cLine) : CallR X (.builtin "min") (rMinPorts X.K) := by
  intro pins s σ H vs us Q I r h
  obtain ⟨a, ts, ps, rfl, hs, hp, hne, q⟩ := h
  obtain ⟨its, rv, it, _⟩ := I.list hs
  obtain ⟨u, rfl, ru⟩ := r.one
  cases (show u = Value.ref a from ru)
  have hd : DpAll X.K H (ts.map V.ref) (ps.map dPort) := dp_paired dPort (fun _ _ z => dp_port z) hp
  obtain ⟨as, hr⟩ := Dp.readsAll I _ _ its hd rv
  cases ps with
  | nil => exact absurd rfl hne
  | cons p ps =>
    have mem : ∀ z, z ∈ (dPort p :: ps.map dPort) → ∃ q, z = dPort q := fun z hz => by
      obtain ⟨q, _, e⟩ := List.mem_map.mp (show z ∈ (p :: ps).map dPort from hz)
      exact ⟨q, e.symm⟩
    refine min_list_data (x := dPort p) (xs := ps.map dPort) (I.ok.hd hc) it.isList (by simpa using hr) ⟨fun x hx y hy => ?_, fun x hx => ?_⟩ ?_ fun k v h' tk bs hv hr' hk => ?_
    · obtain ⟨m, rfl⟩ := mem x hx
      obtain ⟨m', rfl⟩ := mem y hy
      exact alike_port _ _
    · obtain ⟨m, rfl⟩ := mem x hx
      intro z
      cases z
    · have d0 : PyData.depthAll (dPort p :: ps.map dPort) ≤ 1 := (shp_all fun d hd => by
        obtain ⟨m, rfl⟩ := mem d hd
        exact shp_port m).2
      omega
    · have hv' : its[k]? = some v := by simpa using hv
      have hkl : k < its.length := (List.getElem?_eq_some_iff.mp hv').1
      have hkt : k < (ts.map V.ref).length := by rw [rv.length]; exact hkl
      obtain ⟨u, hu', ru'⟩ := rv.get (List.getElem?_eq_getElem hkt)
      rw [hv'] at hu'
      cases Option.some.inj hu'
      have : (ts.map V.ref)[k] = .ref (ts[k]'(by rw [List.length_map] at hkt; exact hkt)) := List.getElem_map ..
      rw [this] at ru'
      exact ⟨.ref _, H, I.kept hk, ru', q _ (List.getElem_mem _)⟩
end
end My
/-! list(zip(xs, ys)) of two lists. No row. -/
namespace Zl
open PySem
/-- the zip at n + 4, its two iterators at n and n + 1, its tuples at n + 2, n + 3; a list grows at n + 5 -/
structure ZSt (n u v : Nat) (xs ys : Array Value) (h : Heap) (i : Nat) : Prop where
  pr : IsPair h (n + 2) (.ref n) (.ref (n + 1))
  a : h.IsListIter n u i
  b : h.IsListIter (n + 1) v i
  lx : h.IsList u xs
  ly : h.IsList v ys
  big : n + 5 < h.objs.size
  st : (IsZip h (n + 4) (n + 2) (n + 3) .none ∧ ∃ p q, IsPair h (n + 3) p q) ∨ ∃ (T : Addr) (f : Bool) (o : Obj), IsZipHeld h (n + 4) (n + 2) (n + 3) T f ∧ n + 5 < T ∧ h.get? T = some o
theorem ZSt.keep {n u v : Nat} {xs ys : Array Value} {h g : Heap} {i : Nat} (Z : ZSt n u v xs ys h i) (hu : u < n) (hv : v < n) (k : ∀ c o, c ≠ n + 5 → h.get? c = some o → g.get? c = some o) (sz : n + 5 < g.objs.size) : ZSt n u v xs ys g i := by
  have n1 : ∀ m : Nat, m < n + 5 → m ≠ n + 5 := fun m e => Nat.ne_of_lt e
  refine ⟨k _ _ (n1 _ (by omega)) Z.pr, Z.a.at fun o e => k _ o (n1 _ (by omega)) e, Z.b.at fun o e => k _ o (n1 _ (by omega)) e, Z.lx.at fun o e => k _ o (n1 _ (by omega)) e, Z.ly.at fun o e => k _ o (n1 _ (by omega)) e, sz, ?_⟩
  rcases Z.st with ⟨e1, p, q, e2⟩ | ⟨T, f, o, e1, e2, e3⟩
  · exact .inl ⟨k _ _ (n1 _ (by omega)) e1, p, q, k _ _ (n1 _ (by omega)) e2⟩
  · exact .inr ⟨T, f, o, k _ _ (n1 _ (by omega)) e1, e2, k _ _ (Nat.ne_of_gt e2) e3⟩
section
variable {prog : Program} {w : World} {A : Around} {E : Value → Shared → Prop} {s : Shared} {n u v : Nat} {xs ys : Array Value} {i : Nat}
theorem zst_item {x y : Value} {Q : Option Value → Shared → Prop} (hu : u < n) (hv : v < n) (Z : ZSt n u v xs ys s.heap i) (hx : xs[i]? = some x) (hy : ys[i]? = some y)
    (hQ : ∀ g, ZSt n u v xs ys g (i + 1) → IsPair g s.heap.objs.size x y → g.objs.size = s.heap.objs.size + 1 → (∀ c o, (c < n ∨ n + 5 ≤ c) → s.heap.get? c = some o → g.get? c = some o) → Q (some (.ref s.heap.objs.size)) { s with heap := g }) :
    wpAny (model prog w) A (pyNext (.ref (n + 4))) Q E s := by
  have D := PySem.W.ktu_apart n u v hu hv
  have big := Z.big
  have nn : ∀ {a b : Nat}, a < b ∨ b < a → a ≠ b := fun h e => by omega
  rcases Z.st with ⟨e1, p, q, e2⟩ | ⟨T, f, o, e1, e2, e3⟩
  · refine wpAny_pyNext_zip_item D e1 Z.pr e2 Z.a Z.b Z.lx Z.ly hx hy fun g g1 g2 g3 g4 g5 g6 k => ?_
    have k' : ∀ c o, (c < n ∨ n + 5 ≤ c) → s.heap.get? c = some o → g.get? c = some o := fun c o hc e => k c o (nn (by omega)) (nn (by omega)) (nn (by omega)) (nn (by omega)) e
    refine hQ g ⟨k _ _ (nn (by omega)) (nn (by omega)) (nn (by omega)) (nn (by omega)) Z.pr, g3, g4, Z.lx.at fun o e => k' _ o (.inl hu) e, Z.ly.at fun o e => k' _ o (.inl hv) e, by omega, .inr ⟨s.heap.objs.size, false, _, g1, big, g5⟩⟩ g5 g6 k'
  · refine wpAny_pyNext_zip_item_held D e1 e3 Z.pr Z.a Z.b Z.lx Z.ly hx hy fun g g1 g3 g4 g5 g6 k => ?_
    have k' : ∀ c o, (c < n ∨ n + 5 ≤ c) → s.heap.get? c = some o → g.get? c = some o := fun c o hc e => k c o (nn (by omega)) (nn (by omega)) (nn (by omega)) e
    refine hQ g ⟨k _ _ (nn (by omega)) (nn (by omega)) (nn (by omega)) Z.pr, g3, g4, Z.lx.at fun o e => k' _ o (.inl hu) e, Z.ly.at fun o e => k' _ o (.inl hv) e, by omega, .inr ⟨T, true, o, g1, e2, k' _ _ (.inr (by omega)) e3⟩⟩ g5 g6 k'
theorem zst_end {Q : Option Value → Shared → Prop} (hh : A.handled = none) (hu : u < n) (hv : v < n) (Z : ZSt n u v xs ys s.heap i) (hx : xs[i]? = none ∨ ys[i]? = none)
    (hQ : ∀ g, (∀ c o, (c < n ∨ n + 5 ≤ c) → s.heap.get? c = some o → g.get? c = some o) → Q none { s with heap := g }) : wpAny (model prog w) A (pyNext (.ref (n + 4))) Q E s := by
  have D := PySem.W.ktu_apart n u v hu hv
  have nn : ∀ {a b : Nat}, a < b ∨ b < a → a ≠ b := fun h e => by omega
  rcases Z.st with ⟨e1, p, q, e2⟩ | ⟨T, f, o, e1, e2, e3⟩
  · exact wpAny_pyNext_zip_end hh D e1 Z.pr e2 Z.a Z.b Z.lx Z.ly hx fun g k => hQ g fun c o hc e => k c o (nn (by omega)) (nn (by omega)) (nn (by omega)) (nn (by omega)) e
  · exact wpAny_pyNext_zip_end_held hh D e1 e3 Z.pr Z.a Z.b Z.lx Z.ly hx fun g k => hQ g fun c o hc e => k c o (nn (by omega)) (nn (by omega)) (nn (by omega)) e
end
/-- the tuples given out so far -/
structure Got (n : Nat) (xs ys : Array Value) (h : Heap) (ts : List Addr) : Prop where
  up : ts.Pairwise (· < ·)
  hi : ∀ t ∈ ts, n + 5 < t
  at_ : ∀ (j : Nat) (t : Addr), ts[j]? = some t → ∃ x y, xs[j]? = some x ∧ ys[j]? = some y ∧ IsPair h t x y
theorem Got.in_ {n : Nat} {xs ys : Array Value} {h : Heap} {ts : List Addr} (G : Got n xs ys h ts) {t : Addr} (ht : t ∈ ts) : t < h.objs.size := by
  obtain ⟨j, hj⟩ := List.mem_iff_getElem?.mp ht
  obtain ⟨_, _, _, _, e⟩ := G.at_ j t hj
  exact Heap.lt_size e
abbrev LstObj (acc : Array Value) (c : Nat) : Obj := { cls := .type "list", dict := none, data := .seq acc c, slots := #[] }
section
variable {prog : Program} {w : World} {A : Around} {s : Shared} {R : Result → Shared → Prop} {n u v : Nat} {xs ys : Array Value}
theorem loop {m : Nat} (hm : m = min xs.size ys.size) (hh : A.handled = none) (hu : u < n) (hv : v < n) (hmm : m ≤ sizeLine) (res : Value) {h₁ : Heap}
    (hR : ∀ g tk acc c ts, (∀ b o, b < n → h₁.get? b = some o → g.get? b = some o) → g.get? (n + 5) = some (LstObj acc c) → ts.length = m → Got n xs ys g ts → acc.toList = ts.map Value.ref → R (.ok (.ret res)) { s with heap := g, toks := tk }) :
    ∀ (k i : Nat) (h : Heap) (tk c : Nat) (acc : Array Value) (ts : List Addr), m - i = k → i ≤ m → ZSt n u v xs ys h i → (∀ b o, b < n → h₁.get? b = some o → h.get? b = some o) → h.get? (n + 5) = some (LstObj acc c) → acc.toList = ts.map Value.ref → ts.length = i → Got n xs ys h ts →
      codeAny (model prog w) A (.builtin "list.extend.loop" ⟨[.ref (n + 5), .ref (n + 4), res], []⟩) R { s with heap := h, toks := tk } := by
  intro k
  induction k with
  | zero =>
    intro i h tk c acc ts hk hi Z keep hS ha hl G
    refine codeAny_builtin PySem.F.entry_extend_loop ?_
    rw [Around.under_plainId PySem.F.plain_extend_loop _]
    refine wpAny_bind (zst_end (s := { s with heap := h, toks := tk }) (A := A.in1) hh hu hv Z ?_ fun g kk => ?_)
    · rcases Nat.le_total xs.size ys.size with z | z
      · exact .inl (Array.getElem?_eq_none (by omega))
      · exact .inr (Array.getElem?_eq_none (by omega))
    · refine wpAny_pure (hR g tk acc c ts (fun b o hb e => kk b o (.inl hb) (keep b o hb e)) (kk _ _ (.inr (Nat.le_refl _)) hS) (by omega) ⟨G.up, G.hi, fun j t hj => ?_⟩ ha)
      obtain ⟨x, y, e1, e2, e3⟩ := G.at_ j t hj
      exact ⟨x, y, e1, e2, kk _ _ (.inr (Nat.le_of_lt (G.hi t (List.mem_of_getElem? hj)))) e3⟩
  | succ k ih =>
    intro i h tk c acc ts hk hi Z keep hS ha hl G
    have h1 : i < xs.size := by omega
    have h2 : i < ys.size := by omega
    have sz : acc.size = i := by rw [← Array.length_toList, ha, List.length_map, hl]
    have big := Z.big
    refine codeAny_builtin PySem.F.entry_extend_loop ?_
    rw [Around.under_plainId PySem.F.plain_extend_loop _]
    refine wpAny_bind (zst_item (s := { s with heap := h, toks := tk }) hu hv Z (Array.getElem?_eq_getElem h1) (Array.getElem?_eq_getElem h2) fun g Z' hp hz kk => ?_)
    dsimp only at hp hz kk ⊢
    have hS' := kk _ _ (.inr (Nat.le_refl _)) hS
    have up : ∀ b o, b ≠ n + 5 → g.get? b = some o → (g.update (n + 5) (Obj.mapSeq (·.push (Value.ref h.objs.size)))).get? b = some o := fun b o hb e => (Heap.get?_update_other _ _ (Ne.symm hb)).trans e
    have at5 : (g.update (n + 5) (Obj.mapSeq (·.push (Value.ref h.objs.size)))).get? (n + 5) = some (LstObj (acc.push (Value.ref h.objs.size)) _) := Heap.get?_update_self _ hS' rfl
    refine wpAny_bind (wpAny_updateSeq hS' rfl (wpAny_pure ⟨plainId_quiet PySem.F.plain_extend_loop _, ih (i + 1) _ tk _ (acc.push (Value.ref h.objs.size)) (ts ++ [h.objs.size]) (by omega) (by omega)
      (Z'.keep hu hv up (Heap.lt_size at5)) (fun b o hb e => up b o (by omega) (kk b o (.inl hb) (keep b o hb e))) at5 (by rw [Array.toList_push, ha, List.map_append]; rfl) (by rw [List.length_append, hl]; rfl) ⟨?_, ?_, ?_⟩⟩) (by rw [sz]; omega) (by show (acc.push _).size ≤ sizeLine + 1; rw [Array.size_push, sz]; omega))
    · refine List.pairwise_append.mpr ⟨G.up, List.pairwise_singleton _ _, fun t ht b hb => ?_⟩
      rw [List.mem_singleton.mp hb]
      exact G.in_ ht
    · intro t ht
      rcases List.mem_append.mp ht with z | z
      · exact G.hi t z
      · rw [List.mem_singleton.mp z]; exact big
    · intro j t hj
      by_cases hjl : j < ts.length
      · rw [List.getElem?_append_left hjl] at hj
        obtain ⟨x, y, e1, e2, e3⟩ := G.at_ j t hj
        have ht := G.hi t (List.mem_of_getElem? hj)
        exact ⟨x, y, e1, e2, up _ _ (Nat.ne_of_gt ht) (kk _ _ (.inr (Nat.le_of_lt ht)) e3)⟩
      · have hj2 : j = ts.length := by
          have := (List.getElem?_eq_some_iff.mp hj).1
          rw [List.length_append, List.length_singleton] at this
          omega
        subst hj2
        have ht : h.objs.size = t := by simpa using hj
        subst ht
        exact ⟨_, _, by rw [hl]; exact Array.getElem?_eq_getElem h1, by rw [hl]; exact Array.getElem?_eq_getElem h2, up _ _ (Nat.ne_of_gt big) hp⟩
theorem no_len : typeLookup (.type "zip") "__len__" = pure none := by rw [typeLookup_type, builtinLookup_eq_fast]; kernel_rfl
theorem no_hint : typeLookup (.type "zip") "__length_hint__" = pure none := by rw [typeLookup_type, builtinLookup_eq_fast]; kernel_rfl
end
section
variable {prog : Program} {w : World} {A : Around} {E : Value → Shared → Prop} {s : Shared} {u v : Nat} {xs ys : Array Value}
theorem hint {z : Addr} (hT : s.TypeIs (.ref z) "zip") {Q : Bool → Shared → Prop} (h : Q true s) : wpAny (model prog w) A (Builtin.List.listLengthHint (.ref z)) Q E s := by
  unfold Builtin.List.listLengthHint
  refine wpAny_bind (wpAny_specialOf hT no_len ?_)
  show wpAny _ _ (specialOf (Value.ref z) (Str.ofString "__length_hint__") >>= _) _ _ _
  exact wpAny_bind (wpAny_specialOf hT no_hint (wpAny_pure h))
/-- list(z), z the zip that was just made of the lists at u and v -/
theorem call_list {n : Nat} {Q : Value → Shared → Prop} (hh : A.handled = none) (hsz : s.heap.objs.size = n + 5) (hu : u < n) (hv : v < n) (hz : IsZip s.heap (n + 4) (n + 2) (n + 3) .none) (hp : IsPair s.heap (n + 2) (.ref n) (.ref (n + 1))) (hq : ∃ p q, IsPair s.heap (n + 3) p q)
    (ha : s.heap.IsListIter n u 0) (hb : s.heap.IsListIter (n + 1) v 0) (hx : s.heap.IsList u xs) (hy : s.heap.IsList v ys) (hmm : min xs.size ys.size ≤ sizeLine)
    (hQ : ∀ g tk acc c ts, (∀ b o, b < n → s.heap.get? b = some o → g.get? b = some o) → g.get? (n + 5) = some (LstObj acc c) → ts.length = min xs.size ys.size → Got n xs ys g ts → acc.toList = ts.map Value.ref → Q (.ref (n + 5)) { s with heap := g, toks := tk }) :
    wpAny (model prog w) A (call (.type "list") [.ref (n + 4)]) Q E s := by
  refine callType_codes (Q₁ := fun obj s₁ => obj = .ref (n + 5) ∧ s₁ = { s with heap := s.heap.push (LstObj #[] 0) }) PySem.F.called_list (PySem.F.typeCall_list_1 _) PySem.F.entry_list_init (code_list_new _ ⟨by rw [hsz], rfl⟩) fun obj s₁ e => ?_
  obtain ⟨rfl, rfl⟩ := e
  have hS : (s.heap.push (LstObj #[] 0)).get? (n + 5) = some (LstObj #[] 0) := by rw [← hsz]; exact Heap.get?_push_size _ rfl
  have old : ∀ b o, s.heap.get? b = some o → (s.heap.push (LstObj #[] 0)).get? b = some o := fun b o e => Heap.get?_push_of_some _ e
  refine ⟨⟨_, hS, rfl⟩, PySem.F.args_list_init_2 _ _, ?_⟩
  show wpAny _ _ (Builtin.List.listItems (.ref (n + 5)) >>= _) _ _ _
  refine wpAny_bind ?_
  unfold Builtin.List.listItems
  refine wpAny_bind (wpAny_seqItems hS rfl (wpAny_pure ?_))
  show wpAny _ _ (updateSeq (n + 5) (fun _ => #[]) >>= fun _ => letGo (#[] : Array Value).toList.reverse >>= fun _ => Builtin.List.listExtendWith (.ref (n + 5)) (.ref (n + 4)) .none) _ _ _
  refine wpAny_bind (wpAny_updateSeq hS rfl ?_)
  have hS2 := Heap.get?_update_self (Obj.mapSeq (fun _ => (#[] : Array Value))) hS rfl
  have old2 : ∀ b o, b ≠ n + 5 → s.heap.get? b = some o → ((s.heap.push (LstObj #[] 0)).update (n + 5) (Obj.mapSeq (fun _ => (#[] : Array Value)))).get? b = some o := fun b o hb e => (Heap.get?_update_other _ _ (Ne.symm hb)).trans (old b o e)
  generalize ((s.heap.push (LstObj #[] 0)).update (n + 5) (Obj.mapSeq (fun _ => (#[] : Array Value)))) = h2 at hS2 old2 ⊢
  refine wpAny_bind (wpAny_letGo ?_)
  unfold Builtin.List.listExtendWith
  have ne4 : n + 4 ≠ n + 5 := by omega
  have hz2 : IsZip h2 (n + 4) (n + 2) (n + 3) .none := old2 _ _ ne4 hz
  refine wpAny_bind (wpAny_typeOf (T := "zip") ⟨_, hz2, rfl⟩ ?_)
  have q1 : Builtin.List.listSameRef (.ref (n + 5)) (.ref (n + 4)) = false := by simp [Builtin.List.listSameRef]
  have q2 : (Value.type "zip" == Value.type "list") = false := by decide
  have q3 : (Value.type "zip" == Value.type "tuple") = false := by decide
  simp only [q1, q2, q3, Bool.or_false, Bool.false_eq_true, if_false]
  refine wpAny_bind (wpAny_pyIter_zip hz2 (wpAny_bind (wpAny_holding (hint ⟨_, hz2, rfl⟩ ?_))))
  simp only [Bool.true_or, if_true]
  refine wpAny_bind (wpAny_rule ?_)
  refine wpAny_bind ?_
  show wpAny _ _ (updateSeq (n + 5) (·.push .none) >>= fun _ => updateSeq (n + 5) (·.pop)) _ _ _
  refine wpAny_bind (wpAny_updateSeq hS2 rfl ?_)
  have hS3 := Heap.get?_update_self (Obj.mapSeq (·.push Value.none)) hS2 rfl
  refine wpAny_updateSeq (hz := by seq_fits) hS3 rfl ?_
  have hS4 := Heap.get?_update_self (Obj.mapSeq (·.pop)) hS3 rfl
  have old4 : ∀ b o, b ≠ n + 5 → s.heap.get? b = some o → ((h2.update (n + 5) (Obj.mapSeq (·.push Value.none))).update (n + 5) (Obj.mapSeq (·.pop))).get? b = some o := fun b o hb e => (Heap.get?_update_other _ _ (Ne.symm hb)).trans ((Heap.get?_update_other _ _ (Ne.symm hb)).trans (old2 b o hb e))
  generalize ((h2.update (n + 5) (Obj.mapSeq (·.push Value.none))).update (n + 5) (Obj.mapSeq (·.pop))) = h4 at hS4 old4 ⊢
  have nn : ∀ b, b < n + 5 → b ≠ n + 5 := fun b e => Nat.ne_of_lt e
  obtain ⟨p, q, hq⟩ := hq
  refine wpAny_pure ⟨plainId_quiet PySem.F.plain_extend_loop _, loop (A := A.in1) (s := s) (R := wants (fun r s₂ => r = .none ∧ Q (.ref (n + 5)) s₂) E) (h₁ := s.heap) (m := min xs.size ys.size) rfl hh hu hv hmm .none (fun g tk acc c ts k e1 e2 e3 e4 => ⟨rfl, hQ g tk acc c ts k e1 e2 e3 e4⟩) (min xs.size ys.size) 0 h4 s.toks _ #[] [] (Nat.sub_zero _) (Nat.zero_le _)
    ⟨old4 _ _ (nn _ (by omega)) hp, ha.at fun o e => old4 _ o (nn _ (by omega)) e, hb.at fun o e => old4 _ o (nn _ (by omega)) e, hx.at fun o e => old4 _ o (nn _ (by omega)) e, hy.at fun o e => old4 _ o (nn _ (by omega)) e, Heap.lt_size hS4, .inl ⟨old4 _ _ ne4 hz, p, q, old4 _ _ (nn _ (by omega)) hq⟩⟩
    (fun b o hb e => old4 b o (nn _ (by omega)) e) hS4 rfl rfl ⟨List.Pairwise.nil, (fun t ht => by cases ht), fun j t hj => by simp at hj⟩⟩
end
end Zl
/-! list(zip(xs, ys)) as a rule of the hand layer. No row. -/
namespace Zl
open PySem PySem.Spec PyProof.Rows L2
def lay : Hp → List Addr → List (V × V) → Hp
  | H, t :: ts, z :: zs => lay (upd H t (.tup [z.1, z.2])) ts zs
  | H, _, _ => H
theorem lay_out {b : Addr} : ∀ (ts : List Addr) (zs : List (V × V)) (H : Hp), b ∉ ts → lay H ts zs b = H b
  | [], _, _, _ => rfl
  | _ :: _, [], _, _ => rfl
  | t :: ts, z :: zs, H, h => by
    rw [List.mem_cons, not_or] at h
    show lay (upd H t _) ts zs b = H b
    rw [lay_out ts zs _ h.2, upd_ne h.1]
theorem lay_in : ∀ (ts : List Addr) (zs : List (V × V)) (H : Hp), ts.length = zs.length → ts.Nodup → Paired (fun (t : Addr) (z : V × V) => lay H ts zs t = some (.tup [z.1, z.2])) ts zs
  | [], [], _, _, _ => .nil
  | [], _ :: _, _, h, _ => by cases h
  | _ :: _, [], _, h, _ => by cases h
  | t :: ts, z :: zs, H, h, hn => by
    rw [List.nodup_cons] at hn
    refine .cons ?_ (lay_in ts zs (upd H t (.tup [z.1, z.2])) (Nat.succ.inj h) hn.2)
    show lay (upd H t (.tup [z.1, z.2])) ts zs t = _
    rw [lay_out ts zs _ hn.1, upd_same]
theorem refs_vals : ∀ ts : List Addr, Vals (ts.map V.ref) (ts.map Value.ref)
  | [] => .nil
  | _ :: r => .cons rfl (refs_vals r)
theorem pair_mem {F : Addr → V × V → Prop} : ∀ {ts : List Addr} {zs : List (V × V)}, Paired F ts zs → ∀ {t : Addr}, t ∈ ts → ∃ (j : Nat) (z : V × V), ts[j]? = some t ∧ zs[j]? = some z ∧ F t z
  | _, _, .cons h r, t, ht => by
    rcases List.mem_cons.mp ht with e | ht
    · rw [e]; exact ⟨0, _, rfl, rfl, h⟩
    · obtain ⟨j, z, e1, e2, e3⟩ := pair_mem r ht
      exact ⟨j + 1, z, e1, e2, e3⟩
def tListZip (K : PySem.W.Frag) (ta : TA) : TE := fun σ H Q => ta σ H fun vs H1 => ∃ (a b : Addr) (xs ys : List V), vs = [.ref a, .ref b] ∧ SqL K H1 a xs ∧ SqL K H1 b ys ∧
  ∀ (H' : Hp) (p : Addr) (ts : List Addr), Same H1 H' → H1 p = none → H' p = some (.lst (ts.map V.ref)) → Paired (fun (t : Addr) (z : V × V) => H' t = some (.tup [z.1, z.2])) ts (xs.zip ys) → Q (.ref p) H'
section
variable {X : Cx}
theorem laid {pins : List (Addr × Obj)} {σ : L2.St} {H : Hp} {s : Shared} {g : Heap} {tk : Nat} {xs ys : List V} {us vs : List Value} {acc : Array Value} {c : Nat} {ts : List Addr} (I : Inv X pins σ H s) (hz : xs.length ≤ sizeLine) (rx : Vals xs us) (ry : Vals ys vs)
    (k : ∀ b o, b < s.heap.objs.size → s.heap.get? b = some o → g.get? b = some o) (hS : g.get? (s.heap.objs.size + 5) = some (LstObj acc c)) (hl : ts.length = min us.toArray.size vs.toArray.size) (G : Got s.heap.objs.size us.toArray vs.toArray g ts) (ha : acc.toList = ts.map Value.ref) :
    ∃ H' : Hp, Same H H' ∧ H (s.heap.objs.size + 5) = none ∧ H' (s.heap.objs.size + 5) = some (.lst (ts.map V.ref)) ∧ Paired (fun (t : Addr) (z : V × V) => H' t = some (.tup [z.1, z.2])) ts (xs.zip ys) ∧ Inv X pins σ H' { s with heap := g, toks := tk } := by
  have lx : xs.length = us.length := rx.length
  have ly : ys.length = vs.length := ry.length
  have lz : ts.length = (xs.zip ys).length := by rw [List.length_zip, lx, ly, hl, List.size_toArray, List.size_toArray]
  have nd : ts.Nodup := G.up.imp fun h => Nat.ne_of_lt h
  have pS : s.heap.objs.size + 5 ∉ ts := fun m => Nat.lt_irrefl _ (G.hi _ m)
  have new : ∀ {b : Addr}, s.heap.objs.size ≤ b → H b = none := fun h => I.hok.fresh h
  have gt : ∀ t ∈ ts, s.heap.objs.size ≤ t := fun t m => by have := G.hi t m; omega
  have old : ∀ b o, s.heap.get? b = some o → b ∉ ts ∧ b ≠ s.heap.objs.size + 5 ∧ g.get? b = some o := fun b o e => by
    have lt : b < s.heap.objs.size := Heap.lt_size e
    exact ⟨fun m => absurd (gt b m) (Nat.not_le.mpr lt), Nat.ne_of_lt (Nat.lt_of_lt_of_le lt (Nat.le_add_right _ _)), k b o lt e⟩
  have inn := lay_in ts (xs.zip ys) (upd H (s.heap.objs.size + 5) (.lst (ts.map V.ref))) lz nd
  have out : ∀ b, b ∉ ts → b ≠ s.heap.objs.size + 5 → lay (upd H (s.heap.objs.size + 5) (.lst (ts.map V.ref))) ts (xs.zip ys) b = H b := fun b h1 h2 => by rw [lay_out ts _ _ h1, upd_ne h2]
  have sm : Same H (lay (upd H (s.heap.objs.size + 5) (.lst (ts.map V.ref))) ts (xs.zip ys)) := fun b o e => by
    rw [out b (fun m => by rw [new (gt b m)] at e; cases e) fun z => by rw [z, new (Nat.le_add_right _ _)] at e; cases e]
    exact e
  have eS : lay (upd H (s.heap.objs.size + 5) (.lst (ts.map V.ref))) ts (xs.zip ys) (s.heap.objs.size + 5) = some (.lst (ts.map V.ref)) := by rw [lay_out ts _ _ pS, upd_same]
  generalize lay (upd H (s.heap.objs.size + 5) (.lst (ts.map V.ref))) ts (xs.zip ys) = H' at inn out sm eS
  have kg : ∀ b o, s.heap.get? b = some o → g.get? b = some o := fun b o e => (old b o e).2.2
  have un : Un (frs X.stack) [] H H' s.heap g :=
    { keep := fun b o q _ _ _ => kg b o q, slot := fun b o q _ _ _ => ⟨o.slots, kg b o q⟩, free := fun b o q h _ => by rw [out b (old b o q).1 (old b o q).2.1]; exact h,
      there := fun b o q _ => ⟨o, kg b o q⟩, tups := fun b _ q => sm b _ q, frzs := fun b _ _ q => sm b _ q, tbls := fun b ps q => ⟨#[], by rw [sm b _ q, Array.append_empty]⟩ }
  have hok : HOk X.prog X.w H' g := fun b u q => by
    by_cases hb : b ∈ ts
    · obtain ⟨j, z, e1, e2, e3⟩ := pair_mem inn hb
      rw [e3] at q
      cases q
      obtain ⟨x, y, f1, f2, f3⟩ := G.at_ j b e1
      obtain ⟨w1, w2⟩ := List.getElem?_zip_eq_some.mp e2
      obtain ⟨ux, g1, g2⟩ := rx.get w1
      obtain ⟨uy, g3, g4⟩ := ry.get w2
      have g1' : us.toArray[j]? = some ux := by simpa using g1
      have g3' : vs.toArray[j]? = some uy := by simpa using g3
      rw [f1] at g1'
      rw [f2] at g3'
      cases g1'
      cases g3'
      exact ⟨by show 2 ≤ sizeLine; decide, [x, y], .cons g2 (.cons g4 .nil), ⟨_, f3, rfl, _, rfl⟩⟩
    · by_cases h5 : b = s.heap.objs.size + 5
      · subst h5
        rw [eS] at q
        cases q
        refine ⟨by rw [List.length_map, lz, List.length_zip]; omega, acc.toList, c, by rw [ha]; exact refs_vals ts, ?_⟩
        rw [Array.toArray_toList]
        exact hS
      · rw [out b hb h5] at q
        exact (I.hok b u q).stay (fun d v _ y => kg d v y) (fun d y => sm d _ y) fun d _ y => sm d _ y
  exact ⟨H', sm, new (Nat.le_add_right _ _), eS, inn, I.call' (ch := []) rfl un hok I.bare fun b z => by cases z⟩
theorem pe_listZip {e1 e2 : Expr} {ta : TA} {p q cpos pos : Pos} (hc : X.calm = true) (ha : PA X [e1, e2] ta) (hg : Gl X "list") (hm : X.mg "list" = none) (hgz : Gl X "zip") (hmz : X.mg "zip" = none)
    (h1 : starEach [.Call (.Name "zip" q) [e1, e2] [] cpos] X.env = (false, eval (.Call (.Name "zip" q) [e1, e2] [] cpos) X.env) :: starEach [] X.env := by rfl)
    (h2 : starEach [e1, e2] X.env = (false, eval e1 X.env) :: starEach [e2] X.env := by rfl) (h3 : (backTo cpos (starEach [e2] X.env)).any (·.1) = false := by rfl) :
    PE X (.Call (.Name "list" p) [.Call (.Name "zip" q) [e1, e2] [] cpos] [] pos) (tListZip X.K ta) := by
  refine ⟨fun pins s σ H Q I h => ?_⟩
  refine wpAny_Call_Name_kw (ld_blt I hg hm PyProof.Rows.boot_list ?_)
  refine PyProof.Rows.callWith_type1 ?_ h1 rfl
  rw [h1]
  refine Calls.spliced_cons ?_
  refine Call_ (ld_blt I hgz hmz PyProof.Rows.boot_zip (PyProof.Rows.callWith_type1 (thn (ha.run cpos pins s σ H _ I h) fun us s1 ⟨vs, H1, I1, r1, z⟩ => ?_) h2 h3))
  obtain ⟨a, b, xs, ys, rfl, hx, hy, z⟩ := z
  cases r1 with
  | cons r rr =>
    cases rr with
    | cons r' rr =>
      cases rr
      cases r
      cases r'
      obtain ⟨its, rx, px, lx⟩ := I1.list hx
      obtain ⟨jts, ry, py, ly⟩ := I1.list hy
      refine call_zip_2 px.isList py.isList fun g hz hTI hTO i1 i2 hsz hk => ?_
      refine Calls.spliced_nil ?_
      have lim : min its.toArray.size jts.toArray.size ≤ sizeLine := by
        have e : its.length = xs.length := rx.length.symm
        rw [List.size_toArray, e]
        exact Nat.le_trans (Nat.min_le_left _ _) lx
      refine call_list (n := s1.heap.objs.size) (I1.ok.hd hc) hsz px.lt py.lt hz hTI ⟨_, _, hTO⟩ i1 i2 (px.isList.at fun o e => hk _ o e) (py.isList.at fun o e => hk _ o e) lim fun g' tk acc c ts k e1 e2 G e4 => ?_
      obtain ⟨H', q1, q2, q3, q4, J⟩ := laid (tk := tk) I1 lx rx ry (fun b o lt e => k b o lt (hk b o e)) e1 e2 G e4
      exact ⟨.ref _, H', J, rfl, z H' _ ts q1 q2 q3 q4⟩
end
end Zl
/-! == of two dicts whose keys are tuples and whose values are ints. No row. -/
namespace Dq
open PySem PySem.Spec PyProof.Rows L2
section
variable {prog : Program} {w : World} {K : Type} [DecidableEq K] {knd : HeapKind prog w K} {A : Around} {E : Value → Shared → Prop} {s : Shared}
theorem pairs_same {nm : String} {a b : Addr} {xa xb : List (K × Addr × Value)} {g : K → Bool} {Q : Bool → Shared → Prop} (hu : knd.room A) (sa : (a == sysModules) = false) (sb : (b == sysModules) = false)
    (da : s.heap.DictOfH knd a xa) (db : s.heap.DictOfH knd b xb) (g0 : ∀ x ∈ xa, atKey xb x.1 = none → g x.1 = false) (g1 : ∀ x ∈ xa, ∀ p, atKey xb x.1 = some p → SeqAt.EqAt A s x.2.2 p.2 (g x.1))
    (h : Q (xa.length == xb.length && xa.all fun x => g x.1) s) : wpAny (model prog w) A (Builtin.Dict.samePairs nm a b) Q E s := by
  obtain ⟨oa, ea, pa, ha, _, ta, la, ia, na⟩ := da
  obtain ⟨ob, eb, pb, hb, _, tb, lb, ib, nb⟩ := db
  have za : ea.size = xa.length := size_of_entries la
  have zb : eb.size = xb.length := size_of_entries lb
  unfold Builtin.Dict.samePairs Builtin.Dict.showsAll
  rw [if_neg (by rw [sa]; exact Bool.false_ne_true : ¬ (a == sysModules) = true), if_neg (by rw [sb]; exact Bool.false_ne_true : ¬ (b == sysModules) = true)]
  refine wpAny_bind (wpAny_pure (wpAny_bind (wpAny_pure (wpAny_bind (wpAny_dictEntries ha ta ?_)))))
  dsimp only
  refine wpAny_bind (wpAny_dictEntries hb tb ?_)
  by_cases hs : ea.size = eb.size
  case neg =>
    rw [if_pos (by simpa using hs)]
    have e : (xa.length == xb.length) = false := by rw [← za, ← zb]; simpa using hs
    rw [e, Bool.false_and] at h
    exact wpAny_bind (wpAny_rule (wpAny_pure h))
  case pos =>
    have e : (xa.length == xb.length) = true := by rw [← za, ← zb]; simpa using hs
    rw [e, Bool.true_and] at h
    rw [if_neg (by rw [hs]; simp)]
    refine wpAny_bind (wpAny_dictEpoch ha ta (wpAny_bind ?_))
    rw [Std.Legacy.Range.forIn_eq_forIn_range']
    simp only [Std.Legacy.Range.size, Nat.sub_zero, Nat.add_sub_cancel, Nat.div_one]
    refine wpAny_forIn_list _ (fun rest q s' => s' = s ∧ q = (none, ()) ∧ ∃ i, rest = List.range' i (ea.size - i) ∧ i ≤ ea.size ∧ ((xa.take i).all fun x => g x.1) = true) _ ?_ ?_ _ _ ⟨rfl, rfl, 0, by simp, Nat.zero_le _, rfl⟩
    · rintro x rest q s' ⟨rfl, rfl, i, hr, hi, hall⟩
      have lt : i < ea.size := by
        rcases Nat.lt_or_ge i ea.size with z | z
        · exact z
        · rw [Nat.sub_eq_zero_of_le z] at hr; cases hr
      obtain ⟨rfl, hrest⟩ : x = i ∧ rest = List.range' (i + 1) (ea.size - (i + 1)) := by
        rw [show ea.size - i = (ea.size - (i + 1)) + 1 by omega, List.range'_succ] at hr
        exact ⟨(List.cons.inj hr).1, (List.cons.inj hr).2⟩
      have lx : x < xa.length := by omega
      have ex : xa[x]? = some xa[x] := List.getElem?_eq_getElem lx
      have ee : ea[x]? = some (entryOfKey knd xa[x]) := by rw [entry_at la x, ex]; rfl
      have mx : xa[x] ∈ xa := List.getElem_mem lx
      refine wpAny_bind (wpAny_dictEntries ha ta ?_)
      rw [ee]
      have tk : xa.take (x + 1) = xa.take x ++ [xa[x]] := by rw [List.take_add_one, ex]; rfl
      have bad : g xa[x].1 = false → (xa.all fun x => g x.1) = false := fun z => by
        rw [List.all_eq_false]
        exact ⟨_, mx, by rw [z]; exact Bool.false_ne_true⟩
      refine wpAny_bind (wpAny_holding (wpAny_bind (wpAny_dictFind_heap hu (ia _ mx) hb tb lb ib nb (fun hno => ?_) fun j p hj => ?_)))
      · have z := g0 _ mx (atKey_none_of_get hno)
        rw [bad z] at h
        refine wpAny_pure ?_
        show wpAny _ _ (if (!false) = true then _ else _) _ _ _
        rw [if_pos (show (!false) = true from rfl)]
        exact wpAny_pure (wpAny_pure h)
      · have kj := atKey_of_get nb hj
        have ej : eb[j]? = some (entryOfKey knd (xa[x].1, p)) := by rw [entry_at lb j, hj]; rfl
        refine wpAny_bind (wpAny_dictEntries hb tb ?_)
        rw [ej]
        refine wpAny_holding (g1 _ mx p kj prog w _ _ ?_)
        cases ge : g xa[x].1 with
        | false =>
          rw [bad ge] at h
          show wpAny _ _ (if (!false) = true then _ else _) _ _ _
          rw [if_pos (show (!false) = true from rfl)]
          exact wpAny_pure (wpAny_pure h)
        | true =>
          show wpAny _ _ (if (!true) = true then _ else _) _ _ _
          rw [if_neg (show ¬ (!true) = true from Bool.false_ne_true)]
          refine wpAny_bind (wpAny_dictEpoch ha ta ?_)
          rw [if_neg (show ¬ (pa != pa) = true by simp)]
          refine wpAny_pure ⟨rfl, rfl, x + 1, hrest, lt, ?_⟩
          rw [tk, List.all_append, hall]
          simpa using ge
    · rintro q s' ⟨rfl, rfl, i, hr, hi, hall⟩
      have ei : i = ea.size := by
        rcases Nat.lt_or_ge i ea.size with z | z
        · rw [show ea.size - i = (ea.size - (i + 1)) + 1 by omega, List.range'_succ] at hr; cases hr
        · omega
      rw [ei, za, List.take_length] at hall
      rw [hall] at h
      exact wpAny_pure h
theorem dicts_eq {a b : Addr} {xa xb : List (K × Addr × Value)} {g : K → Bool} {Q : Value → Shared → Prop} (hu : A.units < cLine) (hroom : knd.room A.in1) (sa : (a == sysModules) = false) (sb : (b == sysModules) = false)
    (da : s.heap.DictOfH knd a xa) (db : s.heap.DictOfH knd b xb) (g0 : ∀ x ∈ xa, atKey xb x.1 = none → g x.1 = false) (g1 : ∀ x ∈ xa, ∀ p, atKey xb x.1 = some p → SeqAt.EqAt A.in1 s x.2.2 p.2 (g x.1))
    (h : Q (.bool (xa.length == xb.length && xa.all fun x => g x.1)) s) : wpAny (model prog w) A (compareOp .Eq (.ref a) (.ref b)) Q E s := by
  have ea := da.typeIs
  have eb := db.typeIs
  refine wpAny_richCompare_same_room (op := .Eq) ea eb F.slot_dict_eq (wpAny_call_entry F.slot_dict_eq ea F.entry_dict_eq ?_ (F.args_dict_eq_2 _ _)) hu
  refine wpAny_bind (m := Builtin.Dict.dictSlotArgs "__eq__" ⟨[.ref a, .ref b], []⟩) ?_
  unfold Builtin.Dict.dictSlotArgs
  refine wpAny_bind (wpAny_notOrdered_dict ea ?_)
  refine wpAny_pure (a := (Value.ref a, Value.ref b)) (wpAny_bind (wpAny_isInstance (T := "dict") eb F.sub_dict_dict ?_))
  simp only [Bool.not_true, Bool.false_eq_true, if_false]
  refine wpAny_bind (wpAny_pure (wpAny_bind (wpAny_pure (wpAny_bind (pairs_same hroom sa sb da db g0 g1 (wpAny_pure ⟨_, rfl, (fun z => by cases z), ?_⟩))))))
  simpa using h
end
/-- the values are ints -/
def IntVals (ks : List (List Key × V)) : Prop := ∀ p ∈ ks, ∃ i : Int, p.2 = .int i
def sameD (ka kb : List (List Key × V)) : Bool := ka.length == kb.length && ka.all fun p => decide (valV kb p.1 = valV ka p.1)
def rEqT : R2 := fun x y H Q => ∃ (a b : Addr) (ka kb : List (List Key × V)), x = .ref a ∧ y = .ref b ∧ H a = some (.dT ka) ∧ H b = some (.dT kb) ∧ IntVals ka ∧ IntVals kb ∧ (ka.map (·.1)).Nodup ∧ Q (.bl (sameD ka kb)) H
theorem kt_mem {H : Hp} : ∀ {ks : List (List Key × V)} {xs : List (List Key × Addr × Value)}, KT H ks xs → ∀ {x : List Key × Addr × Value}, x ∈ xs → ∃ p ∈ ks, p.1 = x.1 ∧ RelV p.2 x.2.2
  | _, _, .cons h r, x, hx => by
    rcases List.mem_cons.mp hx with e | hx
    · rw [e]; exact ⟨_, List.mem_cons_self, h.1, h.2.2⟩
    · obtain ⟨p, h1, h2⟩ := kt_mem r hx
      exact ⟨p, List.mem_cons_of_mem _ h1, h2⟩
theorem kt_all {H : Hp} {f : List Key → Bool} : ∀ {ks : List (List Key × V)} {xs : List (List Key × Addr × Value)}, KT H ks xs → (xs.all fun x => f x.1) = ks.all fun p => f p.1
  | _, _, .nil => rfl
  | _, _, .cons h r => by rw [List.all_cons, List.all_cons, kt_all r, h.1]
theorem valV_mem {kvs : List (List Key × V)} {k : List Key} {v : V} (h : valV kvs k = some v) : ∃ p ∈ kvs, p.2 = v ∧ p.1 = k := by
  unfold valV at h
  obtain ⟨p, hp, e⟩ := Option.map_eq_some_iff.mp h
  have z := List.find?_some hp
  exact ⟨p, List.mem_of_find?_eq_some hp, e, by simpa using z⟩
theorem valV_of {kvs : List (List Key × V)} (hn : (kvs.map (·.1)).Nodup) {p : List Key × V} (h : p ∈ kvs) : valV kvs p.1 = some p.2 := by
  induction kvs with
  | nil => cases h
  | cons q r ih =>
    rw [List.map_cons, List.nodup_cons] at hn
    rcases List.mem_cons.mp h with e | h
    · rw [e]; exact valV_pos rfl
    · rw [valV_neg fun z => hn.1 (by rw [z]; exact List.mem_map.mpr ⟨p, h, rfl⟩)]
      exact ih hn.2 h
theorem op_eqT {X : Cx} (hu : X.A.units + 64 < cLine) : OpR X (compareOp .Eq) rEqT := by
  intro pins s σ H x y v u Q I rx ry h
  obtain ⟨a, b, ka, kb, rfl, rfl, ha, hb, va, vb, na, q⟩ := h
  cases rx
  cases ry
  obtain ⟨_, sa, xa, ra, da⟩ := dt_of I.hok ha
  obtain ⟨_, sb, xb, rb, db⟩ := dt_of I.hok hb
  have hi : X.A.units < cLine := by omega
  have hroom : (tupleKind (mixKind X.prog X.w)).room X.A.in1 := by
    show X.A.units + 1 < cLine
    omega
  refine dicts_eq (g := fun k => decide (valV kb k = valV ka k)) hi hroom sa sb da db (fun z hz e => ?_) (fun z hz p e => ?_) ⟨.bl (sameD ka kb), H, I, ?_, q⟩
  · obtain ⟨p, hp, e1, _⟩ := kt_mem ra hz
    have r := rb.val z.1
    rw [e] at r
    have e2 : valV kb z.1 = none := by
      cases y : valV kb z.1 with
      | none => rfl
      | some y' => rw [y] at r; exact r.elim
    refine decide_eq_false ?_
    rw [e2, ← e1, valV_of na hp]
    intro y
    cases y
  · obtain ⟨p', hp, e1, e3⟩ := kt_mem ra hz
    obtain ⟨i, ei⟩ := va p' hp
    have r := rb.val z.1
    rw [e] at r
    obtain ⟨w', ew⟩ : ∃ w', valV kb z.1 = some w' := by
      cases y : valV kb z.1 with
      | none => rw [y] at r; exact r.elim
      | some y' => exact ⟨y', rfl⟩
    rw [ew] at r
    obtain ⟨q', hq', e4, _⟩ := valV_mem ew
    obtain ⟨j, ej⟩ := vb q' hq'
    have ew2 : w' = .int j := by rw [← e4, ej]
    subst ew2
    rw [ei] at e3
    obtain ⟨t, et⟩ := e3
    obtain ⟨t', et'⟩ : ∃ t' : Tok, p.2 = Value.int j t' := r
    have eg : decide (valV kb z.1 = valV ka z.1) = (i == j) := by
      rw [ew, ← e1, valV_of na hp, ei, Bool.eq_iff_iff, decide_eq_true_eq, beq_iff_eq]
      constructor
      · intro y
        injection y with y
        injection y with y
        exact y.symm
      · intro y
        rw [y]
    show SeqAt.EqAt _ _ z.2.2 p.2 (decide (valV kb z.1 = valV ka z.1))
    rw [eg, et, et']
    exact SeqAt.EqAt.int_int _ _ _ _
  · show Value.bool _ = Value.bool _
    rw [kt_all ra (f := fun k => decide (valV kb k = valV ka k)), ← ra.length, ← rb.length]
    rfl
end Dq
/-! The dict of a net's lines as data: the same for turned lines, another one for other lines. No row. -/
namespace My
open PySem PySem.Spec PyProof.Rows L2 Dq
structure Dist (ls : List (Nat × Nat × Int)) : Prop where
  nd : (ls.map norm).Nodup
  ne : ∀ l ∈ ls, l.1 ≠ l.2.1
theorem LsOk.dist {n : Nat} {ls : List (Nat × Nat × Int)} (h : LsOk n ls) : Dist ls := ⟨h.nd, fun l hl e => by
  have := (h.bd l hl).1
  unfold norm at this
  rw [if_neg (by omega)] at this
  have : l.1 < l.2.1 := this
  omega⟩
theorem hits_of {a b : Nat} {l : Nat × Nat × Int} (h : hits a b l = true) : (l.1 = a ∧ l.2.1 = b) ∨ (l.1 = b ∧ l.2.1 = a) := by
  unfold hits at h
  rw [Bool.or_eq_true, Bool.and_eq_true, Bool.and_eq_true, decide_eq_true_eq, decide_eq_true_eq, decide_eq_true_eq, decide_eq_true_eq] at h
  exact h
theorem hits_mk {a b : Nat} {l : Nat × Nat × Int} (h : (l.1 = a ∧ l.2.1 = b) ∨ (l.1 = b ∧ l.2.1 = a)) : hits a b l = true := by
  unfold hits
  rw [Bool.or_eq_true, Bool.and_eq_true, Bool.and_eq_true, decide_eq_true_eq, decide_eq_true_eq, decide_eq_true_eq, decide_eq_true_eq]
  exact h
theorem norm_eq {l k : Nat × Nat × Int} (h : (l.1 = k.1 ∧ l.2.1 = k.2.1) ∨ (l.1 = k.2.1 ∧ l.2.1 = k.1)) : norm l = norm k := by
  unfold norm
  rcases h with ⟨e1, e2⟩ | ⟨e1, e2⟩
  · rw [e1, e2]
  · rw [e1, e2]
    by_cases z : k.1 < k.2.1
    · rw [if_pos z, if_neg (by omega)]
    · by_cases z' : k.2.1 < k.1
      · rw [if_neg z, if_pos z']
      · have e : k.1 = k.2.1 := by omega
        rw [if_neg z, if_neg z', e]
theorem hits_norm {a b : Nat} {l k : Nat × Nat × Int} (h : hits a b l = true) (h' : hits a b k = true) : norm l = norm k := by
  refine norm_eq ?_
  rcases hits_of h with ⟨e1, e2⟩ | ⟨e1, e2⟩ <;> rcases hits_of h' with ⟨e3, e4⟩ | ⟨e3, e4⟩ <;> omega
theorem nodup_inj {α β : Type} (f : α → β) : ∀ {ls : List α}, (ls.map f).Nodup → ∀ {l k : α}, l ∈ ls → k ∈ ls → f l = f k → l = k
  | [], _, _, _, h, _, _ => by cases h
  | x :: r, hn, l, k, h1, h2, e => by
    rw [List.map_cons, List.nodup_cons] at hn
    rcases List.mem_cons.mp h1 with e1 | h1 <;> rcases List.mem_cons.mp h2 with e2 | h2
    · rw [e1, e2]
    · exact absurd (List.mem_map.mpr ⟨k, h2, by rw [← e, e1]⟩) hn.1
    · exact absurd (List.mem_map.mpr ⟨l, h1, by rw [e, e2]⟩) hn.1
    · exact nodup_inj f hn.2 h1 h2 e
def two (l : Nat × Nat × Int) : List (List Key × V) := [(key2 l.1 l.2.1, .int l.2.2), (key2 l.2.1 l.1, .int l.2.2)]
def flatD (ls : List (Nat × Nat × Int)) : List (List Key × V) := ls.flatMap two
theorem flat_mem {ls : List (Nat × Nat × Int)} {p : List Key × V} : p ∈ flatD ls ↔ ∃ l ∈ ls, (p.1 = key2 l.1 l.2.1 ∨ p.1 = key2 l.2.1 l.1) ∧ p.2 = .int l.2.2 := by
  unfold flatD two
  rw [List.mem_flatMap]
  constructor
  · rintro ⟨l, hl, h⟩
    refine ⟨l, hl, ?_⟩
    rcases List.mem_cons.mp h with e | h
    · rw [e]; exact ⟨.inl rfl, rfl⟩
    · rw [List.mem_singleton.mp h]; exact ⟨.inr rfl, rfl⟩
  · rintro ⟨l, hl, h, e⟩
    refine ⟨l, hl, ?_⟩
    obtain ⟨p1, p2⟩ := p
    rcases h with h | h
    · cases h; cases e; exact List.mem_cons_self
    · cases h; cases e; exact List.mem_cons_of_mem _ (List.mem_singleton.mpr rfl)
theorem flat_none {ls : List (Nat × Nat × Int)} {a b : Nat} (h : ∀ l ∈ ls, hits a b l = false) : valV (flatD ls) (key2 a b) = none := by
  cases e : valV (flatD ls) (key2 a b) with
  | none => rfl
  | some v =>
    obtain ⟨p, hp, _, e2⟩ := valV_mem e
    obtain ⟨l, hl, h1, _⟩ := flat_mem.mp hp
    have := h l hl
    rw [hits_mk (by
      rcases h1 with h1 | h1
      · rw [e2] at h1
        obtain ⟨z1, z2⟩ := key2_inj h1
        exact .inl ⟨z1.symm, z2.symm⟩
      · rw [e2] at h1
        obtain ⟨z1, z2⟩ := key2_inj h1
        exact .inr ⟨z2.symm, z1.symm⟩)] at this
    cases this
theorem nodup_mid {xs ys : List (Nat × Nat × Int)} {l : Nat × Nat × Int} (h : Dist (xs ++ l :: ys)) : ∀ k ∈ xs, norm k ≠ norm l := by
  intro k hk e
  have := h.nd
  rw [List.map_append, List.map_cons, List.nodup_append] at this
  exact this.2.2 _ (List.mem_map.mpr ⟨k, hk, rfl⟩) _ List.mem_cons_self e
theorem fold_flat : ∀ (ys xs : List (Nat × Nat × Int)), Dist (xs ++ ys) → ys.foldl put2 (flatD xs) = flatD (xs ++ ys)
  | [], xs, _ => by rw [List.append_nil]; rfl
  | l :: ys, xs, h => by
    have hm := nodup_mid h
    have hne : l.1 ≠ l.2.1 := h.ne l (by simp)
    have n1 : valV (flatD xs) (key2 l.1 l.2.1) = none := flat_none fun k hk => by
      cases e : hits l.1 l.2.1 k with
      | false => rfl
      | true => exact absurd (hits_norm e (hits_mk (.inl ⟨rfl, rfl⟩))) (hm k hk)
    have n2 : valV (flatD xs) (key2 l.2.1 l.1) = none := flat_none fun k hk => by
      cases e : hits l.2.1 l.1 k with
      | false => rfl
      | true => exact absurd (hits_norm e (hits_mk (.inr ⟨rfl, rfl⟩))) (hm k hk)
    have e1 : put2 (flatD xs) l = flatD (xs ++ [l]) := by
      unfold put2
      rw [putK_new _ n1, putK_new _ (by
        rw [← putK_new (.int l.2.2) n1, valV_put, if_neg (fun z => hne (key2_inj z).2), n2]), List.append_assoc]
      unfold flatD
      rw [List.flatMap_append, List.flatMap_cons, List.flatMap_nil, List.append_nil]
      rfl
    rw [List.foldl_cons, e1, fold_flat ys (xs ++ [l]) (by rw [List.append_assoc]; exact h), List.append_assoc]
    rfl
theorem delays_flat {ls : List (Nat × Nat × Int)} (h : Dist ls) : delaysOf ls = flatD ls := fold_flat ls [] h
theorem flat_len : ∀ ls : List (Nat × Nat × Int), (flatD ls).length = 2 * ls.length
  | [] => rfl
  | l :: r => by
    have := flat_len r
    unfold flatD at this ⊢
    rw [List.flatMap_cons, List.length_append, this, List.length_cons]
    show 2 + 2 * r.length = _
    omega
theorem flat_ints (ls : List (Nat × Nat × Int)) : IntVals (flatD ls) := fun p hp => by
  obtain ⟨l, _, _, e⟩ := flat_mem.mp hp
  exact ⟨_, e⟩
theorem flat_nodup : ∀ {ls : List (Nat × Nat × Int)}, Dist ls → ((flatD ls).map (·.1)).Nodup
  | [], _ => List.nodup_nil
  | l :: r, h => by
    have hd : Dist r := ⟨by have := h.nd; rw [List.map_cons, List.nodup_cons] at this; exact this.2, fun k hk => h.ne k (List.mem_cons_of_mem _ hk)⟩
    have hne : l.1 ≠ l.2.1 := h.ne l List.mem_cons_self
    have hn : ∀ k ∈ r, norm k ≠ norm l := fun k hk e => by
      have := h.nd
      rw [List.map_cons, List.nodup_cons] at this
      exact this.1 (List.mem_map.mpr ⟨k, hk, e⟩)
    have out : ∀ a b : Nat, (l.1 = a ∧ l.2.1 = b) ∨ (l.1 = b ∧ l.2.1 = a) → key2 a b ∉ (flatD r).map (·.1) := fun a b hab hm => by
      obtain ⟨p, hp, e⟩ := List.mem_map.mp hm
      obtain ⟨k, hk, h1, _⟩ := flat_mem.mp hp
      refine hn k hk (hits_norm (a := a) (b := b) (hits_mk ?_) (hits_mk hab))
      rcases h1 with h1 | h1
      · rw [e] at h1
        obtain ⟨z1, z2⟩ := key2_inj h1
        exact .inl ⟨z1.symm, z2.symm⟩
      · rw [e] at h1
        obtain ⟨z1, z2⟩ := key2_inj h1
        exact .inr ⟨z2.symm, z1.symm⟩
    show (key2 l.1 l.2.1 :: key2 l.2.1 l.1 :: (flatD r).map (·.1)).Nodup
    rw [List.nodup_cons, List.nodup_cons]
    refine ⟨fun hm => ?_, out _ _ (.inr ⟨rfl, rfl⟩), flat_nodup hd⟩
    rcases List.mem_cons.mp hm with e | hm
    · exact hne (key2_inj e).1
    · exact out _ _ (.inl ⟨rfl, rfl⟩) hm
theorem flat_val {ls : List (Nat × Nat × Int)} (h : Dist ls) {l : Nat × Nat × Int} (hl : l ∈ ls) {a b : Nat} (e : hits a b l = true) : valV (flatD ls) (key2 a b) = some (.int l.2.2) := by
  have hm : (key2 a b, V.int l.2.2) ∈ flatD ls := flat_mem.mpr ⟨l, hl, by
    rcases hits_of e with ⟨e1, e2⟩ | ⟨e1, e2⟩
    · exact .inl (by rw [e1, e2])
    · exact .inr (by rw [e1, e2]), rfl⟩
  exact valV_of (flat_nodup h) hm
theorem find_one {ls : List (Nat × Nat × Int)} (h : Dist ls) {l : Nat × Nat × Int} (hl : l ∈ ls) {a b : Nat} (e : hits a b l = true) : ls.find? (hits a b) = some l := by
  cases q : ls.find? (hits a b) with
  | none => exact absurd e (by have := List.find?_eq_none.mp q l hl; exact this)
  | some k =>
    have hk := List.mem_of_find?_eq_some q
    have e' := List.find?_some q
    rw [nodup_inj norm h.nd hk hl (hits_norm e' e)]
/-- the delay by the dict is that of the first line -/
theorem val_joined {N : NetD} (h : Dist N.ls) (a b : Nat) : (valV (delaysOf N.ls) (key2 a b)).getD .non = optV (joined N a b) := by
  rw [delays_flat h]
  unfold joined
  by_cases e : ∃ l ∈ N.ls, hits a b l = true
  · obtain ⟨l, hl, e⟩ := e
    rw [flat_val h hl e, find_one h hl e]
    rfl
  · have z : ∀ l ∈ N.ls, hits a b l = false := fun l hl => by
      cases q : hits a b l with
      | false => rfl
      | true => exact absurd ⟨l, hl, q⟩ e
    rw [flat_none z, List.find?_eq_none.mpr fun l hl => by rw [z l hl]; decide]
    rfl
theorem adj_self {N : NetD} (h : Dist N.ls) (a : Nat) : adj N a a = false := by
  unfold adj
  rw [List.any_eq_false]
  intro l hl e
  have := h.ne l hl
  rcases hits_of e with ⟨e1, e2⟩ | ⟨e1, e2⟩ <;> omega
/-! ### turned lines -/
def flip (l : Nat × Nat × Int) : Nat × Nat × Int := (l.2.1, l.1, l.2.2)
def turn (ls : List (Nat × Nat × Int)) : List (Nat × Nat × Int) := (ls.map flip).reverse
theorem norm_flip (l : Nat × Nat × Int) : norm (flip l) = norm l := norm_eq (.inr ⟨rfl, rfl⟩)
theorem hits_flip (a b : Nat) (l : Nat × Nat × Int) : hits a b (flip l) = hits a b l := by
  rw [Bool.eq_iff_iff]
  constructor
  · intro h
    rcases hits_of h with ⟨e1, e2⟩ | ⟨e1, e2⟩
    · exact hits_mk (.inr ⟨e2, e1⟩)
    · exact hits_mk (.inl ⟨e2, e1⟩)
  · intro h
    rcases hits_of h with ⟨e1, e2⟩ | ⟨e1, e2⟩
    · exact hits_mk (.inr ⟨e2, e1⟩)
    · exact hits_mk (.inl ⟨e2, e1⟩)
theorem turn_mem {ls : List (Nat × Nat × Int)} {l : Nat × Nat × Int} : l ∈ turn ls ↔ ∃ k ∈ ls, flip k = l := by
  unfold turn
  rw [List.mem_reverse, List.mem_map]
theorem Dist.turn {ls : List (Nat × Nat × Int)} (h : Dist ls) : Dist (turn ls) := ⟨by
  have e : (My.turn ls).map norm = (ls.map norm).reverse := by
    unfold My.turn
    rw [List.map_reverse, List.map_map]
    congr 2
    funext l
    exact norm_flip l
  rw [e]
  exact List.pairwise_reverse.mpr (h.nd.imp fun z => z.symm), fun l hl => by
  obtain ⟨k, hk, rfl⟩ := turn_mem.mp hl
  exact (h.ne k hk).symm⟩
theorem turn_len (ls : List (Nat × Nat × Int)) : (turn ls).length = ls.length := by
  unfold turn
  rw [List.length_reverse, List.length_map]
theorem same_turn {ls : List (Nat × Nat × Int)} (h : Dist ls) : sameD (delaysOf ls) (delaysOf (turn ls)) = true := by
  rw [delays_flat h, delays_flat h.turn]
  unfold sameD
  rw [Bool.and_eq_true]
  refine ⟨by rw [flat_len, flat_len, turn_len, beq_self_eq_true], ?_⟩
  rw [List.all_eq_true]
  intro p hp
  refine decide_eq_true ?_
  have e := valV_of (flat_nodup h) hp
  obtain ⟨l, hl, h1, h2⟩ := flat_mem.mp hp
  rw [e, h2]
  have hf : flip l ∈ turn ls := turn_mem.mpr ⟨l, hl, rfl⟩
  rcases h1 with h1 | h1
  · rw [h1]
    exact flat_val h.turn hf (by rw [hits_flip]; exact hits_mk (.inl ⟨rfl, rfl⟩))
  · rw [h1]
    exact flat_val h.turn hf (by rw [hits_flip]; exact hits_mk (.inr ⟨rfl, rfl⟩))
theorem same_len {ls ks : List (Nat × Nat × Int)} (h : Dist ls) (h' : Dist ks) (e : ls.length ≠ ks.length) : sameD (delaysOf ls) (delaysOf ks) = false := by
  rw [delays_flat h, delays_flat h']
  unfold sameD
  rw [flat_len, flat_len, beq_eq_false_iff_ne.mpr (by omega)]
  rfl
theorem same_other {ls ks : List (Nat × Nat × Int)} (h : Dist ls) (h' : Dist ks) {l k : Nat × Nat × Int} (hl : l ∈ ls) (hk : k ∈ ks) {a b : Nat} (e1 : hits a b l = true) (e2 : hits a b k = true) (e : l.2.2 ≠ k.2.2) : sameD (delaysOf ls) (delaysOf ks) = false := by
  rw [delays_flat h, delays_flat h']
  have v1 := flat_val h hl e1
  have v2 := flat_val h' hk e2
  obtain ⟨p, hp, _, e4⟩ := valV_mem v1
  unfold sameD
  rw [Bool.and_eq_false_iff]
  refine .inr ?_
  rw [List.all_eq_false]
  refine ⟨p, hp, ?_⟩
  rw [e4, v1, v2]
  intro z
  have z := of_decide_eq_true z
  injection z with z
  injection z with z
  exact e z.symm
end My
/-! Paths: what they are, the rows that are found are some; when two are separate. No row of Lean's. -/
namespace My
open PySem PySem.Spec PyProof.Rows L2
structure IsP (N : NetD) (r : List Nat) : Prop where
  two : 2 ≤ r.length
  nd : r.Nodup
  hs : ∀ k, k < r.length → host N (r.getD k 0) = (decide (k = 0) || decide (k + 1 = r.length))
  ad : ∀ k, k + 1 < r.length → adj N (r.getD k 0) (r.getD (k + 1) 0) = true
theorem app_l {r : List Nat} {b k : Nat} (h : k < r.length) : (r ++ [b]).getD k 0 = r.getD k 0 := by
  rw [List.getD_eq_getElem?_getD, List.getElem?_append_left h, ← List.getD_eq_getElem?_getD]
theorem app_r {r : List Nat} {b : Nat} : (r ++ [b]).getD r.length 0 = b := by
  rw [List.getD_eq_getElem?_getD, List.getElem?_append_right (Nat.le_refl _), Nat.sub_self]
  rfl
theorem Row.mids {N : NetD} {a : Nat} {r : List Nat} (h : Row N a r) : r.getD 0 0 = a ∧ (∀ k, 0 < k → k + 1 < r.length → host N (r.getD k 0) = false) ∧ ∀ k, k + 1 < r.length → adj N (r.getD k 0) (r.getD (k + 1) 0) = true := by
  induction h with
  | start => exact ⟨rfl, fun k _ h => by (have : k + 1 < 1 := h); omega, fun k h => by (have : k + 1 < 1 := h); omega⟩
  | @ext r b h1 h2 o hb ih =>
    obtain ⟨i1, i2, i3⟩ := ih
    have hp := h1.pos
    refine ⟨by rw [app_l (by omega)]; exact i1, fun k k0 k1 => ?_, fun k k1 => ?_⟩
    · rw [List.length_append, List.length_singleton] at k1
      rw [app_l (by omega)]
      by_cases e : k + 1 < r.length
      · exact i2 k k0 e
      · have e' : k = r.length - 1 := by omega
        rcases h2 with h2 | h2
        · rw [h2] at e'
          have : k = 0 := e'
          omega
        · unfold lastN at h2
          rw [e']
          exact h2
    · rw [List.length_append, List.length_singleton] at k1
      by_cases e : k + 1 < r.length
      · rw [app_l (by omega), app_l e]
        exact i3 k e
      · have e' : k + 1 = r.length := by omega
        have e2 : k = r.length - 1 := by omega
        rw [app_l (by omega), e', app_r, e2]
        exact (okb_mem o).2
theorem found_is {N : NetD} {t : Nat} {r : List Nat} (h : r ∈ foundOf N t) : IsP N r := by
  obtain ⟨a, ha, hh, hr, h2, _, hl⟩ := (mem_found t r).mp h
  obtain ⟨i1, i2, i3⟩ := hr.mids
  refine ⟨h2, hr.nodup, fun k hk => ?_, i3⟩
  by_cases e0 : k = 0
  · rw [e0, i1, hh]; rfl
  · by_cases e1 : k + 1 = r.length
    · unfold lastN at hl
      have e : k = r.length - 1 := by omega
      rw [e, hl, decide_eq_true (by omega : r.length - 1 + 1 = r.length), Bool.or_true]
    · rw [i2 k (by omega) (by omega), decide_eq_false e0, decide_eq_false e1]; rfl
theorem found_lt {N : NetD} {t : Nat} {r : List Nat} (h : r ∈ foundOf N t) : (∀ x ∈ r, x < N.ks.length) ∧ r.length ≤ t + 1 := by
  obtain ⟨a, ha, hh, hr, h2, h3, hl⟩ := (mem_found t r).mp h
  exact ⟨hr.lt ha, h3⟩
def inner (r : List Nat) : List Nat := (r.drop 1).take (r.length - 1 - 1)
def portsOf (r : List Nat) : List (Nat × Nat) := r.zip (r.drop 1)
theorem mem_inner {r : List Nat} {x : Nat} : x ∈ inner r ↔ ∃ k, 0 < k ∧ k + 1 < r.length ∧ r.getD k 0 = x := by
  unfold inner
  constructor
  · intro h
    obtain ⟨i, e⟩ := List.mem_iff_getElem?.mp h
    rw [List.getElem?_take] at e
    split at e
    · rename_i hi
      rw [List.getElem?_drop] at e
      exact ⟨1 + i, by omega, by omega, by rw [List.getD_eq_getElem?_getD, e]; rfl⟩
    · cases e
  · rintro ⟨k, k0, k1, e⟩
    refine List.mem_iff_getElem?.mpr ⟨k - 1, ?_⟩
    rw [List.getElem?_take, if_pos (by omega), List.getElem?_drop, show 1 + (k - 1) = k by omega, getD_at 0 (by omega), e]
theorem mem_ports {r : List Nat} {p : Nat × Nat} : p ∈ portsOf r ↔ ∃ k, k + 1 < r.length ∧ p = (r.getD k 0, r.getD (k + 1) 0) := by
  unfold portsOf
  constructor
  · intro h
    obtain ⟨i, e⟩ := List.mem_iff_getElem?.mp h
    rw [List.getElem?_zip_eq_some] at e
    obtain ⟨e1, e2⟩ := e
    rw [List.getElem?_drop] at e2
    obtain ⟨h2, _⟩ := List.getElem?_eq_some_iff.mp e2
    refine ⟨i, by omega, ?_⟩
    obtain ⟨p1, p2⟩ := p
    rw [List.getD_eq_getElem?_getD, List.getD_eq_getElem?_getD, e1, Nat.add_comm i 1, e2]
    rfl
  · rintro ⟨k, hk, e⟩
    refine List.mem_iff_getElem?.mpr ⟨k, ?_⟩
    rw [List.getElem?_zip_eq_some, List.getElem?_drop, e, Nat.add_comm 1 k]
    exact ⟨getD_at 0 (by omega), getD_at 0 hk⟩
theorem ports_len (r : List Nat) : (portsOf r).length = r.length - 1 := by
  unfold portsOf
  rw [List.length_zip, List.length_drop]
  omega
theorem ports_at {r : List Nat} {k : Nat} (hk : k + 1 < r.length) : (portsOf r)[k]? = some (r.getD k 0, r.getD (k + 1) 0) := by
  unfold portsOf
  rw [List.getElem?_zip_eq_some, List.getElem?_drop, Nat.add_comm 1 k]
  exact ⟨getD_at 0 (by omega), getD_at 0 hk⟩
theorem getD_in {r : List Nat} {k : Nat} (h : k < r.length) : r.getD k 0 ∈ r := List.mem_iff_getElem?.mpr ⟨k, getD_at 0 h⟩
theorem IsP.in_inner {N : NetD} {r : List Nat} (h : IsP N r) {x : Nat} (hx : x ∈ r) (e : host N x = false) : x ∈ inner r := by
  obtain ⟨k, ek⟩ := List.mem_iff_getElem?.mp hx
  obtain ⟨hk, _⟩ := List.getElem?_eq_some_iff.mp ek
  have ex : r.getD k 0 = x := by rw [List.getD_eq_getElem?_getD, ek]; rfl
  have := h.hs k hk
  rw [ex, e] at this
  have this := this.symm
  rw [Bool.or_eq_false_iff, decide_eq_false_iff_not, decide_eq_false_iff_not] at this
  exact mem_inner.mpr ⟨k, by omega, by omega, ex⟩
theorem IsP.inner_sw {N : NetD} {r : List Nat} (h : IsP N r) {x : Nat} (hx : x ∈ inner r) : x ∈ r ∧ host N x = false := by
  obtain ⟨k, k0, k1, e⟩ := mem_inner.mp hx
  refine ⟨by rw [← e]; exact getD_in (by omega), ?_⟩
  rw [← e, h.hs k (by omega), decide_eq_false (by omega), decide_eq_false (by omega)]
  rfl
/-- a port of a path of more than two nodes has a switch in it -/
theorem IsP.port_sw {N : NetD} {r : List Nat} (h : IsP N r) (h2 : 2 < r.length) {p : Nat × Nat} (hp : p ∈ portsOf r) : (p.1 ∈ r ∧ host N p.1 = false) ∨ (p.2 ∈ r ∧ host N p.2 = false) := by
  obtain ⟨k, hk, rfl⟩ := mem_ports.mp hp
  by_cases e : k = 0
  · refine .inr ⟨getD_in hk, ?_⟩
    show host N (r.getD (k + 1) 0) = false
    rw [h.hs (k + 1) hk, decide_eq_false (by omega), decide_eq_false (by omega)]
    rfl
  · refine .inl ⟨getD_in (by omega), ?_⟩
    show host N (r.getD k 0) = false
    rw [h.hs k (by omega), decide_eq_false (by omega), decide_eq_false (by omega)]
    rfl
theorem port_both {r : List Nat} {p : Nat × Nat} (hp : p ∈ portsOf r) : p.1 ∈ r ∧ p.2 ∈ r := by
  obtain ⟨k, hk, rfl⟩ := mem_ports.mp hp
  exact ⟨getD_in (by omega), getD_in hk⟩
def sepA (r s : List Nat) : Bool := ((inner r).filter fun x => s.contains x).isEmpty && ((portsOf r).filter fun p => (portsOf s).contains p).isEmpty
def sepB (r s : List Nat) : Bool := ((inner r).all fun x => !(inner s).contains x) && (decide (2 < r.length) || decide (2 < s.length))
theorem sep_eq {N : NetD} {r s : List Nat} (hr : IsP N r) (hs : IsP N s) (e0 : r.getD 0 0 = s.getD 0 0) (e1 : lastN r = lastN s) : sepA r s = sepB r s := by
  have hA : sepA r s = true ↔ (∀ x ∈ inner r, x ∉ s) ∧ ∀ p ∈ portsOf r, p ∉ portsOf s := by
    unfold sepA
    rw [Bool.and_eq_true, List.isEmpty_iff, List.isEmpty_iff, List.filter_eq_nil_iff, List.filter_eq_nil_iff]
    simp
  have hB : sepB r s = true ↔ (∀ x ∈ inner r, x ∉ inner s) ∧ (2 < r.length ∨ 2 < s.length) := by
    unfold sepB
    rw [Bool.and_eq_true, List.all_eq_true, Bool.or_eq_true, decide_eq_true_eq, decide_eq_true_eq]
    simp
  rw [Bool.eq_iff_iff, hA, hB]
  constructor
  · rintro ⟨h1, h2⟩
    refine ⟨fun x hx hy => h1 x hx (hs.inner_sw hy).1, ?_⟩
    by_cases q : 2 < r.length ∨ 2 < s.length
    · exact q
    · have r2 : r.length = 2 := by have := hr.two; omega
      have s2 : s.length = 2 := by have := hs.two; omega
      unfold lastN at e1
      rw [r2, s2] at e1
      refine absurd (mem_ports.mpr ⟨0, by omega, ?_⟩) (h2 (r.getD 0 0, r.getD 1 0) (mem_ports.mpr ⟨0, by omega, rfl⟩))
      rw [e0, show r.getD 1 0 = s.getD 1 0 from e1]
  · rintro ⟨h1, h2⟩
    have h3 : ∀ x, x ∈ r → x ∈ s → host N x = false → False := fun x hx hy hh => h1 x (hr.in_inner hx hh) (hs.in_inner hy hh)
    refine ⟨fun x hx hy => h3 x (hr.inner_sw hx).1 hy (hr.inner_sw hx).2, fun p hp hq => ?_⟩
    obtain ⟨p1, p2⟩ := port_both hp
    obtain ⟨q1, q2⟩ := port_both hq
    rcases h2 with h2 | h2
    · rcases hr.port_sw h2 hp with ⟨_, z⟩ | ⟨_, z⟩
      · exact h3 _ p1 q1 z
      · exact h3 _ p2 q2 z
    · rcases hs.port_sw h2 hq with ⟨_, z⟩ | ⟨_, z⟩
      · exact h3 _ p1 q1 z
      · exact h3 _ p2 q2 z
end My
/-! Windows as data, math.lcm as a rule, tests in which the heap grows. No row. -/
namespace My
open PySem PySem.Spec PyProof.Rows L2
theorem or_read2 {t u : TT} {σ : L2.St} {H : Hp} {Q : Bool → Hp → Prop} {a b : Bool} (ht : ∀ Q : Bool → Hp → Prop, (∀ H1, Same H H1 → Q a H1) → t σ H Q) (hu : ∀ H1, Same H H1 → ∀ Q : Bool → Hp → Prop, (∀ H2, Same H1 H2 → Q b H2) → u σ H1 Q) (h : ∀ H1, Same H H1 → Q (a || b) H1) : tOr t u σ H Q := by
  refine ht _ fun H1 s1 => ?_
  cases a with
  | true => exact h H1 s1
  | false => exact hu H1 s1 _ fun H2 s2 => h H2 (s1.trans s2)
theorem and_read2 {t u : TT} {σ : L2.St} {H : Hp} {Q : Bool → Hp → Prop} {a b : Bool} (ht : ∀ Q : Bool → Hp → Prop, (∀ H1, Same H H1 → Q a H1) → t σ H Q) (hu : a = true → ∀ H1, Same H H1 → ∀ Q : Bool → Hp → Prop, (∀ H2, Same H1 H2 → Q b H2) → u σ H1 Q) (h : ∀ H1, Same H H1 → Q (a && b) H1) : tAnd t u σ H Q := by
  refine ht _ fun H1 s1 => ?_
  cases a with
  | true => exact hu rfl H1 s1 _ fun H2 s2 => h H2 (s1.trans s2)
  | false => exact h H1 s1
section
variable {X : Cx}
def rLcm : List V → Hp → VK → Prop := fun vs H Q => ∃ a b : Int, vs = [.int a, .int b] ∧ a.natAbs < 2 ^ 64 ∧ b.natAbs < 2 ^ 64 ∧ Q (.int ((Nat.lcm a.natAbs b.natAbs : Nat) : Int)) H
theorem cr_lcm : CallR X (.builtin "math.lcm") rLcm := by
  intro pins s σ H vs us Q I r h
  obtain ⟨a, b, rfl, ha, hb, q⟩ := h
  obtain ⟨t, u, rfl⟩ := Vals.int2 r
  exact PySem.W.mc_lcm ha hb fun _ => ⟨.int _, H, I.tok _, ⟨_, rfl⟩, q⟩
end
theorem dec_int (a b : Int) : decide (V.int a = V.int b) = decide (a = b) := by
  by_cases h : a = b
  · rw [h]; simp
  · rw [decide_eq_false h, decide_eq_false]
    intro z
    injection z with z
    exact h z
/-- offset, length, period -/
abbrev Win := Int × Int × Int
def winV (w : Win) : List V := [.int w.1, .int w.2.1, .int w.2.2]
abbrev WinsAt (K : PySem.W.Frag) (H : Hp) (ts : List Addr) (ws : List Win) : Prop := Paired (fun (t : Addr) (w : Win) => SqT K H t (winV w)) ts ws
theorem WinsAt.same {K : PySem.W.Frag} {H H' : Hp} {ts : List Addr} {ws : List Win} (h : WinsAt K H ts ws) (e : Same H H') : WinsAt K H' ts ws := Paired.imp h fun _ _ q => same_tup e q
theorem WinsAt.butL {K : PySem.W.Frag} {H H' : Hp} {p : Addr} {ys : List V} {ts : List Addr} {ws : List Win} (h : WinsAt K H ts ws) (hp : H p = some (.lst ys)) (e : But p H H') : WinsAt K H' ts ws := Paired.imp h fun _ _ q => e.tupL hp q
/-- the tick is in a stretch -/
def hasT (w : Win) (x : Int) : Bool := decide (w.1 ≤ x) && decide ((x - w.1) % w.2.2 < w.2.1)
theorem hasT_iff {w : Win} (hp : 0 < w.2.2) (x : Int) : hasT w x = true ↔ ∃ k : Nat, w.1 + k * w.2.2 ≤ x ∧ x < w.1 + k * w.2.2 + w.2.1 := by
  unfold hasT
  rw [Bool.and_eq_true, decide_eq_true_eq, decide_eq_true_eq]
  have hd := Int.emod_add_mul_ediv (x - w.1) w.2.2
  have h0 := Int.emod_nonneg (x - w.1) (show w.2.2 ≠ 0 by omega)
  have h1 := Int.emod_lt_of_pos (x - w.1) hp
  constructor
  · rintro ⟨a, b⟩
    have hk : 0 ≤ (x - w.1) / w.2.2 := Int.ediv_nonneg (by omega) (by omega)
    refine ⟨((x - w.1) / w.2.2).toNat, ?_, ?_⟩
    · rw [Int.toNat_of_nonneg hk, Int.mul_comm]; omega
    · rw [Int.toNat_of_nonneg hk, Int.mul_comm]; omega
  · rintro ⟨k, a, b⟩
    have hk : 0 ≤ (k : Int) * w.2.2 := Int.mul_nonneg (by omega) (by omega)
    refine ⟨by omega, ?_⟩
    have e : (x - w.1) % w.2.2 = (x - w.1 - k * w.2.2) % w.2.2 := by
      rw [Int.sub_mul_emod_self_right]
    rw [e]
    have e1 := Int.emod_add_mul_ediv (x - w.1 - k * w.2.2) w.2.2
    have e2 := Int.mul_nonneg (show 0 ≤ w.2.2 by omega) (Int.ediv_nonneg (show 0 ≤ x - w.1 - k * w.2.2 by omega) (show 0 ≤ w.2.2 by omega))
    omega
/-- just the first 140 stretches are looked at -/
theorem hasT_few {w : Win} (hp : 0 < w.2.2) {x : Int} (hx : x - w.1 < 140) : hasT w x = true ↔ ∃ k : Nat, k < 140 ∧ w.1 + k * w.2.2 ≤ x ∧ x < w.1 + k * w.2.2 + w.2.1 := by
  rw [hasT_iff hp]
  constructor
  · rintro ⟨k, a, b⟩
    refine ⟨k, ?_, a, b⟩
    have : (k : Int) * 1 ≤ (k : Int) * w.2.2 := Int.mul_le_mul_of_nonneg_left (by omega) (by omega)
    omega
  · rintro ⟨k, _, a, b⟩
    exact ⟨k, a, b⟩
/-! ### the common period -/
def lcmW (ws : List Win) : Nat := ws.foldl (fun a w => a.lcm w.2.2.natAbs) 1
theorem lcmW_snoc (ws : List Win) (w : Win) : lcmW (ws ++ [w]) = (lcmW ws).lcm w.2.2.natAbs := by
  unfold lcmW
  rw [List.foldl_append]
  rfl
theorem lcm_foldl_dvd {α : Type} (f : α → Nat) : ∀ (ws : List α) (a m : Nat), ws.foldl (fun a w => a.lcm (f w)) a ∣ m ↔ a ∣ m ∧ ∀ w ∈ ws, f w ∣ m
  | [], a, m => by simp
  | w :: r, a, m => by
    rw [List.foldl_cons, lcm_foldl_dvd f r, Nat.lcm_dvd_iff]
    simp [and_assoc]
theorem lcmW_dvd {ws : List Win} {m : Nat} : lcmW ws ∣ m ↔ ∀ w ∈ ws, w.2.2.natAbs ∣ m := by
  unfold lcmW
  rw [lcm_foldl_dvd]
  simp
theorem dvd_lcmW {ws : List Win} {w : Win} (h : w ∈ ws) : w.2.2.natAbs ∣ lcmW ws := lcmW_dvd.mp (Nat.dvd_refl _) w h
theorem lcmW_pos : ∀ {ws : List Win}, (∀ w ∈ ws, 0 < w.2.2) → 0 < lcmW ws := by
  intro ws
  unfold lcmW
  suffices h : ∀ (ws : List Win) (a : Nat), 0 < a → (∀ w ∈ ws, 0 < w.2.2) → 0 < ws.foldl (fun a w => a.lcm w.2.2.natAbs) a from h ws 1 (by decide)
  intro ws
  induction ws with
  | nil => intro a ha _; exact ha
  | cons w r ih =>
    intro a ha h
    have := h w List.mem_cons_self
    exact ih _ (Nat.lcm_pos ha (by omega)) fun x hx => h x (List.mem_cons_of_mem _ hx)
theorem lcm_le_mul (a b : Nat) : a.lcm b ≤ a * b := PySem.W.mc_lcm_le a b
theorem lcmW_le {m : Nat} (hm : 1 ≤ m) : ∀ {ws : List Win}, (∀ w ∈ ws, w.2.2.natAbs ≤ m) → lcmW ws ≤ m ^ ws.length := by
  intro ws
  unfold lcmW
  suffices h : ∀ (ws : List Win) (a : Nat), (∀ w ∈ ws, w.2.2.natAbs ≤ m) → ws.foldl (fun a w => a.lcm w.2.2.natAbs) a ≤ a * m ^ ws.length by
    intro hw
    have := h ws 1 hw
    omega
  intro ws
  induction ws with
  | nil => intro a _; simp
  | cons w r ih =>
    intro a h
    have h1 := ih (a.lcm w.2.2.natAbs) fun x hx => h x (List.mem_cons_of_mem _ hx)
    have h2 := lcm_le_mul a w.2.2.natAbs
    have h3 := h w List.mem_cons_self
    rw [List.foldl_cons, List.length_cons, Nat.pow_succ]
    calc _ ≤ a.lcm w.2.2.natAbs * m ^ r.length := h1
      _ ≤ (a * m) * m ^ r.length := Nat.mul_le_mul_right _ (Nat.le_trans h2 (Nat.mul_le_mul_left _ h3))
      _ = a * (m ^ r.length * m) := by rw [Nat.mul_assoc, Nat.mul_comm m]
/-- what the drawn windows are like -/
structure WG (w : Win) : Prop where
  p0 : 1 ≤ w.2.2
  p1 : w.2.2 ≤ 60
  l0 : 0 ≤ w.2.1
  l1 : w.2.1 ≤ 100
/-! ### data -/
def dWin (w : Win) : PyData := .tuple [.int w.1, .int w.2.1, .int w.2.2]
def dWins (ws : List Win) : PyData := .list (ws.map dWin)
theorem shp_win (w : Win) : Shp 1 (dWin w) := shp_tuple fun d hd => by
  rcases List.mem_cons.mp hd with e | hd
  · rw [e]; exact shp_int _
  · rcases List.mem_cons.mp hd with e | hd
    · rw [e]; exact shp_int _
    · rw [List.mem_singleton.mp hd]; exact shp_int _
theorem eqv_win (p q : Win) : PyData.eqv (dWin p) (dWin q) = decide (p = q) := by
  obtain ⟨a, b, c⟩ := p
  obtain ⟨d, e, f⟩ := q
  unfold dWin
  rw [PyData.eqv, PyData.eqvAll, PyData.eqvAll, PyData.eqvAll, PyData.eqvAll, eqv_int, eqv_int, eqv_int, beq_dec, beq_dec, beq_dec, Bool.and_true, Bool.eq_iff_iff, Bool.and_eq_true, Bool.and_eq_true, decide_eq_true_eq, decide_eq_true_eq, decide_eq_true_eq, decide_eq_true_eq, Prod.mk.injEq, Prod.mk.injEq]
theorem shp_wins (ws : List Win) : Shp 2 (dWins ws) := shp_list (shp_map shp_win)
theorem eqv_wins (a b : List Win) : PyData.eqv (dWins a) (dWins b) = decide (a = b) := by
  unfold dWins
  rw [PyData.eqv, eqv_map dWin eqv_win]
theorem dp_win {K : PySem.W.Frag} {H : Hp} {t : Addr} {w : Win} (h : SqT K H t (winV w)) : Dp K H (.ref t) (dWin w) := .tup h (.cons (.int _) (.cons (.int _) (.cons (.int _) .nil)))
theorem dp_wins {K : PySem.W.Frag} {H : Hp} {a : Addr} {ts : List Addr} {ws : List Win} (h : SqL K H a (ts.map V.ref)) (hw : WinsAt K H ts ws) : Dp K H (.ref a) (dWins ws) := .lst h (dp_paired dWin (fun _ _ q => dp_win q) hw)
theorem refs_at {ts : List Addr} {i : Nat} {x : V} (h : (ts.map V.ref)[i]? = some x) : ∃ t, ts[i]? = some t ∧ x = .ref t := by
  rw [List.getElem?_map] at h
  cases e : ts[i]? with
  | none => rw [e] at h; cases h
  | some t => rw [e] at h; exact ⟨t, rfl, (Option.some.inj h).symm⟩
theorem bls_any (bs : List Bool) : inV (.bl true) (bs.map V.bl) = bs.any id := by
  unfold inV
  rw [List.any_map]
  congr 1
  funext b
  cases b <;> rfl
theorem bls_flat (bs : List Bool) : (bs.map V.bl).all flatV = true := by
  rw [List.all_map]
  exact List.all_eq_true.mpr fun _ _ => rfl
theorem eqL_self {α : Type} [DecidableEq α] (f : α → PyData) (h : ∀ x y, PyData.eqv (f x) (f y) = decide (x = y)) (x : α) : PyData.eqv (f x) (f x) = true := by rw [h, decide_eq_true rfl]
theorem andv {ta tb : TE} {σ : L2.St} {H : Hp} {Q : V → Hp → Prop} {a b : Bool} (ha : ∀ Q : V → Hp → Prop, Q (.bl a) H → ta σ H Q) (hb : a = true → ∀ Q : V → Hp → Prop, Q (.bl b) H → tb σ H Q) (h : Q (.bl (a && b)) H) : tAndV ta tb σ H Q := by
  refine ha _ ⟨a, rfl, ?_⟩
  cases a with
  | true => exact iteT (hb rfl _ h)
  | false => exact iteF h
theorem orv {ta tb : TE} {σ : L2.St} {H : Hp} {Q : V → Hp → Prop} {a b : Bool} (ha : ∀ Q : V → Hp → Prop, Q (.bl a) H → ta σ H Q) (hb : a = false → ∀ Q : V → Hp → Prop, Q (.bl b) H → tb σ H Q) (h : Q (.bl (a || b)) H) : tOrV ta tb σ H Q := by
  refine ha _ ⟨a, rfl, ?_⟩
  cases a with
  | true => exact iteT h
  | false => exact iteF (hb rfl _ h)
end My
namespace My
open PySem PySem.Spec PyProof.Rows L2
def top (i : Nat) : Stmt := PySem.Challenge.pw_metronet_k21_texts_that_are_refused.main.body.getD i (.Pass ⟨0, 0, 0, 0⟩)
abbrev sDraw : Stmt := top 15 /-_law_draw-/
abbrev sCell : Stmt := top 16 /-_law_cell-/
/-- the built-in names that the module leaves -/
structure Blt (mg : Str → Option Value) : Prop where
  range : mg "range" = none
  len : mg "len" = none
  int : mg "int" = none
  list : mg "list" = none
  enum : mg "enumerate" = none
section
variable {P : Program} {w : World} {K : PySem.W.Frag} {mg : Str → Option Value} {base : Heap}
/-! ### _law_draw -/
theorem scDraw : FnScope ["cell", "many", "bound", "numbers", "k", "seed", "mixed"] ["cell", "many", "bound"] (defScope sDraw) := ⟨rfl, rfl, rfl, by decide +kernel, rfl, by decide +kernel, by decide +kernel⟩
def spDraw : Sp := fun vs H Q _ => ∃ (c b : Int) (m : Nat), vs = [.int c, .int (m : Int), .int b] ∧ m ≤ 1000 ∧ 0 < b ∧ b < 2 ^ 64 ∧
  ∀ (H' : Hp) (p : Addr) (ns : List Int), Same H H' → H p = none → H' p = some (.lst (ns.map V.int)) → ns.length = m → (∀ x ∈ ns, 0 ≤ x ∧ x < b) → Q (.ref p) H'
theorem ok_draw {f : Addr} {fd : FuncData} {k : Nat} (F : Fun K "_law_draw" "_law_draw" sDraw f fd) (T : Blt mg) : FnOk P w K mg base CX0 (k + 1) f fd ["cell", "many", "bound"] spDraw := by
  refine F.ok scDraw (fun vs H Q E h => ?_) (fun cdv A outer s H vs Q E hr h => ?_)
  · obtain ⟨c, b, m, rfl, _⟩ := h
    rfl
  · obtain ⟨c, b, m, rfl, hm, hb0, hb1, q⟩ := h
    have nd := scDraw.nd
    refine ⟨_, pss_cons (ps_set (i := 3) nd rfl (.inl rfl) (pe_lst pa_nil))
      (pss_cons (ps_if (pt_cmpR op_ge (pv 0) (pe_op op_pow pe_int pe_int) (nomark _))
        (pss_cons (ps_for PassesOwn.never rfl (pi_range1 (by rfl) T.range (pa_cons (pv 1) pa_nil)) (pg_name (i := 4) nd rfl (.inl rfl))
          (pss_cons (ps_expr (pe_bm PySem.F.plainAttrs_list PySem.F.slot_list_append PySem.F.type_list_append mt_append (pv 3)
              (pa_cons (pe_op op_mod (pe_callTy call_int1 (by rfl) T.int (by decide +kernel) (pa_cons (pv 0) pa_nil)) (pv 2)) pa_nil)))
          (pss_one (ps_set (i := 0) nd rfl (.inl rfl) (pe_op op_fdivW (pv 0) (pv 2))))))
        (pss_one (ps_ret (pv 3)))) pss_nil)
      (pss_cons (ps_set (i := 5) nd rfl (.inl rfl) (pe_op op_mod (pe_callTy call_int1 (by rfl) T.int (by decide +kernel) (pa_cons (pv 0) pa_nil)) pe_int))
      (pss_cons (ps_for PassesOwn.never rfl (pi_range1 (by rfl) T.range (pa_cons (pv 1) pa_nil)) (pg_name (i := 4) nd rfl (.inl rfl))
          (pss_cons (ps_set (i := 5) nd rfl (.inl rfl) (pe_op op_mod (pe_callTy call_int1 (by rfl) T.int (by decide +kernel)
              (pa_cons (pe_op op_add (pe_op op_add (pe_op op_mul (pv 5) pe_int) pe_int) (pv 4)) pa_nil)) pe_int))
          (pss_cons (ps_set (i := 6) nd rfl (.inl rfl) (pe_op op_mod (pe_callTy call_int1 (by rfl) T.int (by decide +kernel)
              (pa_cons (pe_op op_add (pe_op op_mul (pv 5) pe_int) (pe_op op_mul pe_int (pv 4))) pa_nil)) pe_int))
          (pss_one (ps_expr (pe_bm PySem.F.plainAttrs_list PySem.F.slot_list_append PySem.F.type_list_append mt_append (pv 3)
              (pa_cons (pe_op op_mod (pe_callTy call_int1 (by rfl) T.int (by decide +kernel) (pa_cons (pe_op op_fdiv (pv 6) pe_int) pa_nil)) (pv 2)) pa_nil)))))))
      (pss_one (ps_ret (pv 3)))))), ?_⟩
    -- numbers = []
    refine ⟨Nat.zero_le _, fun p np => ?_⟩
    have s1 : Same H (upd H p (.lst [])) := same_new np
    -- cell >= 10 ** 18
    refine ⟨_, rfl, _, _, rfl, rfl, ⟨by decide, by decide, by decide⟩, _, _, rfl, rfl, _, rfl, ite2 (fun _ => ?_) (fun _ => ?_)⟩
    · refine ⟨_, rfl, (m : Int), rfl, by omega, by omega, for_range (n := m) (fun i σ H' => ∃ (c' : Int) (ns : List Int) (v4 v5 v6 : Option V), σ = [some (.int c'), some (.int m), some (.int b), some (.ref p), v4, v5, v6] ∧
        Same H H' ∧ H' p = some (.lst (ns.map V.int)) ∧ ns.length = i ∧ ∀ x ∈ ns, 0 ≤ x ∧ x < b) ⟨c, [], none, none, none, rfl, s1, upd_same, rfl, fun x hx => by cases hx⟩ ?_ ?_⟩
      · rintro i σ H' hi ⟨c', ns, v4, v5, v6, rfl, sm, hp, hl, hx⟩
        refine ⟨_, rfl, .inl ⟨rfl, _, SqL.of hp⟩, _, rfl, .inl ⟨_, rfl, _, rfl, _, _, rfl, rfl, hb0, ?_⟩⟩
        refine ⟨p, _, _, rfl, rfl, hp, by rw [List.length_map]; exact small1000 (by omega), ?_⟩
        refine ⟨_, rfl, _, rfl, _, _, rfl, rfl, wide_div (b := 64) hb0 (by omega) (by decide) (by decide), ?_⟩
        refine ⟨c' / b, ns ++ [c' % b], _, v5, v6, rfl, same_mut sm np, ?_, by rw [List.length_append, hl]; rfl, ?_⟩
        · rw [upd_same, List.map_append]; rfl
        · intro x hm
          rcases List.mem_append.mp hm with h1 | h1
          · exact hx x h1
          · rw [List.mem_singleton.mp h1]
            exact ⟨Int.emod_nonneg _ (by omega), Int.emod_lt_of_pos _ hb0⟩
      · rintro σ H' ⟨c', ns, v4, v5, v6, rfl, sm, hp, hl, hx⟩
        exact ⟨_, rfl, q H' p ns sm np hp hl hx⟩
    · refine ⟨_, rfl, .inl ⟨_, rfl, _, _, rfl, rfl, (by show (0 : Int) < 2147483647; decide), ?_⟩⟩
      refine ⟨_, rfl, (m : Int), rfl, by omega, by omega, for_range (n := m) (fun i σ H' => ∃ (c' sd : Int) (ns : List Int) (v4 v6 : Option V), σ = [some (.int c'), some (.int m), some (.int b), some (.ref p), v4, some (.int sd), v6] ∧
        0 ≤ sd ∧ sd < 2147483647 ∧ Same H H' ∧ H' p = some (.lst (ns.map V.int)) ∧ ns.length = i ∧ ∀ x ∈ ns, 0 ≤ x ∧ x < b)
        ⟨c, c % 2147483647, [], none, none, rfl, Int.emod_nonneg _ (by decide), Int.emod_lt_of_pos _ (by decide), s1, upd_same, rfl, fun x hx => by cases hx⟩ ?_ ?_⟩
      · rintro i σ H' hi ⟨c', sd, ns, v4, v6, rfl, d0, d1, sm, hp, hl, hx⟩
        refine ⟨_, rfl, _, _, rfl, rfl, .inl ⟨by omega, by omega⟩, _, _, rfl, rfl, _, rfl, _, _, rfl, rfl, .inl ⟨_, rfl, _, _, rfl, rfl, (by show (0 : Int) < 2147483647; decide), ?_⟩⟩
        have e0 : 0 ≤ (sd * 48271 + 12345 + (0 + (i : Int))) % 2147483647 := Int.emod_nonneg _ (by decide)
        have e1 : (sd * 48271 + 12345 + (0 + (i : Int))) % 2147483647 < 2147483647 := Int.emod_lt_of_pos _ (by decide)
        refine ⟨_, rfl, _, _, rfl, rfl, .inl ⟨by omega, by omega⟩, _, rfl, _, _, rfl, rfl, .inl ⟨by decide, by decide⟩, _, _, rfl, rfl, .inl ⟨_, rfl, _, _, rfl, rfl, (by show (0 : Int) < 2147483629; decide), ?_⟩⟩
        refine ⟨_, rfl, .inl ⟨rfl, _, SqL.of hp⟩, _, rfl, _, _, rfl, rfl, ⟨by decide, by decide⟩, .inl ⟨_, rfl, _, rfl, _, _, rfl, rfl, hb0, ?_⟩⟩
        refine ⟨p, _, _, rfl, rfl, hp, by rw [List.length_map]; exact small1000 (by omega), ?_⟩
        refine ⟨c', _, ns ++ [((sd * 48271 + 12345 + (0 + (i : Int))) % 2147483647 * 69621 + 977 * (0 + (i : Int))) % 2147483629 / 3 % b], _, _, rfl, e0, e1, same_mut sm np, ?_, by rw [List.length_append, hl]; rfl, ?_⟩
        · rw [upd_same, List.map_append]; rfl
        · intro x hm
          rcases List.mem_append.mp hm with h1 | h1
          · exact hx x h1
          · rw [List.mem_singleton.mp h1]
            exact ⟨Int.emod_nonneg _ (by omega), Int.emod_lt_of_pos _ hb0⟩
      · rintro σ H' ⟨c', sd, ns, v4, v6, rfl, d0, d1, sm, hp, hl, hx⟩
        exact ⟨_, rfl, q H' p ns sm np hp hl hx⟩
/-! ### _law_cell -/
theorem scCell : FnScope ["script", "k"] ["script", "k"] (defScope sCell) := ⟨rfl, rfl, rfl, by decide +kernel, rfl, by decide +kernel, by decide +kernel⟩
def spCell (K : PySem.W.Frag) : Sp := fun vs H Q _ => ∃ (a : Addr) (ns : List Int) (j : Nat), vs = [.ref a, .int (j : Int)] ∧ SqL K H a (ns.map V.int) ∧ Q (.int (ns.getD j 0)) H
theorem ok_cell {f : Addr} {fd : FuncData} {k : Nat} (F : Fun K "_law_cell" "_law_cell" sCell f fd) (T : Blt mg) : FnOk P w K mg base CX0 (k + 1) f fd ["script", "k"] (spCell K) := by
  refine F.ok scCell (fun vs H Q E h => ?_) (fun cdv A outer s H vs Q E hr h => ?_)
  · obtain ⟨a, ns, j, rfl, _⟩ := h
    rfl
  · obtain ⟨a, ns, j, rfl, hS, q⟩ := h
    refine ⟨_, pss_cons (ps_if (pt_cmpR op_lt (pv 1) (pe_callB call_len_seq (by rfl) T.len PySem.boot_len (pa_cons (pv 0) pa_nil)) (nomark _))
        (pss_one (ps_ret (pe_ix ix_list (pv 0) (pv 1) (fun _ _ => rfl)))) pss_nil) (pss_one (ps_ret pe_int)), ?_⟩
    refine ⟨_, rfl, _, rfl, a, _, rfl, .inl hS, _, _, rfl, rfl, _, rfl, ite2 (fun e => ?_) (fun e => ?_)⟩
    · have hj : j < ns.length := by
        have := of_decide_eq_true e
        rw [List.length_map] at this
        omega
      refine ⟨_, rfl, _, rfl, a, _, _, _, rfl, rfl, hS, atI_int hj, ?_⟩
      rw [List.getD_eq_getElem?_getD, List.getElem?_eq_getElem hj] at q
      exact q
    · have hj : ns.length ≤ j := by
        rcases Nat.lt_or_ge j ns.length with h | h
        · exact absurd (decide_eq_true (by rw [List.length_map]; omega)) e
        · exact h
      rw [List.getD_eq_getElem?_getD, List.getElem?_eq_none hj] at q
      exact q
/-- what a def's caller knows of it -/
structure Callee (P : Program) (w : World) (K : PySem.W.Frag) (mg : Str → Option Value) (base : Heap) (k : Nat) (x : Str) (ps : List Str) (sp : Sp) (f : Addr) (fd : FuncData) : Prop where
  ok : FnOk P w K mg base CX0 k f fd ps sp
  mg : mg x = some (.ref f)
  kp : PySem.W.keepIn K (.ref f) = true
  b : Binds K fd ps []
end
end My
namespace My
open PySem PySem.Spec PyProof.Rows L2
abbrev sNet : Stmt := top 4 /-Net-/
abbrev sInit : Stmt := inClass sNet 0 /-Net.__init__-/
abbrev sNb : Stmt := inClass sNet 3 /-Net.neighbours-/
section
variable {P : Program} {w : World} {K : PySem.W.Frag} {mg : Str → Option Value} {base : Heap}
/-! ### Net.__init__ -/
theorem scInit : FnScope ["self", "kinds", "lines", "processing", "error", "a", "b", "ticks"] ["self", "kinds", "lines", "processing", "error"] (defScope sInit) := ⟨rfl, rfl, rfl, by decide +kernel, rfl, by decide +kernel, by decide +kernel⟩
abbrev FunInit (K : PySem.W.Frag) (f : Addr) (fd : FuncData) : Prop := FunD K "__init__" "Net.__init__" (defArgs sInit) (defBody sInit) (defScope sInit) [] [("processing", .int 0), ("error", .int 0)] f fd
/-- a Net stands at p, its lists are new -/
def NetNew (K : PySem.W.Frag) (C : Addr) (H H' : Hp) (p : Addr) (N : NetD) : Prop := ∃ (dx lk ll ld : Addr) (ts : List Addr), H' p = some (.ins C dx (netF lk ll N.pr N.er ld)) ∧ H' lk = some (.lst (N.ks.map kindV)) ∧ H' ll = some (.lst (ts.map V.ref)) ∧
  LinesAt K H' ts N.ls ∧ H' ld = some (.dT (delaysOf N.ls)) ∧ H lk = none ∧ H ll = none
theorem NetNew.at {K : PySem.W.Frag} {C : Addr} {H H' : Hp} {p : Addr} {N : NetD} (h : NetNew K C H H' p N) : NetAt K C H' p N := by
  obtain ⟨dx, lk, ll, ld, ts, h1, h2, h3, h4, h5, _⟩ := h
  exact ⟨dx, lk, ll, ld, ts, h1, h2, h3, h4, h5⟩
def spInit (K : PySem.W.Frag) (C : Addr) : Sp := fun vs H Q _ => ∃ (p dx l0 l1 : Addr) (ts : List Addr) (N : NetD), vs = [.ref p, .ref l0, .ref l1, .int N.pr, .int N.er] ∧ H p = some (.ins C dx []) ∧
  SqL K H l0 (N.ks.map kindV) ∧ SqL K H l1 (ts.map V.ref) ∧ LinesAt K H ts N.ls ∧ N.ls.length ≤ 1000 ∧
  ∀ H', (∀ b o, H b = some o → b ≠ p → H' b = some o) → NetNew K C H H' p N → Q .non H'
theorem ok_init {f C : Addr} {fd : FuncData} {k : Nat} (F : FunInit K f fd) (T : Blt mg) (c : NetC K C) : FnOk P w K mg base CX0 (k + 1) f fd ["self", "kinds", "lines", "processing", "error"] (spInit K C) := by
  refine F.ok scInit (fun vs H Q E h => ?_) (fun cdv A outer s H vs Q E hr h => ?_)
  · obtain ⟨p, dx, l0, l1, ts, N, rfl, _⟩ := h
    rfl
  · obtain ⟨p, dx, l0, l1, ts, N, rfl, hp, h0, h1, hts, hlen, q⟩ := h
    have nd := scInit.nd
    have hu := hu_of hr
    refine ⟨_, PSs.nox (pss_cons (ps_fld (pv 0) (pe_callTy call_list_of (by rfl) T.list (by decide +kernel) (pa_cons (pv 1) pa_nil)) rfl)
      (pss_cons (ps_fld (pv 0) (pe_callTy call_list_of (by rfl) T.list (by decide +kernel) (pa_cons (pv 2) pa_nil)) rfl)
      (pss_cons (ps_fld (pv 0) (pv 3) rfl) (pss_cons (ps_fld (pv 0) (pv 4) rfl) (pss_cons (ps_fld (pv 0) pe_dnewT rfl)
      (pss_one (ps_for PassesOwn.never rfl (pi_list (pe_fld (pv 0) rfl))
        (pg_tup rfl (pgs_cons (pg_name (i := 5) nd rfl (.inl rfl)) (pgs_cons (pg_name (i := 6) nd rfl (.inl rfl)) (pgs_cons (pg_name (i := 7) nd rfl (.inl rfl)) pgs_nil))))
        (pss_cons (ps_dput hu (pe_fld (pv 0) rfl) (pe_tup (pa_cons (pv 5) (pa_cons (pv 6) pa_nil))) (pv 7) rfl)
        (pss_one (ps_dput hu (pe_fld (pv 0) rfl) (pe_tup (pa_cons (pv 6) (pa_cons (pv 5) pa_nil))) (pv 7) rfl)))))))))), ?_⟩
    have pnn : ∀ {H1 : Hp} {a : Addr} {u : HO}, H1 p = some u → H1 a = none → p ≠ a := fun e n => ne_of_none e n
    -- self.kinds = list(kinds)
    refine ⟨_, rfl, l0, _, rfl, .inl h0, fun lk nk => ?_⟩
    have npk := pnn hp nk
    refine ⟨_, rfl, p, C, dx, [], rfl, (by rw [upd_ne npk]; exact hp), c.cl, c.n1, (by show 0 < 1000; decide), ?_⟩
    have k1 : But p H _ := but_new (u := .ins C dx (putF "kinds" (.ref lk) [])) (o := .lst (N.ks.map kindV)) nk
    have a1 : (upd (upd H lk (.lst (N.ks.map kindV))) p (.ins C dx (putF "kinds" (.ref lk) []))) lk = some (.lst (N.ks.map kindV)) := by rw [upd_ne npk.symm, upd_same]
    have p1 : (upd (upd H lk (.lst (N.ks.map kindV))) p (.ins C dx (putF "kinds" (.ref lk) []))) p = some (.ins C dx (putF "kinds" (.ref lk) [])) := upd_same
    generalize (upd (upd H lk (.lst (N.ks.map kindV))) p (.ins C dx (putF "kinds" (.ref lk) []))) = H1 at k1 a1 p1 ⊢
    rw [f1] at p1
    -- self.lines = list(lines)
    refine ⟨_, rfl, l1, ts.map V.ref, rfl, .inl (k1.seq hp h1), fun ll nl => ?_⟩
    have npl := pnn p1 nl
    have nlH : H ll = none := by
      cases e : H ll with
      | none => rfl
      | some o =>
        have z := k1 _ _ e npl.symm
        rw [nl] at z
        cases z
    refine ⟨_, rfl, p, C, dx, _, rfl, (by rw [upd_ne npl]; exact p1), c.cl, c.n2, (by show 1 < 1000; decide), ?_⟩
    have k2 : But p H1 _ := but_new (u := .ins C dx (putF "lines" (.ref ll) [(("kinds" : Str), V.ref lk)])) (o := .lst (ts.map V.ref)) nl
    have b2 : (upd (upd H1 ll (.lst (ts.map V.ref))) p (.ins C dx (putF "lines" (.ref ll) [(("kinds" : Str), V.ref lk)]))) ll = some (.lst (ts.map V.ref)) := by rw [upd_ne npl.symm, upd_same]
    have p2 : (upd (upd H1 ll (.lst (ts.map V.ref))) p (.ins C dx (putF "lines" (.ref ll) [(("kinds" : Str), V.ref lk)]))) p = some (.ins C dx (putF "lines" (.ref ll) [(("kinds" : Str), V.ref lk)])) := upd_same
    generalize (upd (upd H1 ll (.lst (ts.map V.ref))) p (.ins C dx (putF "lines" (.ref ll) [(("kinds" : Str), V.ref lk)]))) = H2 at k2 b2 p2 ⊢
    rw [f2] at p2
    have a2 := k2 _ _ a1 npk.symm
    have q2 := k1.trans k2
    -- self.processing, self.error
    refine ⟨_, rfl, _, rfl, p, C, dx, _, rfl, p2, c.cl, c.n3, (by show 2 < 1000; decide), ?_⟩
    refine ⟨_, rfl, _, rfl, p, C, dx, _, rfl, upd_same, c.cl, c.n4, (by rw [f3]; show 3 < 1000; decide), ?_⟩
    have k3 : But p H2 _ := but_self (u := .ins C dx (putF "processing" (.int N.pr) [(("kinds" : Str), V.ref lk), ("lines", V.ref ll)]))
    have k4 : But p _ _ := but_self (H := upd H2 p (.ins C dx (putF "processing" (.int N.pr) [(("kinds" : Str), V.ref lk), ("lines", V.ref ll)]))) (u := .ins C dx (putF "error" (.int N.er) (putF "processing" (.int N.pr) [(("kinds" : Str), V.ref lk), ("lines", V.ref ll)])))
    have q4 := (q2.trans k3).trans k4
    have k34 := k3.trans k4
    have p4 : (upd (upd H2 p (.ins C dx (putF "processing" (.int N.pr) [(("kinds" : Str), V.ref lk), ("lines", V.ref ll)]))) p (.ins C dx (putF "error" (.int N.er) (putF "processing" (.int N.pr) [(("kinds" : Str), V.ref lk), ("lines", V.ref ll)])))) p = some (.ins C dx (putF "error" (.int N.er) (putF "processing" (.int N.pr) [(("kinds" : Str), V.ref lk), ("lines", V.ref ll)]))) := upd_same
    clear k3 k4
    generalize (upd (upd H2 p (.ins C dx (putF "processing" (.int N.pr) [(("kinds" : Str), V.ref lk), ("lines", V.ref ll)]))) p (.ins C dx (putF "error" (.int N.er) (putF "processing" (.int N.pr) [(("kinds" : Str), V.ref lk), ("lines", V.ref ll)])))) = H4 at k34 q4 p4 ⊢
    rw [f3, f4] at p4
    have a4 := k34 _ _ a2 npk.symm
    have b4 := k34 _ _ b2 npl.symm
    -- self._delays = {}
    refine fun ld nd5 => ?_
    have npd := pnn p4 nd5
    refine ⟨_, rfl, p, C, dx, _, rfl, (by rw [upd_ne npd]; exact p4), c.cl, c.n5, (by show 4 < 1000; decide), ?_⟩
    rw [f5]
    have k5 : But p H4 _ := but_new (u := .ins C dx (netF lk ll N.pr N.er ld)) (o := .dT []) nd5
    have c5 : (upd (upd H4 ld (.dT [])) p (.ins C dx (netF lk ll N.pr N.er ld))) ld = some (.dT []) := by rw [upd_ne npd.symm, upd_same]
    have p5 : (upd (upd H4 ld (.dT [])) p (.ins C dx (netF lk ll N.pr N.er ld))) p = some (.ins C dx (netF lk ll N.pr N.er ld)) := upd_same
    generalize (upd (upd H4 ld (.dT [])) p (.ins C dx (netF lk ll N.pr N.er ld))) = H5 at k5 c5 p5 ⊢
    have a5 := k5 _ _ a4 npk.symm
    have b5 := k5 _ _ b4 npl.symm
    have q5 := q4.trans k5
    have ldH : H ld = none := by
      cases z : H ld with
      | none => rfl
      | some u => rw [q4 _ _ z npd.symm] at nd5; cases nd5
    have nkd : lk ≠ ld := fun z => by rw [z, nd5] at a4; cases a4
    have nld : ll ≠ ld := fun z => by rw [z, nd5] at b4; cases b4
    have tlen : ts.length = N.ls.length := hts.length
    -- the loop
    refine ⟨_, rfl, p, C, dx, _, _, rfl, p5, c.cl, c.n2, g2, ll, rfl, ⟨_, SqL.of b5⟩, for_list (K := K) (a := ll) (xs := ts.map V.ref) (fun i σ H' => ∃ (v5 v6 v7 : Option V), σ = [some (.ref p), some (.ref l0), some (.ref l1), some (.int N.pr), some (.int N.er), v5, v6, v7] ∧
      But p H H' ∧ H' p = some (.ins C dx (netF lk ll N.pr N.er ld)) ∧ H' lk = some (.lst (N.ks.map kindV)) ∧ H' ll = some (.lst (ts.map V.ref)) ∧ H' ld = some (.dT (delaysOf (N.ls.take i))))
      ⟨none, none, none, rfl, q5, p5, a5, b5, c5⟩ (fun i σ H' _ ⟨_, _, _, _, _, _, _, hl, _⟩ => SqL.of hl) ?_ ?_⟩
    · rintro i x σ H' hi ⟨v5, v6, v7, rfl, kb, hp', hk', hl', hd'⟩
      rw [List.getElem?_map] at hi
      cases ht : ts[i]? with
      | none => rw [ht] at hi; cases hi
      | some t =>
        rw [ht] at hi
        cases hi
        obtain ⟨l, el, hT⟩ := Paired.at hts ht
        have hT' := kb.tup hp hT
        refine ⟨t, _, rfl, hT', rfl, _, _, rfl, _, _, rfl, _, _, rfl, rfl, ?_⟩
        have hsz : (delaysOf (N.ls.take i)).length ≤ 2000 := by
          have := delays_len (N.ls.take i)
          rw [List.length_take] at this
          omega
        -- self._delays[a, b] = ticks
        refine ⟨_, rfl, _, rfl, p, C, dx, _, _, rfl, hp', c.cl, c.n5, g5, _, rfl, _, rfl, by show 2 ≤ sizeLine; decide, fun k1 nk1 => ?_⟩
        have z1 := same_new (o := .tup [.int (l.1 : Int), .int (l.2.1 : Int)]) nk1
        refine ⟨ld, _, rfl, DPut.t (k := key2 l.1 l.2.1) (z1 _ _ hd') upd_same (szl (by omega)), ?_⟩
        have nk1d : ld ≠ k1 := ne_of_none hd' nk1
        have pd' : p ≠ ld := npd
        refine ⟨_, rfl, _, rfl, p, C, dx, _, _, rfl, by rw [upd_ne pd']; exact z1 _ _ hp', c.cl, c.n5, g5, _, rfl, _, rfl, by show 2 ≤ sizeLine; decide, fun k2 nk2 => ?_⟩
        have z2 := same_new (o := .tup [.int (l.2.1 : Int), .int (l.1 : Int)]) nk2
        refine ⟨ld, _, rfl, DPut.t (k := key2 l.2.1 l.1) (z2 _ _ upd_same) upd_same (szl (by have := length_putK (delaysOf (N.ls.take i)) (key2 l.1 l.2.1) (V.int l.2.2); omega)), ?_⟩
        have all : ∀ b o, H' b = some o → b ≠ ld → (upd (upd (upd (upd H' k1 (.tup [.int (l.1 : Int), .int (l.2.1 : Int)])) ld (.dT (putK (delaysOf (N.ls.take i)) (key2 l.1 l.2.1) (.int l.2.2)))) k2 (.tup [.int (l.2.1 : Int), .int (l.1 : Int)])) ld
            (.dT (putK (putK (delaysOf (N.ls.take i)) (key2 l.1 l.2.1) (.int l.2.2)) (key2 l.2.1 l.1) (.int l.2.2)))) b = some o := fun b o e n => by
          rw [upd_ne n]
          refine z2 _ _ ?_
          rw [upd_ne n]
          exact z1 _ _ e
        refine ⟨_, _, _, rfl, fun b o e n => all _ _ (kb _ _ e n) (ne_of_none e ldH), all _ _ hp' pd', all _ _ hk' nkd, all _ _ hl' nld, ?_⟩
        rw [upd_same, take_snoc el, delays_snoc]
        rfl
    · rintro σ H' ⟨v5, v6, v7, rfl, kb, hp', hk', hl', hd'⟩
      rw [List.length_map, tlen, List.take_length] at hd'
      exact q H' kb ⟨dx, lk, ll, ld, ts, hp', hk', hl', Paired.imp hts fun _ _ z => kb.tup hp z, hd', nk, nlH⟩
/-! ### Net.neighbours -/
theorem scNb : FnScope ["self", "a", "b"] ["self", "a"] (defScope sNb) := ⟨rfl, rfl, rfl, by decide +kernel, rfl, by decide +kernel, by decide +kernel⟩
def spNb (K : PySem.W.Frag) (C : Addr) : Sp := fun vs H Q _ => ∃ (p : Addr) (a : Nat) (N : NetD), vs = [.ref p, .int (a : Int)] ∧ NetAt K C H p N ∧ N.ks.length ≤ 1000 ∧
  ∀ (H' : Hp) (D : Addr), Same H H' → H D = none → H' D = some (.lst (natsV (nbs N a))) → Q (.ref D) H'
theorem ok_nb {f C : Addr} {fd : FuncData} {k : Nat} (F : Fun K "neighbours" "Net.neighbours" sNb f fd) (T : Blt mg) (c : NetC K C) : FnOk P w K mg base CX0 (k + 1) f fd ["self", "a"] (spNb K C) := by
  refine F.ok scNb (fun vs H Q E h => ?_) (fun cdv A outer s H vs Q E hr h => ?_)
  · obtain ⟨p, a, N, rfl, _⟩ := h
    rfl
  · obtain ⟨p, a, N, rfl, hN, hlen, q⟩ := h
    have nd := scNb.nd
    have hu := hu_of hr
    refine ⟨_, pss_one (ps_ret (pe_lc (own := [("b", 2)]) (g := gName 2) rfl nd
      (pi_range1 (by rfl) T.range (pa_cons (pe_callB call_len_seq (by rfl) T.len PySem.boot_len (pa_cons (pe_fld (pv 0) rfl) pa_nil)) pa_nil))
      (blkOk_by (own := [("b", 2)]) (N := ["self", "a", "b"]) (sc := defScope sNb) (by decide +kernel))
      (fun _ _ _ _ _ => pg_name (i := 2) nd rfl (Or.inl rfl))
      (fun _ _ _ _ _ => pts_one (pt_cmp (pc_din hu (pe_tup (pa_cons (pv 1) (pa_cons (pv 2) pa_nil))) (pe_fldK (K := K) (pv 0)))))
      (fun _ _ _ _ _ => pv 2))), ?_⟩
    obtain ⟨dx, lk, ll, ld, ts, e1, e2, e3, e4, e5⟩ := id hN
    refine ⟨_, rfl, p, C, dx, _, _, rfl, e1, c.cl, c.n1, g1, lk, _, rfl, .inl (SqL.of e2), _, rfl, by omega, by rw [List.length_map]; omega, fun D nD => ?_⟩
    have sD := same_new (o := .lst []) nD
    have en : (N.ks.map kindV).length = N.ks.length := List.length_map ..
    refine lc_range (lo := 0) (n := (N.ks.map kindV).length) (fun i H' => Same H H' ∧ H' D = some (.lst (natsV ((List.range i).filter (adj N a))))) ⟨sD, upd_same⟩ ?_ ?_
    · rintro i H' hi ⟨sm, hD⟩
      refine ⟨rfl, ?_⟩
      refine ⟨_, rfl, _, rfl, by show 2 ≤ sizeLine; decide, fun t nt => ?_⟩
      have st := same_new (o := .tup [.int (a : Int), .int (0 + (i : Int))]) nt
      have e5t := st _ _ (sm _ _ e5)
      have nDt : D ≠ t := ne_of_none hD nt
      refine ⟨_, rfl, p, C, dx, _, _, rfl, st _ _ (sm _ _ e1), c.cl, c.n5, g5, ld, valV (delaysOf N.ls) (key2 a i), rfl, ?_, _, rfl, ?_⟩
      · refine DGet.t e5t (k := key2 a i) ?_
        rw [upd_same, Int.zero_add]
        rfl
      · rw [adj_val]
        refine ite2 (fun ea => ?_) (fun ea => ?_)
        · refine ⟨_, rfl, _, by rw [upd_ne nDt]; exact hD, ?_, ?_, ?_⟩
          · rw [natsV, List.length_map]
            have := List.length_filter_le (adj N a) (List.range i)
            rw [List.length_range] at this
            exact small1000 (by omega)
          · exact fun b o e => by
              rw [upd_ne (ne_of_none e nD)]
              exact st _ _ (sm _ _ e)
          · rw [upd_same, List.range_succ, List.filter_append, List.filter_cons, if_pos ea, natsV, natsV, List.map_append, Int.zero_add]
            rfl
        · refine ⟨fun b o e => st _ _ (sm _ _ e), ?_⟩
          rw [upd_ne nDt, List.range_succ, List.filter_append, List.filter_cons, if_neg ea]
          simpa using hD
    · rintro H' ⟨sm, hD⟩
      rw [en] at hD
      exact q H' D sm nD hD
end
end My
namespace My
open PySem PySem.Spec PyProof.Rows L2
/-- how Net(..) is called by its keywords -/
abbrev KBNet (K : PySem.W.Frag) (fd : FuncData) (mv : List Value) : Prop := KBn K fd ["self", "kinds", "lines", "processing", "error"] 3 ["processing", "error"] (fun us ws => us ++ ws) (fun vs zs => vs ++ zs)
theorem kb_net {K : PySem.W.Frag} {f : Addr} {fd : FuncData} (F : FunInit K f fd) : KBn K fd ["self", "kinds", "lines", "processing", "error"] 3 ["processing", "error"] (fun us ws => us ++ ws) (fun vs zs => vs ++ zs) := by
  obtain ⟨mv, h⟩ := F.kbinds0 (ps := ["self", "kinds", "lines", "processing", "error"]) 3 ["processing", "error"] [] (fun us _ ws => us ++ ws) (by simp) (fun q hq => by cases hq) (fun r1 _ r3 => r1.append r3)
    (fun D doc pm an cdv ct us mv ws h1 _ h3 => match us, ws, h1, h3 with | [_, _, _], [_, _], _, _ => rfl)
  exact h
section
variable {P : Program} {w : World} {K : PySem.W.Frag} {mg : Str → Option Value} {base : Heap}
structure NetMk (P : Program) (w : World) (K : PySem.W.Frag) (mg : Str → Option Value) (base : Heap) (C f : Addr) (fd : FuncData) : Prop where
  ok : FnOk P w K mg base CX0 1 f fd ["self", "kinds", "lines", "processing", "error"] (spInit K C)
  mg : mg "Net" = some (.ref C)
  mkC : Mk K C f
  kb : KBn K fd ["self", "kinds", "lines", "processing", "error"] 3 ["processing", "error"] (fun us ws => us ++ ws) (fun vs zs => vs ++ zs)
theorem er_at {z : Int} (h0 : 0 ≤ z) (h1 : z < 4) : ∃ e : Int, atI [V.int 0, V.int 1, V.int 0, V.int 2] z = some (.int e) ∧ 0 ≤ e ∧ e ≤ 2 := by
  have : z = 0 ∨ z = 1 ∨ z = 2 ∨ z = 3 := by omega
  rcases this with rfl | rfl | rfl | rfl
  · exact ⟨0, rfl, by decide, by decide⟩
  · exact ⟨1, rfl, by decide, by decide⟩
  · exact ⟨0, rfl, by decide, by decide⟩
  · exact ⟨2, rfl, by decide, by decide⟩
end
end My
namespace My
open PySem PySem.Spec PyProof.Rows L2
end My
namespace My
open PySem PySem.Spec PyProof.Rows L2
abbrev sDelay : Stmt := inClass sNet 2 /-Net.delay-/
abbrev sPorts : Stmt := top 6 /-ports_of-/
theorem u65 {k : Nat} {A : Around} (r : Room k A) : A.units + 65 < cLine := by
  have := r.un
  omega
theorem cut1 (xs : List V) : cutV xs (some 1) none = xs.drop 1 := by
  unfold cutV
  have e1 : HT.sIx xs.length 0 (some 1) = min 1 xs.length := HT.sIx_nat _ _ 1
  rw [e1, HT.sIx_none]
  cases xs with
  | nil => rfl
  | cons x r =>
    rw [List.length_cons, Nat.min_eq_left (by omega)]
    show (r.take (r.length + 1 - 1)) = r
    rw [Nat.add_sub_cancel, List.take_length]
theorem natsV_drop (r : List Nat) (n : Nat) : (natsV r).drop n = natsV (r.drop n) := by
  unfold natsV
  rw [List.map_drop]
theorem natsV_take (r : List Nat) (n : Nat) : (natsV r).take n = natsV (r.take n) := by
  unfold natsV
  rw [List.map_take]
theorem zip_ports {K : PySem.W.Frag} {H : Hp} : ∀ {a b : List Nat} {ts : List Addr}, Paired (fun (t : Addr) (z : V × V) => H t = some (.tup [z.1, z.2])) ts ((natsV a).zip (natsV b)) → PairsAt K H ts (a.zip b)
  | [], _, _, h => by
    cases h
    exact .nil
  | x :: a, [], _, h => by
    cases h
    exact .nil
  | x :: a, y :: b, _, h => by
    cases h with
    | cons r t => exact .cons (SqT.of r) (zip_ports t)
theorem nats_at {r : List Nat} {i : Nat} {x : V} (h : (natsV r)[i]? = some x) : ∃ n, r[i]? = some n ∧ x = .int (n : Int) := by
  unfold natsV at h
  rw [List.getElem?_map] at h
  cases e : r[i]? with
  | none => rw [e] at h; cases h
  | some n => rw [e] at h; exact ⟨n, rfl, (Option.some.inj h).symm⟩
section
variable {P : Program} {w : World} {K : PySem.W.Frag} {mg : Str → Option Value} {base : Heap}
structure MethOf (P : Program) (w : World) (K : PySem.W.Frag) (mg : Str → Option Value) (base : Heap) (k : Nat) (ps : List Str) (sp : Sp) (f : Addr) (fd : FuncData) : Prop where
  ok : FnOk P w K mg base CX0 k f fd ps sp
  b : Binds K fd ps []
/-! ### Net.delay -/
theorem scDelay : FnScope ["self", "a", "b"] ["self", "a", "b"] (defScope sDelay) := ⟨rfl, rfl, rfl, by decide +kernel, rfl, by decide +kernel, by decide +kernel⟩
def spDelay (K : PySem.W.Frag) (C : Addr) : Sp := fun vs H Q _ => ∃ (p : Addr) (a b : Nat) (N : NetD), vs = [.ref p, .int (a : Int), .int (b : Int)] ∧ NetAt K C H p N ∧ Dist N.ls ∧ ∀ H' : Hp, Same H H' → Q (optV (joined N a b)) H'
theorem ok_delay {f C : Addr} {fd : FuncData} {k : Nat} (F : Fun K "delay" "Net.delay" sDelay f fd) (c : NetC K C) : FnOk P w K mg base CX0 (k + 1) f fd ["self", "a", "b"] (spDelay K C) := by
  refine F.ok scDelay (fun vs H Q E h => ?_) (fun cdv A outer s H vs Q E hr h => ?_)
  · obtain ⟨p, a, b, N, rfl, _⟩ := h
    rfl
  · obtain ⟨p, a, b, N, rfl, hN, hD, q⟩ := h
    have nd := scDelay.nd
    have hu := hu_of hr
    refine ⟨_, pss_one (ps_ret (pe_dget1 hu (pe_fld (pv 0) rfl) (pe_tup (pa_cons (pv 1) (pa_cons (pv 2) pa_nil))) ⟨rfl, rfl, rfl, rfl⟩)), ?_⟩
    obtain ⟨dx, lk, ll, ld, ts, e1, e2, e3, e4, e5⟩ := hN
    refine ⟨_, rfl, p, C, dx, _, _, rfl, e1, c.cl, c.n5, g5, ld, rfl, .inr ⟨_, .inl e5⟩, _, rfl, _, rfl, by show 2 ≤ sizeLine; decide, fun t nt => ?_⟩
    have st := same_new (o := .tup [V.int (a : Int), V.int (b : Int)]) nt
    refine ⟨valV (delaysOf N.ls) (key2 a b), DGet.t (st _ _ e5) (k := key2 a b) (by rw [upd_same]; rfl), ?_⟩
    rw [val_joined hD]
    exact q _ st
/-! ### ports_of -/
theorem scPo : FnScope ["path"] ["path"] (defScope sPorts) := ⟨rfl, rfl, rfl, by decide +kernel, rfl, by decide +kernel, by decide +kernel⟩
def spPo (K : PySem.W.Frag) : Sp := fun vs H Q _ => ∃ (l : Addr) (r : List Nat), vs = [.ref l] ∧ H l = some (.lst (natsV r)) ∧ ∀ (H' : Hp) (D : Addr) (ts : List Addr), Same H H' → H D = none → H' D = some (.lst (ts.map V.ref)) → PairsAt K H' ts (portsOf r) → Q (.ref D) H'
theorem ok_ports {f : Addr} {fd : FuncData} {k : Nat} (F : Fun K "ports_of" "ports_of" sPorts f fd) (T : Blt mg) (hzip : mg "zip" = none) : FnOk P w K mg base CX0 (k + 1) f fd ["path"] (spPo K) := by
  refine F.ok scPo (fun vs H Q E h => ?_) (fun cdv A outer s H vs Q E hr h => ?_)
  · obtain ⟨l, r, rfl, _⟩ := h
    rfl
  · obtain ⟨l, r, rfl, hl, q⟩ := h
    have nd := scPo.nd
    refine ⟨_, pss_one (ps_ret (Zl.pe_listZip rfl (pa_cons (pv 0) (pa_cons (pe_slice sl_list (pv 0) (po_some pe_int) po_none) pa_nil)) (by rfl) T.list (by rfl) hzip)), ?_⟩
    refine ⟨_, rfl, _, rfl, _, rfl, l, _, rfl, SqL.of hl, fun y ny => ?_⟩
    have sy := same_new (o := .lst (cutV (natsV r) (some 1) none)) ny
    rw [cut1, natsV_drop] at *
    refine ⟨l, y, natsV r, natsV (r.drop 1), rfl, SqL.of (sy _ _ hl), SqL.of upd_same, fun H' p ts sm np hp hP => ?_⟩
    exact q H' p ts (sy.trans sm) (sy.free np) hp (zip_ports hP)
end
end My
/-! Streams and entries as data, how the heap bears them. No row. -/
namespace My
open PySem PySem.Spec PyProof.Rows L2
theorem Paired.imp2 {α β : Type} {F G : α → β → Prop} {p : β → Prop} : ∀ {l1 : List α} {l2 : List β}, Paired F l1 l2 → (∀ b ∈ l2, p b) → (∀ a b, F a b → p b → G a b) → Paired G l1 l2
  | _, _, .nil, _, _ => .nil
  | _, _, .cons r t, h, f => .cons (f _ _ r (h _ List.mem_cons_self)) (Paired.imp2 t (fun b hb => h b (List.mem_cons_of_mem _ hb)) f)
structure StrD where
  pe : Int
  ln : Int
  dl : Int
  path : List Nat
deriving DecidableEq
structure EntD where
  s : StrD
  os : List Int
deriving DecidableEq
def stF (pe ln dl : Int) (lp : Addr) : List (Str × V) := [("period", .int pe), ("length", .int ln), ("deadline", .int dl), ("path", .ref lp)]
theorem sf1 {pe : Int} : putF "period" (.int pe) [] = [(("period" : Str), V.int pe)] := rfl
theorem sf2 {pe ln : Int} : putF "length" (.int ln) [(("period" : Str), V.int pe)] = [(("period" : Str), V.int pe), ("length", .int ln)] := putF_new rfl
theorem sf3 {pe ln dl : Int} : putF "deadline" (.int dl) [(("period" : Str), V.int pe), ("length", .int ln)] = [(("period" : Str), V.int pe), ("length", .int ln), ("deadline", .int dl)] := putF_new rfl
theorem sf4 {pe ln dl : Int} {lp : Addr} : putF "path" (.ref lp) [(("period" : Str), V.int pe), ("length", .int ln), ("deadline", .int dl)] = stF pe ln dl lp := putF_new rfl
section
variable {pe ln dl : Int} {lp : Addr}
theorem sg1 : (stF pe ln dl lp).lookup ("period" : Str) = some (.int pe) := rfl
theorem sg2 : (stF pe ln dl lp).lookup ("length" : Str) = some (.int ln) := rfl
theorem sg3 : (stF pe ln dl lp).lookup ("deadline" : Str) = some (.int dl) := rfl
theorem sg4 : (stF pe ln dl lp).lookup ("path" : Str) = some (.ref lp) := rfl
end
/-- the class Stream's facts -/
structure StrC (K : PySem.W.Frag) (C : Addr) : Prop where
  cl : Cls K C
  n1 : NoAttr K C "period"
  n2 : NoAttr K C "length"
  n3 : NoAttr K C "deadline"
  n4 : NoAttr K C "path"
/-- a Stream stands at p -/
def StreamAt (C : Addr) (H : Hp) (p : Addr) (s : StrD) : Prop := ∃ dx lp, H p = some (.ins C dx (stF s.pe s.ln s.dl lp)) ∧ H lp = some (.lst (natsV s.path))
theorem StreamAt.same {C : Addr} {H H' : Hp} {p : Addr} {s : StrD} (h : StreamAt C H p s) (e : Same H H') : StreamAt C H' p s := by
  obtain ⟨dx, lp, h1, h2⟩ := h
  exact ⟨dx, lp, e _ _ h1, e _ _ h2⟩
/-- .. its list is new -/
def StreamNew (C : Addr) (H H' : Hp) (p : Addr) (s : StrD) : Prop := ∃ dx lp, H' p = some (.ins C dx (stF s.pe s.ln s.dl lp)) ∧ H' lp = some (.lst (natsV s.path)) ∧ H lp = none
theorem StreamNew.at {C : Addr} {H H' : Hp} {p : Addr} {s : StrD} (h : StreamNew C H H' p s) : StreamAt C H' p s := by
  obtain ⟨dx, lp, h1, h2, _⟩ := h
  exact ⟨dx, lp, h1, h2⟩
/-- an entry stands at t -/
def EntAt (K : PySem.W.Frag) (C : Addr) (H : Hp) (t : Addr) (e : EntD) : Prop := ∃ p lo, SqT K H t [.ref p, .ref lo] ∧ StreamAt C H p e.s ∧ SqL K H lo (e.os.map V.int)
theorem EntAt.same {K : PySem.W.Frag} {C : Addr} {H H' : Hp} {t : Addr} {e : EntD} (h : EntAt K C H t e) (sm : Same H H') : EntAt K C H' t e := by
  obtain ⟨p, lo, h1, h2, h3⟩ := h
  exact ⟨p, lo, same_tup sm h1, h2.same sm, sm.seq h3⟩
/-- the entries of a plan -/
abbrev EntsAt (K : PySem.W.Frag) (C : Addr) (H : Hp) (ts : List Addr) (es : List EntD) : Prop := Paired (fun (t : Addr) (e : EntD) => EntAt K C H t e) ts es
theorem EntsAt.same {K : PySem.W.Frag} {C : Addr} {H H' : Hp} {ts : List Addr} {es : List EntD} (h : EntsAt K C H ts es) (e : Same H H') : EntsAt K C H' ts es := Paired.imp h fun _ _ q => q.same e
/-- the ticks from the first one at a port to the node behind it -/
def travel (N : NetD) (s : StrD) (h : Nat) : Int := s.ln + (joined N (s.path.getD h 0) (s.path.getD (h + 1) 0)).getD 0 + (if host N (s.path.getD (h + 1) 0) then 0 else N.pr)
def arr (N : NetD) (e : EntD) (h : Nat) : Int := e.os.getD h 0 + travel N e.s h
def winOf (e : EntD) (h : Nat) : Win := (e.os.getD h 0, e.s.ln, e.s.pe)
/-- its path is one of the net -/
structure PathOk (N : NetD) (s : StrD) : Prop where
  is : IsP N s.path
  lt : ∀ x ∈ s.path, x < N.ks.length
  le : s.path.length ≤ 10
theorem PathOk.joined {N : NetD} {s : StrD} (h : PathOk N s) {k : Nat} (hk : k + 1 < s.path.length) : ∃ d, joined N (s.path.getD k 0) (s.path.getD (k + 1) 0) = some d := by
  have := joined_some N (s.path.getD k 0) (s.path.getD (k + 1) 0)
  rw [h.is.ad k hk] at this
  exact Option.isSome_iff_exists.mp this
theorem PathOk.ltk {N : NetD} {s : StrD} (h : PathOk N s) {k : Nat} (hk : k < s.path.length) : s.path.getD k 0 < N.ks.length := h.lt _ (getD_in hk)
end My
namespace My
open PySem PySem.Spec PyProof.Rows L2
abbrev sStream : Stmt := top 8 /-Stream-/
abbrev sSInit : Stmt := inClass sStream 0 /-Stream.__init__-/
section
variable {P : Program} {w : World} {K : PySem.W.Frag} {mg : Str → Option Value} {base : Heap}
/-! ### Stream.__init__ -/
theorem scSInit : FnScope ["self", "period", "length", "deadline", "path"] ["self", "period", "length", "deadline", "path"] (defScope sSInit) := ⟨rfl, rfl, rfl, by decide +kernel, rfl, by decide +kernel, by decide +kernel⟩
def spSInit (K : PySem.W.Frag) (C : Addr) : Sp := fun vs H Q _ => ∃ (p dx l0 : Addr) (s : StrD), vs = [.ref p, .int s.pe, .int s.ln, .int s.dl, .ref l0] ∧ H p = some (.ins C dx []) ∧ SqL K H l0 (natsV s.path) ∧
  ∀ H', (∀ b o, H b = some o → b ≠ p → H' b = some o) → StreamNew C H H' p s → Q .non H'
theorem ok_sinit {f C : Addr} {fd : FuncData} {k : Nat} (F : Fun K "__init__" "Stream.__init__" sSInit f fd) (T : Blt mg) (c : StrC K C) : FnOk P w K mg base CX0 (k + 1) f fd ["self", "period", "length", "deadline", "path"] (spSInit K C) := by
  refine F.ok scSInit (fun vs H Q E h => ?_) (fun cdv A outer s H vs Q E hr h => ?_)
  · obtain ⟨p, dx, l0, s, rfl, _⟩ := h
    rfl
  · obtain ⟨p, dx, l0, s, rfl, hp, h0, q⟩ := h
    have nd := scSInit.nd
    refine ⟨_, PSs.nox (pss_cons (ps_fld (pv 0) (pv 1) rfl) <| pss_cons (ps_fld (pv 0) (pv 2) rfl) <| pss_cons (ps_fld (pv 0) (pv 3) rfl) <| pss_one (ps_fld (pv 0) (pe_callTy call_list_of (by rfl) T.list (by decide +kernel) (pa_cons (pv 4) pa_nil)) rfl)), ?_⟩
    refine ⟨_, rfl, _, rfl, p, C, dx, [], rfl, hp, c.cl, c.n1, (by show 0 < 1000; decide), ?_⟩
    refine ⟨_, rfl, _, rfl, p, C, dx, _, rfl, upd_same, c.cl, c.n2, (by rw [sf1]; show 1 < 1000; decide), ?_⟩
    refine ⟨_, rfl, _, rfl, p, C, dx, _, rfl, upd_same, c.cl, c.n3, (by rw [sf1, sf2]; show 2 < 1000; decide), ?_⟩
    rw [sf1, sf2, sf3]
    have k3 : But p H (upd (upd (upd H p (.ins C dx [(("period" : Str), V.int s.pe)])) p (.ins C dx [(("period" : Str), V.int s.pe), ("length", .int s.ln)])) p (.ins C dx [(("period" : Str), V.int s.pe), ("length", .int s.ln), ("deadline", .int s.dl)])) := (but_self.trans but_self).trans but_self
    have p3 : (upd (upd (upd H p (.ins C dx [(("period" : Str), V.int s.pe)])) p (.ins C dx [(("period" : Str), V.int s.pe), ("length", .int s.ln)])) p (.ins C dx [(("period" : Str), V.int s.pe), ("length", .int s.ln), ("deadline", .int s.dl)])) p = some (.ins C dx [(("period" : Str), V.int s.pe), ("length", .int s.ln), ("deadline", .int s.dl)]) := upd_same
    generalize (upd (upd (upd H p (.ins C dx [(("period" : Str), V.int s.pe)])) p (.ins C dx [(("period" : Str), V.int s.pe), ("length", .int s.ln)])) p (.ins C dx [(("period" : Str), V.int s.pe), ("length", .int s.ln), ("deadline", .int s.dl)])) = H3 at k3 p3 ⊢
    refine ⟨_, rfl, l0, _, rfl, .inl (k3.seq hp h0), fun lp nl => ?_⟩
    have npl : p ≠ lp := ne_of_none p3 nl
    refine ⟨_, rfl, p, C, dx, _, rfl, (by rw [upd_ne npl]; exact p3), c.cl, c.n4, (by show 3 < 1000; decide), ?_⟩
    rw [sf4]
    have nlH : H lp = none := by
      cases e : H lp with
      | none => rfl
      | some o =>
        have z := k3 _ _ e npl.symm
        rw [nl] at z
        cases z
    refine q _ (k3.trans (but_new nl)) ⟨dx, lp, upd_same, ?_, nlH⟩
    rw [upd_ne npl.symm, upd_same]
/-- how a Stream is made -/
structure StrMk (P : Program) (w : World) (K : PySem.W.Frag) (mg : Str → Option Value) (base : Heap) (C f : Addr) (fd : FuncData) : Prop where
  ok : FnOk P w K mg base CX0 1 f fd ["self", "period", "length", "deadline", "path"] (spSInit K C)
  mg : mg "Stream" = some (.ref C)
  mkC : Mk K C f
  b : Binds K fd ["self", "period", "length", "deadline", "path"] []
  kp : PySem.W.keepIn K (.ref C) = true
end
end My
namespace My
open PySem PySem.Spec PyProof.Rows L2
theorem gl {xs : List Int} {y : Int} {j : Nat} (h : j < xs.length) : (xs ++ [y]).getD j 0 = xs.getD j 0 := by
  rw [List.getD_eq_getElem?_getD, List.getElem?_append_left h, ← List.getD_eq_getElem?_getD]
theorem gr {xs : List Int} {y : Int} : (xs ++ [y]).getD xs.length 0 = y := by
  rw [List.getD_eq_getElem?_getD, List.getElem?_append_right (Nat.le_refl _), Nat.sub_self]
  rfl
/-- offsets as they are drawn -/
structure OsOk (N : NetD) (s : StrD) (os : List Int) : Prop where
  nn : ∀ h, h < os.length → 0 ≤ os.getD h 0
  fst : os.getD 0 0 < s.pe
  lo : ∀ h, h + 1 < os.length → os.getD h 0 + travel N s h + 2 * N.er - 1 ≤ os.getD (h + 1) 0
  hi : ∀ h, h + 1 < os.length → os.getD (h + 1) 0 ≤ max 0 (os.getD h 0 + travel N s h + 2 * N.er + 3)
theorem OsOk.snoc {N : NetD} {s : StrD} {os : List Int} {x : Int} (h : OsOk N s os) (h1 : 1 ≤ os.length) (x0 : 0 ≤ x) (lo : os.getD (os.length - 1) 0 + travel N s (os.length - 1) + 2 * N.er - 1 ≤ x) (hi : x ≤ max 0 (os.getD (os.length - 1) 0 + travel N s (os.length - 1) + 2 * N.er + 3)) : OsOk N s (os ++ [x]) := by
  have ll : (os ++ [x]).length = os.length + 1 := by rw [List.length_append]; rfl
  refine ⟨fun k hk => ?_, ?_, fun k hk => ?_, fun k hk => ?_⟩
  · rcases Nat.lt_or_ge k os.length with c | c
    · rw [gl c]; exact h.nn k c
    · have : k = os.length := by omega
      rw [this, gr]; exact x0
  · rw [gl (by omega)]; exact h.fst
  · rcases Nat.lt_or_ge (k + 1) os.length with c | c
    · rw [gl c, gl (by omega)]; exact h.lo k c
    · have e : k + 1 = os.length := by omega
      have e2 : k = os.length - 1 := by omega
      rw [e, gr, gl (by omega), e2]; exact lo
  · rcases Nat.lt_or_ge (k + 1) os.length with c | c
    · rw [gl c, gl (by omega)]; exact h.hi k c
    · have e : k + 1 = os.length := by omega
      have e2 : k = os.length - 1 := by omega
      rw [e, gr, gl (by omega), e2]; exact hi
/-- entries as they are drawn -/
structure EntWf (N : NetD) (R : List (List Nat)) (e : EntD) : Prop where
  mem : e.s.path ∈ R
  len : e.os.length + 1 = e.s.path.length
  p0 : 4 ≤ e.s.pe
  p1 : e.s.pe ≤ 12
  l0 : 1 ≤ e.s.ln
  l1 : e.s.ln ≤ 3
  d0 : 1 ≤ e.s.dl
  os : OsOk N e.s e.os
theorem pe_at {z : Int} (h0 : 0 ≤ z) (h1 : z < 6) : ∃ e : Int, atI [V.int 6, V.int 8, V.int 12, V.int 5, V.int 10, V.int 4] z = some (.int e) ∧ 4 ≤ e ∧ e ≤ 12 := by
  have : z = 0 ∨ z = 1 ∨ z = 2 ∨ z = 3 ∨ z = 4 ∨ z = 5 := by omega
  rcases this with rfl | rfl | rfl | rfl | rfl | rfl
  · exact ⟨6, rfl, by decide, by decide⟩
  · exact ⟨8, rfl, by decide, by decide⟩
  · exact ⟨12, rfl, by decide, by decide⟩
  · exact ⟨5, rfl, by decide, by decide⟩
  · exact ⟨10, rfl, by decide, by decide⟩
  · exact ⟨4, rfl, by decide, by decide⟩
end My
namespace My
open PySem PySem.Spec PyProof.Rows L2
theorem same_make {H1 H' : Hp} {x dx : Addr} {o1 o2 : HO} (nx : H1 x = none) (ndx : H1 dx = none) (kb : ∀ b o, (upd (upd H1 dx o1) x o2) b = some o → b ≠ x → H' b = some o) : Same H1 H' := fun b u e => kb b u (by rw [upd_ne (ne_of_none e nx), upd_ne (ne_of_none e ndx)]; exact e) (ne_of_none e nx)
theorem same_make0 {H1 : Hp} {x dx : Addr} {o1 o2 : HO} (nx : H1 x = none) (ndx : H1 dx = none) : Same H1 (upd (upd H1 dx o1) x o2) := fun b u e => by rw [upd_ne (ne_of_none e nx), upd_ne (ne_of_none e ndx)]; exact e
theorem max_one (a : Int) : 1 ≤ (if a > 1 then a else 1) := by split <;> omega
theorem max_nn (a : Int) : 0 ≤ (if a > 0 then a else 0) := by split <;> omega
theorem max_lo {l : Int} (a : Int) (h : -1 ≤ l) : a - 1 ≤ (if a + l > 0 then a + l else 0) := by split <;> omega
theorem max_hi {l : Int} (a : Int) (h : l ≤ 3) : (if a + l > 0 then a + l else 0) ≤ max 0 (a + 3) := by split <;> omega
end My
namespace My
open PySem PySem.Spec PyProof.Rows L2
def numT (i : Int) : Str := Str.ofString (toString i)
theorem num_len {i : Int} (h0 : 0 ≤ i) (h : i < 10 ^ 10) : (numT i).length ≤ 10 := toString_length_le h0 (by decide) h
theorem num_log {i : Int} (h0 : 0 ≤ i) (h : i < 10 ^ 10) : i.natAbs.log2 < 1920 := by
  have h1 : i.natAbs < 2 ^ 1920 := Nat.lt_of_lt_of_le (show i.natAbs < 10 ^ 10 by omega) (by decide)
  by_cases z : i.natAbs = 0
  · rw [z]
    decide
  · exact (Nat.log2_lt z).mpr h1
/-- numbers with a comma between two of them -/
def commaT (ns : List Int) : Str := Txt.join "," (ns.map numT)
end My
namespace My
open PySem PySem.Spec PyProof.Rows L2
/-- texts one behind the other -/
def jsT (ps : List Str) : Str := ps.foldl (· ++ ·) Str.empty
def netT (N : NetD) : Str := jsT ["net ", numT N.pr, " ", numT N.er]
def lnT (l : Nat × Nat × Int) : Str := jsT ["line ", numT (l.1 : Int), " ", numT (l.2.1 : Int), " ", numT l.2.2]
def wdT (s : StrD) : Str := jsT [numT s.pe, " ", numT s.ln, " ", numT s.dl]
def enT (e : EntD) : Str := jsT ["stream ", wdT e.s, " ", commaT (e.s.path.map fun (n : Nat) => (n : Int)), " ", commaT e.os]
def kdT (b : Bool) : Str := if b then "host" else "switch"
def rowsT (N : NetD) (es : List EntD) : List Str := [netT N] ++ N.ks.map kdT ++ N.ls.map lnT ++ es.map enT
def planT (N : NetD) (es : List EntD) : Str := Txt.join "" ((rowsT N es).map fun r => jsT [r, "\n"])
theorem jl {a b : Str} {m n : Nat} (h : a.length ≤ m) (g : b.length ≤ n) : (a ++ b).length ≤ m + n := by
  rw [Str.length_append]
  omega
theorem slz {s : Str} {m : Nat} (h : s.length ≤ m) (g : m ≤ 100000 := by decide) : s.length ≤ sizeLine := Nat.le_trans (Nat.le_trans h g) (by decide)
theorem l0 : Str.empty.length ≤ 0 := Nat.le_refl _
theorem l1 : (" " : Str).length ≤ 10 := by decide +kernel
theorem l2 : ("net " : Str).length ≤ 10 := by decide +kernel
theorem l3 : ("line " : Str).length ≤ 10 := by decide +kernel
theorem l4 : ("stream " : Str).length ≤ 10 := by decide +kernel
theorem l5 : ("\n" : Str).length ≤ 10 := by decide +kernel
theorem kd_len (b : Bool) : (kdT b).length ≤ 10 := by cases b <;> decide +kernel
theorem comma_len {ns : List Int} (h : ∀ n ∈ ns, 0 ≤ n ∧ n < 10 ^ 10) : (commaT ns).length ≤ 11 * ns.length := by
  unfold commaT
  rw [TL.join_eq, TL.len_tl, TL.tl_join]
  have e1 : (TL.tl (",":Str)).length = 1 := by decide +kernel
  generalize TL.tl (",":Str) = S at e1
  induction ns with
  | nil => exact Nat.le_refl _
  | cons a r ih =>
    have ih := ih fun n hn => h n (List.mem_cons_of_mem _ hn)
    have ha := num_len (h a List.mem_cons_self).1 (h a List.mem_cons_self).2
    rw [TL.len_tl] at ha
    cases r with
    | nil =>
      show (TL.tl (numT a)).length ≤ 11 * 1
      omega
    | cons b t =>
      show (TL.tl (numT a) ++ (S ++ TL.joinL S (((b :: t).map numT).map TL.tl))).length ≤ 11 * ((b :: t).length + 1)
      rw [List.length_append, List.length_append]
      omega
end My
namespace My
open PySem PySem.Spec PyProof.Rows L2
/-- rows with a line feed behind each -/
def glueT (R : List Str) : Str := Txt.join "" (R.map fun r => jsT [r, "\n"])
theorem tl_flat : ∀ ps : List (List Nat), TL.joinL [] ps = ps.flatten
  | [] => rfl
  | [p] => by
    show p = p ++ []
    rw [List.append_nil]
  | p :: q :: r => by
    show p ++ ([] ++ TL.joinL [] (q :: r)) = p ++ (q :: r).flatten
    rw [List.nil_append, tl_flat (q :: r)]
theorem tl_glue (R : List Str) : TL.tl (glueT R) = (R.map fun r => TL.tl r ++ TL.tl ("\n" : Str)).flatten := by
  unfold glueT
  rw [TL.join_eq, TL.tl_join, show TL.tl ("" : Str) = [] by decide +kernel, tl_flat, List.map_map]
  congr 1
  refine List.map_congr_left fun r _ => ?_
  show TL.tl ((Str.empty ++ r) ++ ("\n" : Str)) = _
  rw [TL.tl_append, TL.tl_append]
  rfl
theorem glue_snoc (R : List Str) (r : Str) : glueT (R ++ [r]) = (glueT R ++ r) ++ ("\n" : Str) := by
  refine TL.ext_tl ?_
  rw [TL.tl_append, TL.tl_append, tl_glue, tl_glue, List.map_append, List.flatten_append, List.append_assoc]
  congr 1
  show (TL.tl r ++ TL.tl ("\n" : Str)) ++ [] = _
  rw [List.append_nil]
theorem sapp (a b c : Str) : (a ++ b) ++ c = a ++ (b ++ c) := TL.ext_tl (by rw [TL.tl_append, TL.tl_append, TL.tl_append, TL.tl_append, List.append_assoc])
theorem tl_js (ps : List Str) : TL.tl (jsT ps) = (ps.map TL.tl).flatten := by
  unfold jsT
  have gen : ∀ (ps : List Str) (a : Str), TL.tl (ps.foldl (· ++ ·) a) = TL.tl a ++ (ps.map TL.tl).flatten := by
    intro ps
    induction ps with
    | nil => intro a; exact (List.append_nil _).symm
    | cons p r ih =>
      intro a
      rw [List.foldl_cons, ih, TL.tl_append, List.map_cons, List.flatten_cons, List.append_assoc]
  rw [gen]
  rfl
theorem glue_len {R : List Str} (h : ∀ r ∈ R, r.length ≤ 3000) : (glueT R).length ≤ 3010 * R.length := by
  rw [TL.len_tl, tl_glue]
  induction R with
  | nil => exact Nat.le_refl _
  | cons a t ih =>
    have h1 := ih fun r hr => h r (List.mem_cons_of_mem _ hr)
    have h2 := h a List.mem_cons_self
    have h3 := l5
    rw [TL.len_tl] at h2 h3
    rw [List.map_cons, List.flatten_cons, List.length_append, List.length_append, List.length_cons]
    omega
theorem txt0 (a b : Str) : ((((("net " : Str) ++ a) ++ (" " : Str)) ++ b) ++ ("\n" : Str)) = glueT [jsT ["net ", a, " ", b]] := TL.ext_tl (by
  rw [tl_glue]
  simp only [TL.tl_append, tl_js, List.map_cons, List.map_nil, List.flatten_cons, List.flatten_nil, List.append_assoc, List.append_nil])
theorem txt1 (t a b d : Str) : ((((((t ++ ("line " : Str)) ++ a) ++ (" " : Str)) ++ b) ++ (" " : Str)) ++ d) = t ++ jsT ["line ", a, " ", b, " ", d] := TL.ext_tl (by
  simp only [TL.tl_append, tl_js, List.map_cons, List.map_nil, List.flatten_cons, List.flatten_nil, List.append_assoc, List.append_nil])
theorem txt2 (t a b d x y : Str) : (t ++ ("stream " : Str)) ++ Txt.join (" " : Str) [a, b, d, x, y] = t ++ jsT ["stream ", jsT [a, " ", b, " ", d], " ", x, " ", y] := TL.ext_tl (by
  rw [TL.tl_append, TL.tl_append, TL.join_eq, TL.tl_join]
  simp only [TL.tl_append, tl_js, List.map_cons, List.map_nil, List.flatten_cons, List.flatten_nil, List.append_assoc, List.append_nil, TL.joinL])
/-- [str(x) for x in a list of numbers], joined by commas -/
theorem comma_read {K K2 : PySem.W.Frag} {te0 : TE} {j : Nat} {vs : List Nat} {σ : L2.St} {H : Hp} {Q : VK} {a : Addr} {ns : List Int} (h0 : ∀ R : VK, R (.ref a) H → te0 σ H R) (ha : SqL K H a (ns.map V.int)) (hn : ∀ n ∈ ns, 0 ≤ n ∧ n < 10 ^ 10) (hl : ns.length ≤ 1000)
    (hw : ∀ v : V, wipe ((wipe σ vs).set j (some v)) vs = wipe σ vs) (hg : ∀ v : V, ((wipe σ vs).set j (some v))[j]? = some (some v)) (q : ∀ G, Same H G → Q (.str (commaT ns)) G) :
    tM1 (fun x xs H Q => ∃ a p, ∃ ys : List Str, x = .str a ∧ xs = [.ref p] ∧ (SqL K2 H p (ys.map V.str) ∨ SqT K2 H p (ys.map V.str)) ∧ (ys.map (·.length)).sum + ys.length * a.length ≤ 16777216 ∧ Q (.str (Txt.join a ys)) H) (tC (.str ("," : Str))) (tLc (iList K te0) (gName j) tYes (tCB (fun xs H Q => ∃ i, xs = [.int i] ∧ i.natAbs.log2 < 1920 ∧ Q (.str (toString i)) H) (tCons (tVar j) tNil)) vs) σ H Q := by
  refine ⟨⟨_, rfl⟩, h0 _ ⟨a, rfl, ⟨_, ha⟩, fun D nD => ?_⟩⟩
  refine lc_it walk_list (fun i G => Same H G ∧ G D = some (.lst (((ns.take i).map numT).map V.str))) ⟨same_new nD, upd_same⟩ (fun i G _ z => Same.seq z.1 ha) ?_ ?_
  · intro i x G0 G hi pG y
    obtain ⟨e, hx⟩ := y
    subst e
    obtain ⟨sm, hD⟩ := pG
    obtain ⟨n, en, rfl⟩ := ints_at hx
    have il : i < ns.length := (List.getElem?_eq_some_iff.mp en).1
    have nb := hn n (List.mem_of_getElem? en)
    refine ⟨hw _, _, hg _, n, rfl, num_log nb.1 nb.2, _, hD, szl (by rw [List.length_map, List.length_map, List.length_take]; omega), same_but sm nD but_self, ?_⟩
    rw [upd_same, take_snoc en, List.map_append, List.map_append]
    rfl
  · rintro G ⟨sm, hD⟩
    rw [List.length_map, List.take_length] at hD
    refine ⟨_, D, ns.map numT, rfl, rfl, .inl (SqL.of hD), ?_, q G sm⟩
    have sum : ∀ ns : List Int, (∀ n ∈ ns, 0 ≤ n ∧ n < 10 ^ 10) → ((ns.map numT).map (·.length)).sum ≤ 10 * ns.length := by
      intro ns
      induction ns with
      | nil => intro _; exact Nat.le_refl _
      | cons a r ih =>
        intro h
        have h1 := ih fun n hn => h n (List.mem_cons_of_mem _ hn)
        have h2 := num_len (h a List.mem_cons_self).1 (h a List.mem_cons_self).2
        show (numT a).length + ((r.map numT).map (·.length)).sum ≤ 10 * (r.length + 1)
        omega
    have h1 := sum ns hn
    have h2 : (("," : Str)).length = 1 := by decide +kernel
    rw [List.length_map, h2]
    omega
end My
namespace My
open PySem PySem.Spec PyProof.Rows L2
abbrev sIsNum : Stmt := top 13 /-is_number-/
theorem dec_str (a b : Str) : decide (V.str a = V.str b) = decide (a = b) := by
  by_cases h : a = b
  · rw [h]; simp
  · rw [decide_eq_false h, decide_eq_false]
    intro z
    injection z with z
    exact h z
section
variable {P : Program} {w : World} {K : PySem.W.Frag} {mg : Str → Option Value} {base : Heap}
theorem scIsNum : FnScope ["word"] ["word"] (defScope sIsNum) := ⟨rfl, rfl, rfl, by decide +kernel, rfl, by decide +kernel, by decide +kernel⟩
def isNumT (y : Str) : Bool := decide (y = ("0" : Str)) || (Txt.isdigit y && (!decide ((⟨#[y.cps.toList.headD 0]⟩ : Str) = ("0" : Str)) && decide ((y.length : Int) ≤ 9)))
def spIsNum : Sp := fun vs H Q _ => ∃ y : Str, vs = [.str y] ∧ y.length ≤ 640 ∧ Q (.bl (isNumT y)) H
theorem ok_isnum {f : Addr} {fd : FuncData} {k : Nat} (F : Fun K "is_number" "is_number" sIsNum f fd) (hlen : mg "len" = none) : FnOk P w K mg base CX0 (k + 1) f fd ["word"] spIsNum := by
  refine F.ok scIsNum (fun vs H Q E h => ?_) (fun cdv A0 outer s0 H vs Q E hr h => ?_)
  · obtain ⟨y, rfl, _⟩ := h
    rfl
  · obtain ⟨y, rfl, hy, q⟩ := h
    have nd := scIsNum.nd
    refine ⟨_, pss_one (ps_ret (pe_or (pe_cmpR op_eq (pv 0) pe_str (nomark _)) (pe_one (pe_and (pe_m0 PySem.F.slot_str_isdigit PySem.F.type_str_isdigit mt_isdigit (pv 0)) (pe_and (pe_cmpR op_ne (pe_ix ix_str (pv 0) pe_int (fun _ _ => rfl)) pe_str (nomark _)) (pe_one (pe_cmpR op_le (pe_callB call_len_str (by rfl) hlen PySem.boot_len (pa_cons (pv 0) pa_nil)) pe_int (nomark _)))))))), ?_⟩
    dsimp only [tRet]
    have sl : y.length ≤ sizeLine := Nat.le_trans hy (by decide)
    refine orv (a := decide (y = ("0" : Str))) (b := Txt.isdigit y && (!decide ((⟨#[y.cps.toList.headD 0]⟩ : Str) = ("0" : Str)) && decide ((y.length : Int) ≤ 9))) (fun Q h => ⟨_, rfl, rfl, by rw [dec_str]; exact h⟩) (fun _ Q h => ?_) q
    refine andv (a := Txt.isdigit y) (b := !decide ((⟨#[y.cps.toList.headD 0]⟩ : Str) = ("0" : Str)) && decide ((y.length : Int) ≤ 9)) (fun Q h => ⟨_, rfl, ⟨_, rfl⟩, _, rfl, rfl, trivial, h⟩) (fun di Q h => ?_) h
    have ne : ∃ c r, y.cps.toList = c :: r := by
      cases e : y.cps.toList with
      | nil =>
        have : y.length = 0 := by
          show y.cps.size = 0
          rw [← Array.length_toList, e]
          rfl
        unfold Txt.isdigit at di
        rw [this] at di
        exact absurd di (by simp)
      | cons c r => exact ⟨c, r, rfl⟩
    obtain ⟨c, r, ec⟩ := ne
    have eh : y.cps.toList.headD 0 = c := by rw [ec]; rfl
    refine andv (a := !decide ((⟨#[y.cps.toList.headD 0]⟩ : Str) = ("0" : Str))) (b := decide ((y.length : Int) ≤ 9)) (fun Q h => ?_) (fun _ Q h => ⟨_, rfl, y, rfl, sl, _, _, rfl, rfl, h⟩) h
    refine ⟨_, rfl, y, 0, c, rfl, rfl, sl, (by rw [ec]; exact atI_nat (j := 0) rfl), rfl, ?_⟩
    rw [dec_str, ← eh]
    exact h
end
end My
namespace My
open PySem PySem.Spec PyProof.Rows L2
theorem dig_all : ∀ c : Nat, c < 128 → 48 ≤ c → c ≤ 57 → Unicode.isDigit c = true := by decide +kernel
theorem numL_head (n : Nat) : 0 < n → (TL.numL n).headD 0 ≠ 48 := by
  induction n using Nat.strongRecOn with
  | ind n ih =>
    intro h
    by_cases lt : n < 10
    · rw [TL.numL_lt lt]
      show 48 + n ≠ 48
      omega
    · rw [TL.numL_step (by omega)]
      have := ih (n / 10) (by omega) (by omega)
      cases e : TL.numL (n / 10) with
      | nil => exact absurd e (TL.numL_ne _)
      | cons a r =>
        rw [e] at this
        exact this
theorem numT_tl {i : Int} (h0 : 0 ≤ i) : TL.tl (numT i) = TL.numL i.toNat := by
  have e : i = ((i.toNat : Nat) : Int) := by omega
  have := TL.tl_num i.toNat
  rw [← e] at this
  exact this
/-- what is written for a number is read as one -/
theorem isnum_num {i : Int} (h0 : 0 ≤ i) (h1 : i < 10 ^ 9) : isNumT (numT i) = true := by
  have et := numT_tl h0
  have len : (numT i).length ≤ 9 := toString_length_le h0 (by decide) h1
  unfold isNumT
  by_cases z : i = 0
  · rw [z, show decide (numT 0 = ("0" : Str)) = true by decide +kernel]
    rfl
  · have dg : Txt.isdigit (numT i) = true := by
      unfold Txt.isdigit
      rw [Bool.and_eq_true]
      constructor
      · refine decide_eq_true ?_
        rw [TL.len_tl, et]
        exact List.length_pos_iff.mpr (TL.numL_ne _)
      · rw [Array.all_eq_true']
        intro c hc
        have hc : c ∈ TL.tl (numT i) := Array.mem_toList_iff.mpr hc
        rw [et] at hc
        have := TL.numL_digits i.toNat c hc
        exact dig_all c (by omega) (by omega) (by omega)
    have hd : decide ((⟨#[(numT i).cps.toList.headD 0]⟩ : Str) = ("0" : Str)) = false := by
      refine decide_eq_false fun y => numL_head i.toNat (by omega) ?_
      have e2 : (numT i).cps.toList = TL.numL i.toNat := et
      rw [e2] at y
      have := congrArg TL.tl y
      have e3 : TL.tl ("0" : Str) = [48] := by decide +kernel
      rw [e3] at this
      have this : [(TL.numL i.toNat).headD 0] = [48] := this
      exact (List.cons.inj this).1
    rw [dg, hd, decide_eq_true (show ((numT i).length : Int) ≤ 9 by omega)]
    simp
theorem int_numT {i : Int} (h0 : 0 ≤ i) (h1 : i < 10 ^ 9) : intText? (numT i) = some i := by
  have e : i = ((i.toNat : Nat) : Int) := by omega
  have := TL.int_num (n := i.toNat) (Nat.le_trans (TL.numL_len (k := 9) (by decide) (by omega)) (by decide))
  rw [← e] at this
  exact this
end My
namespace My
open PySem PySem.Spec PyProof.Rows L2
abbrev sReader : Stmt := top 12 /-Reader-/
abbrev sRInit : Stmt := inClass sReader 0 /-Reader.__init__-/
def rdF (at' : Int) (pv : Str) (pr er : Int) (lk ll le : Addr) : List (Str × V) := [(("place" : Str), .int at'), ("previous", .str pv), ("processing", .int pr), ("error", .int er), ("kinds", .ref lk), ("lines", .ref ll), ("entries", .ref le)]
structure RdC (K : PySem.W.Frag) (C : Addr) : Prop where
  cl : Cls K C
  n1 : NoAttr K C "place"
  n2 : NoAttr K C "previous"
  n3 : NoAttr K C "processing"
  n4 : NoAttr K C "error"
  n5 : NoAttr K C "kinds"
  n6 : NoAttr K C "lines"
  n7 : NoAttr K C "entries"
def rd1 : List (Str × V) := [(("place" : Str), .int 0)]
def rd2 : List (Str × V) := rd1 ++ [(("previous" : Str), .str "")]
def rd3 : List (Str × V) := rd2 ++ [(("processing" : Str), .int 0)]
def rd4 : List (Str × V) := rd3 ++ [(("error" : Str), .int 0)]
def rd5 (lk : Addr) : List (Str × V) := rd4 ++ [(("kinds" : Str), .ref lk)]
def rd6 (lk ll : Addr) : List (Str × V) := rd5 lk ++ [(("lines" : Str), .ref ll)]
theorem rp1 : putF "place" (.int 0) [] = rd1 := rfl
theorem rp2 : putF "previous" (.str "") rd1 = rd2 := rfl
theorem rp3 : putF "processing" (.int 0) rd2 = rd3 := rfl
theorem rp4 : putF "error" (.int 0) rd3 = rd4 := rfl
theorem rp5 {lk : Addr} : putF "kinds" (.ref lk) rd4 = rd5 lk := rfl
theorem rp6 {lk ll : Addr} : putF "lines" (.ref ll) (rd5 lk) = rd6 lk ll := rfl
theorem rp7 {lk ll le : Addr} : putF "entries" (.ref le) (rd6 lk ll) = rdF 0 "" 0 0 lk ll le := rfl
section
variable {P : Program} {w : World} {K : PySem.W.Frag} {mg : Str → Option Value} {base : Heap}
theorem scRInit : FnScope ["self"] ["self"] (defScope sRInit) := ⟨rfl, rfl, rfl, by decide +kernel, rfl, by decide +kernel, by decide +kernel⟩
def spRInit (K : PySem.W.Frag) (C : Addr) : Sp := fun vs H Q _ => ∃ (p dx : Addr), vs = [.ref p] ∧ H p = some (.ins C dx []) ∧
  ∀ (H' : Hp) (lk ll le : Addr), But p H H' → H lk = none → H ll = none → H le = none → lk ≠ ll → lk ≠ le → ll ≠ le → H' p = some (.ins C dx (rdF 0 "" 0 0 lk ll le)) → H' lk = some (.lst []) → H' ll = some (.lst []) → H' le = some (.lst []) → Q .non H'
theorem ok_rinit {f C : Addr} {fd : FuncData} {k : Nat} (F : Fun K "__init__" "Reader.__init__" sRInit f fd) (c : RdC K C) : FnOk P w K mg base CX0 (k + 1) f fd ["self"] (spRInit K C) := by
  refine F.ok scRInit (fun vs H Q E h => ?_) (fun cdv A0 outer s0 H vs Q E hr h => ?_)
  · obtain ⟨p, dx, rfl, _⟩ := h
    rfl
  · obtain ⟨p, dx, rfl, hp, q⟩ := h
    have nd := scRInit.nd
    refine ⟨_, PSs.nox (pss_cons (ps_fld (pv 0) pe_int rfl) <| pss_cons (ps_fld (pv 0) pe_str rfl) <| pss_cons (ps_fld (pv 0) pe_int rfl) <| pss_cons (ps_fld (pv 0) pe_int rfl) <| pss_cons (ps_fld (pv 0) (pe_lst pa_nil) rfl) <| pss_cons (ps_fld (pv 0) (pe_lst pa_nil) rfl) <| pss_one (ps_fld (pv 0) (pe_lst pa_nil) rfl)), ?_⟩
    refine ⟨_, rfl, p, C, dx, [], rfl, hp, c.cl, c.n1, (by show 0 < 1000; decide), ?_⟩
    rw [rp1]
    refine ⟨_, rfl, p, C, dx, _, rfl, upd_same, c.cl, c.n2, (by show 1 < 1000; decide), ?_⟩
    rw [rp2]
    refine ⟨_, rfl, p, C, dx, _, rfl, upd_same, c.cl, c.n3, (by show 2 < 1000; decide), ?_⟩
    rw [rp3]
    refine ⟨_, rfl, p, C, dx, _, rfl, upd_same, c.cl, c.n4, (by show 3 < 1000; decide), ?_⟩
    rw [rp4]
    have kb1 : But p H (upd (upd (upd (upd H p (.ins C dx rd1)) p (.ins C dx rd2)) p (.ins C dx rd3)) p (.ins C dx rd4)) := fun b o e n => by
      rw [upd_ne n, upd_ne n, upd_ne n, upd_ne n]
      exact e
    have hp1 := upd_same (H := upd (upd (upd H p (.ins C dx rd1)) p (.ins C dx rd2)) p (.ins C dx rd3)) (a := p) (o := .ins C dx rd4)
    generalize upd (upd (upd (upd H p (.ins C dx rd1)) p (.ins C dx rd2)) p (.ins C dx rd3)) p (.ins C dx rd4) = H1 at kb1 hp1 ⊢
    have ins : ∀ {G : Hp} {fs : List (Str × V)} {a : Addr}, G p = some (.ins C dx fs) → G a = none → a ≠ p := fun e n y => by
      rw [y, e] at n
      cases n
    have old : ∀ {G : Hp} {a : Addr}, But p H G → a ≠ p → G a = none → H a = none := fun {G a} kb ne n => by
      cases z : H a with
      | none => rfl
      | some o =>
        have := kb _ _ z ne
        rw [n] at this
        cases this
    refine ⟨Nat.zero_le _, fun lk nk => ?_⟩
    have s2 := same_new (o := .lst []) nk
    have hk := upd_same (H := H1) (a := lk) (o := .lst [])
    have ek := ins hp1 nk
    have nkH := old kb1 ek nk
    generalize upd H1 lk (.lst []) = H2 at s2 hk ⊢
    refine ⟨_, rfl, p, C, dx, _, rfl, s2 _ _ hp1, c.cl, c.n5, (by show 4 < 1000; decide), ?_⟩
    rw [rp5]
    have kb3 : But p H (upd H2 p (.ins C dx (rd5 lk))) := fun b o e n => by
      rw [upd_ne n]
      exact s2 _ _ (kb1 b o e n)
    have hk3 : (upd H2 p (.ins C dx (rd5 lk))) lk = some (.lst []) := by rw [upd_ne ek]; exact hk
    have hp3 := upd_same (H := H2) (a := p) (o := .ins C dx (rd5 lk))
    generalize upd H2 p (.ins C dx (rd5 lk)) = H3 at kb3 hk3 hp3 ⊢
    refine ⟨Nat.zero_le _, fun ll nl => ?_⟩
    have s4 := same_new (o := .lst []) nl
    have hl := upd_same (H := H3) (a := ll) (o := .lst [])
    have el := ins hp3 nl
    have nlH := old kb3 el nl
    generalize upd H3 ll (.lst []) = H4 at s4 hl ⊢
    refine ⟨_, rfl, p, C, dx, _, rfl, s4 _ _ hp3, c.cl, c.n6, (by show 5 < 1000; decide), ?_⟩
    rw [rp6]
    have kb5 : But p H (upd H4 p (.ins C dx (rd6 lk ll))) := fun b o e n => by
      rw [upd_ne n]
      exact s4 _ _ (kb3 b o e n)
    have hk5 : (upd H4 p (.ins C dx (rd6 lk ll))) lk = some (.lst []) := by rw [upd_ne ek]; exact s4 _ _ hk3
    have hl5 : (upd H4 p (.ins C dx (rd6 lk ll))) ll = some (.lst []) := by rw [upd_ne el]; exact hl
    have hp5 := upd_same (H := H4) (a := p) (o := .ins C dx (rd6 lk ll))
    generalize upd H4 p (.ins C dx (rd6 lk ll)) = H5 at kb5 hk5 hl5 hp5 ⊢
    refine ⟨Nat.zero_le _, fun le ne => ?_⟩
    have s6 := same_new (o := .lst []) ne
    have he := upd_same (H := H5) (a := le) (o := .lst [])
    have ee := ins hp5 ne
    have neH := old kb5 ee ne
    generalize upd H5 le (.lst []) = H6 at s6 he ⊢
    refine ⟨_, rfl, p, C, dx, _, rfl, s6 _ _ hp5, c.cl, c.n7, (by show 6 < 1000; decide), ?_⟩
    rw [rp7]
    refine q _ lk ll le (fun b o e n => by rw [upd_ne n]; exact s6 _ _ (kb5 b o e n)) nkH nlH neH (ne_of_none hk3 nl) (ne_of_none hk5 ne) (ne_of_none hl5 ne) upd_same (by rw [upd_ne ek]; exact s6 _ _ hk5) (by rw [upd_ne el]; exact s6 _ _ hl5) (by rw [upd_ne ee]; exact he)
end
end My
/-! What is written, split again. No row, no def of the program. -/
namespace My
open PySem PySem.Spec PyProof.Rows L2
theorem joinL_end (S : List Nat) : ∀ ls : List (List Nat), TL.joinL S (ls ++ [[]]) = (ls.map fun l => l ++ S).flatten
  | [] => rfl
  | [p] => by
    show p ++ (S ++ []) = (p ++ S) ++ []
    rw [List.append_nil, List.append_nil]
  | p :: q :: r => by
    show p ++ (S ++ TL.joinL S (q :: r ++ [[]])) = (p ++ S) ++ ((q :: r).map fun l => l ++ S).flatten
    rw [joinL_end S (q :: r), List.append_assoc]
theorem glue_join (R : List Str) : glueT R = Txt.join ("\n" : Str) (R ++ [Str.empty]) := TL.ext_tl (by
  rw [tl_glue, TL.join_eq, TL.tl_join, List.map_append]
  show _ = TL.joinL (TL.tl ("\n" : Str)) (R.map TL.tl ++ [[]])
  rw [joinL_end, List.map_map]
  rfl)
/-- a text of whole lines, split at its line feeds -/
theorem split_glue {R : List Str} (h : ∀ r ∈ R, 10 ∉ TL.tl r) : Txt.split (glueT R) ("\n" : Str) = R ++ [Str.empty] := by
  rw [glue_join]
  refine TL.split_join (s := 10) (S := []) (by decide +kernel) (by decide +kernel) (by simp) fun p hp => ?_
  rcases List.mem_append.mp hp with z | z
  · exact h p z
  · rw [List.mem_singleton.mp z]
    exact List.not_mem_nil
theorem num_free {i : Int} {s : Nat} (h0 : 0 ≤ i) (hs : s < 48 ∨ 57 < s) : s ∉ TL.tl (numT i) := by
  rw [numT_tl h0]
  exact TL.numL_free hs
/-- words with a blank between two of them, split at the blanks -/
theorem split_words {ws : List Str} (ne : ws ≠ []) (h : ∀ p ∈ ws, 32 ∉ TL.tl p) : Txt.split (Txt.join (" " : Str) ws) (" " : Str) = ws := TL.split_join (s := 32) (S := []) (by decide +kernel) (by decide +kernel) ne h
theorem net_words (a b : Str) : jsT ["net ", a, " ", b] = Txt.join (" " : Str) [("net" : Str), a, b] := TL.ext_tl (by
  rw [TL.join_eq, TL.tl_join, tl_js]
  have e : TL.tl ("net " : Str) = TL.tl ("net" : Str) ++ TL.tl (" " : Str) := by decide +kernel
  simp only [List.map_cons, List.map_nil, List.flatten_cons, List.flatten_nil, List.append_assoc, List.append_nil, TL.joinL, e])
theorem line_words (a b d : Str) : jsT ["line ", a, " ", b, " ", d] = Txt.join (" " : Str) [("line" : Str), a, b, d] := TL.ext_tl (by
  rw [TL.join_eq, TL.tl_join, tl_js]
  have e : TL.tl ("line " : Str) = TL.tl ("line" : Str) ++ TL.tl (" " : Str) := by decide +kernel
  simp only [List.map_cons, List.map_nil, List.flatten_cons, List.flatten_nil, List.append_assoc, List.append_nil, TL.joinL, e])
theorem ent_words (a b d x y : Str) : jsT ["stream ", jsT [a, " ", b, " ", d], " ", x, " ", y] = Txt.join (" " : Str) [("stream" : Str), a, b, d, x, y] := TL.ext_tl (by
  rw [TL.join_eq, TL.tl_join, tl_js]
  have e : TL.tl ("stream " : Str) = TL.tl ("stream" : Str) ++ TL.tl (" " : Str) := by decide +kernel
  simp only [tl_js, List.map_cons, List.map_nil, List.flatten_cons, List.flatten_nil, List.append_assoc, List.append_nil, TL.joinL, e])
/-- numbers with commas, split at the commas -/
theorem split_comma {ns : List Int} (ne : ns ≠ []) (h : ∀ n ∈ ns, 0 ≤ n) : Txt.split (commaT ns) ("," : Str) = ns.map numT := TL.split_join (s := 44) (S := []) (by decide +kernel) (by decide +kernel) (fun z => ne (List.map_eq_nil_iff.mp z)) fun p hp => by
  obtain ⟨n, hn, rfl⟩ := List.mem_map.mp hp
  exact num_free (h n hn) (by omega)
theorem joinL_free {s : Nat} {S : List Nat} (hS : s ∉ S) : ∀ {ls : List (List Nat)}, (∀ l ∈ ls, s ∉ l) → s ∉ TL.joinL S ls
  | [], _ => List.not_mem_nil
  | [p], h => h p List.mem_cons_self
  | p :: q :: r, h => by
    show s ∉ p ++ (S ++ TL.joinL S (q :: r))
    intro z
    rcases List.mem_append.mp z with z | z
    · exact h p List.mem_cons_self z
    · rcases List.mem_append.mp z with z | z
      · exact hS z
      · exact joinL_free hS (fun l hl => h l (List.mem_cons_of_mem _ hl)) z
theorem comma_free {ns : List Int} {s : Nat} (h : ∀ n ∈ ns, 0 ≤ n) (hs : s < 48 ∨ 57 < s) (h44 : s ≠ 44) : s ∉ TL.tl (commaT ns) := by
  unfold commaT
  rw [TL.join_eq, TL.tl_join, show TL.tl ("," : Str) = [44] by decide +kernel]
  refine joinL_free (fun z => h44 (List.mem_singleton.mp z)) fun l hl => ?_
  rw [List.map_map] at hl
  obtain ⟨n, hn, rfl⟩ := List.mem_map.mp hl
  exact num_free (h n hn) hs
theorem js_free {s : Nat} {ps : List Str} (h : ∀ p ∈ ps, s ∉ TL.tl p) : s ∉ TL.tl (jsT ps) := by
  rw [tl_js]
  intro z
  obtain ⟨l, hl, z⟩ := List.mem_flatten.mp z
  obtain ⟨p, hp, rfl⟩ := List.mem_map.mp hl
  exact h p hp z
/-- no row has a line feed -/
theorem rows_free {N : NetD} {es : List EntD} (pr : 0 ≤ N.pr) (er : 0 ≤ N.er) (lb : ∀ l ∈ N.ls, 0 ≤ l.2.2) (eb : ∀ e ∈ es, 0 ≤ e.s.pe ∧ 0 ≤ e.s.ln ∧ 0 ≤ e.s.dl ∧ ∀ n ∈ e.os, 0 ≤ n) : ∀ r ∈ rowsT N es, 10 ∉ TL.tl r := fun r hr => by
  have nf : ∀ {i : Int}, 0 ≤ i → 10 ∉ TL.tl (numT i) := fun h => num_free h (.inl (by decide))
  have a1 : 10 ∉ TL.tl (" " : Str) := by decide +kernel
  have a2 : 10 ∉ TL.tl ("net " : Str) := by decide +kernel
  have a3 : 10 ∉ TL.tl ("line " : Str) := by decide +kernel
  have a4 : 10 ∉ TL.tl ("stream " : Str) := by decide +kernel
  have mem : ∀ {p : Str → Prop} {a : Str} {r : List Str}, p a → (∀ x ∈ r, p x) → ∀ x ∈ a :: r, p x := fun h g x hx => by
    rcases List.mem_cons.mp hx with z | z
    · rw [z]; exact h
    · exact g x z
  have none' : ∀ {p : Str → Prop}, ∀ x ∈ ([] : List Str), p x := fun x hx => absurd hx List.not_mem_nil
  rcases List.mem_append.mp hr with hr | hr
  · rcases List.mem_append.mp hr with hr | hr
    · rcases List.mem_append.mp hr with hr | hr
      · rw [List.mem_singleton.mp hr]
        exact js_free (mem a2 (mem (nf pr) (mem a1 (mem (nf er) none'))))
      · obtain ⟨b, _, rfl⟩ := List.mem_map.mp hr
        cases b <;> decide +kernel
    · obtain ⟨u, hu, rfl⟩ := List.mem_map.mp hr
      exact js_free (mem a3 (mem (nf (by omega)) (mem a1 (mem (nf (by omega)) (mem a1 (mem (nf (lb u hu)) none'))))))
  · obtain ⟨e, he, rfl⟩ := List.mem_map.mp hr
    obtain ⟨e1, e2, e3, e4⟩ := eb e he
    have w : 10 ∉ TL.tl (wdT e.s) := js_free (mem (nf e1) (mem a1 (mem (nf e2) (mem a1 (mem (nf e3) none')))))
    have c1 : 10 ∉ TL.tl (commaT (e.s.path.map fun (n : Nat) => (n : Int))) := comma_free (fun n hn => by
      obtain ⟨m, _, rfl⟩ := List.mem_map.mp hn
      omega) (.inl (by decide)) (by decide)
    have c2 : 10 ∉ TL.tl (commaT e.os) := comma_free e4 (.inl (by decide)) (by decide)
    exact js_free (mem a4 (mem w (mem a1 (mem c1 (mem a1 (mem c2 none'))))))
end My
/-! Words that are numbers; texts split at one sign. No row, no def of the program. -/
namespace My
open PySem PySem.Spec PyProof.Rows L2
/-- only signs of ASCII -/
def Asc (y : Str) : Prop := ∀ c ∈ TL.tl y, c < 128
theorem dig_only : ∀ c : Nat, c < 128 → Unicode.isDigit c = true → 48 ≤ c ∧ c ≤ 57 := by decide +kernel
theorem digs_num : ∀ (n : Nat) (l : List Nat), l.length = n → l ≠ [] → (∀ c ∈ l, 48 ≤ c ∧ c ≤ 57) → l.headD 0 ≠ 48 → ∃ m, 0 < m ∧ m < 10 ^ n ∧ TL.numL m = l := by
  intro n
  induction n with
  | zero =>
    intro l h ne
    exact absurd (List.length_eq_zero_iff.mp h) ne
  | succ n ih =>
    intro l h ne hd h0
    obtain ⟨m, c, rfl⟩ : ∃ m c, l = m ++ [c] := ⟨l.dropLast, l.getLast ne, (List.dropLast_concat_getLast ne).symm⟩
    rw [List.length_append, List.length_singleton] at h
    have hc := hd c (List.mem_append_right _ (List.mem_singleton.mpr rfl))
    cases m with
    | nil =>
      have hn : n = 0 := by simpa using h.symm
      subst hn
      have h0 : c ≠ 48 := h0
      refine ⟨c - 48, by omega, by omega, ?_⟩
      rw [TL.numL_lt (by omega), show 48 + (c - 48) = c by omega]
      rfl
    | cons a r =>
      obtain ⟨k, k0, k1, ek⟩ := ih (a :: r) (by omega) (by simp) (fun x hx => hd x (List.mem_append_left _ hx)) h0
      refine ⟨10 * k + (c - 48), by omega, by rw [Nat.pow_succ]; omega, ?_⟩
      rw [TL.numL_step (by omega), show (10 * k + (c - 48)) / 10 = k by omega, show (10 * k + (c - 48)) % 10 = c - 48 by omega, ek, show 48 + (c - 48) = c by omega]
/-- a word of ASCII that is a number is what is written for one -/
theorem isnum_ascii {w : Str} (ha : Asc w) (h : isNumT w = true) : ∃ i : Int, 0 ≤ i ∧ i < 10 ^ 9 ∧ w = numT i := by
  unfold isNumT at h
  rw [Bool.or_eq_true, decide_eq_true_eq, Bool.and_eq_true, Bool.and_eq_true, Bool.not_eq_true', decide_eq_false_iff_not, decide_eq_true_eq] at h
  rcases h with h | ⟨hd, h0, hl⟩
  · exact ⟨0, by decide, by decide, by rw [h]; decide +kernel⟩
  · unfold Txt.isdigit at hd
    rw [Bool.and_eq_true, decide_eq_true_eq, Array.all_eq_true'] at hd
    obtain ⟨lp, hd⟩ := hd
    have hd : ∀ c ∈ TL.tl w, 48 ≤ c ∧ c ≤ 57 := fun c hc => dig_only c (ha c hc) (hd c (Array.mem_toList_iff.mp hc))
    have ne : TL.tl w ≠ [] := fun z => by
      rw [TL.len_tl, z] at lp
      exact absurd lp (by decide)
    have h48 : (TL.tl w).headD 0 ≠ 48 := fun z => h0 (TL.ext_tl (by
      show [(TL.tl w).headD 0] = TL.tl ("0" : Str)
      rw [z]
      decide +kernel))
    obtain ⟨m, _, m1, em⟩ := digs_num _ _ rfl ne hd h48
    have hl : (TL.tl w).length ≤ 9 := by
      rw [← TL.len_tl]
      omega
    have : m < 10 ^ 9 := Nat.lt_of_lt_of_le m1 (Nat.pow_le_pow_right (by decide) hl)
    refine ⟨(m : Int), by omega, by omega, TL.ext_tl ?_⟩
    rw [numT_tl (by omega), Int.toNat_natCast, em]
def numI (w : Str) : Int := (intText? w).getD 0
theorem numI_num {i : Int} (h0 : 0 ≤ i) (h1 : i < 10 ^ 9) : numI (numT i) = i := by
  unfold numI
  rw [int_numT h0 h1]
  rfl
/-- what int() says of such a word -/
theorem int_word {w : Str} (ha : Asc w) (h : isNumT w = true) : intText? w = some (numI w) ∧ 0 ≤ numI w ∧ numI w < 10 ^ 9 := by
  obtain ⟨i, h0, h1, rfl⟩ := isnum_ascii ha h
  rw [numI_num h0 h1]
  exact ⟨int_numT h0 h1, h0, h1⟩
def inB (p : Int × (Int × Int)) : Bool := decide (p.2.1 ≤ p.1) && decide (p.1 ≤ p.2.2)
/-- the words are numbers within the bounds -/
def numsOk (ws : List Str) (bs : List (Int × Int)) : Bool := (decide (ws.length = bs.length) && ws.all isNumT) && ((ws.map numI).zip bs).all inB
/-! ### split at one sign -/
theorem pre_one (s c : Nat) (r : List Nat) : TL.pre [s] (c :: r) = decide (c = s) := by
  unfold TL.pre
  show ([c] == [s]) = _
  by_cases h : c = s
  · rw [h]; simp
  · simp [h]
theorem spl_in {s : Nat} : ∀ (l acc : List Nat), ∀ p ∈ TL.spl [s] 0 acc l, (∀ c ∈ p, c ∈ acc ∨ c ∈ l) ∧ p.length ≤ acc.length + l.length
  | [], acc, p, h => by
    rw [TL.spl_nil] at h
    rw [List.mem_singleton.mp h]
    exact ⟨fun c hc => .inl hc, Nat.le_add_right ..⟩
  | c :: r, acc, p, h => by
    by_cases e : c = s
    · rw [TL.spl_hit (by rw [pre_one]; exact decide_eq_true e)] at h
      rcases List.mem_cons.mp h with h | h
      · rw [h]
        exact ⟨fun c hc => .inl hc, Nat.le_add_right ..⟩
      · obtain ⟨h1, h2⟩ := spl_in r [] p h
        refine ⟨fun x hx => ?_, by rw [List.length_nil] at h2; rw [List.length_cons]; omega⟩
        rcases h1 x hx with z | z
        · exact absurd z List.not_mem_nil
        · exact .inr (List.mem_cons_of_mem _ z)
    · rw [TL.spl_miss (by rw [pre_one]; exact decide_eq_false e)] at h
      obtain ⟨h1, h2⟩ := spl_in r (acc ++ [c]) p h
      refine ⟨fun x hx => ?_, by rw [List.length_append, List.length_singleton] at h2; rw [List.length_cons]; omega⟩
      rcases h1 x hx with z | z
      · rcases List.mem_append.mp z with z | z
        · exact .inl z
        · rw [List.mem_singleton.mp z]; exact .inr List.mem_cons_self
      · exact .inr (List.mem_cons_of_mem _ z)
theorem spl_cnt {s : Nat} : ∀ (l acc : List Nat), (TL.spl [s] 0 acc l).length ≤ l.length + 1 ∧ TL.spl [s] 0 acc l ≠ []
  | [], acc => by
    rw [TL.spl_nil]
    exact ⟨Nat.le_refl _, by simp⟩
  | c :: r, acc => by
    by_cases e : c = s
    · rw [TL.spl_hit (by rw [pre_one]; exact decide_eq_true e)]
      have := (spl_cnt (s := s) r []).1
      refine ⟨?_, by simp⟩
      rw [List.length_cons, List.length_cons]
      exact Nat.succ_le_succ this
    · rw [TL.spl_miss (by rw [pre_one]; exact decide_eq_false e)]
      have := spl_cnt (s := s) r (acc ++ [c])
      refine ⟨?_, this.2⟩
      rw [List.length_cons]
      omega
/-- the parts of a text split at one sign s -/
structure Cut1 (x : Str) (ps : List Str) : Prop where
  ne : ps ≠ []
  cnt : ps.length ≤ x.length + 1
  sub : ∀ p ∈ ps, (∀ c ∈ TL.tl p, c ∈ TL.tl x) ∧ p.length ≤ x.length
theorem split_cut {x y : Str} {s : Nat} (ey : TL.tl y = [s]) (hk : y.cps.all (· < 256) = true) : Cut1 x (Txt.split x y) := by
  have e := TL.split_spl x y (by rw [ey]; simp) (TL.kind_ok hk)
  rw [ey] at e
  have c := spl_cnt (s := s) (TL.tl x) []
  have el : (Txt.split x y).length = (TL.spl [s] 0 [] (TL.tl x)).length := by rw [← e, List.length_map]
  refine ⟨fun z => c.2 (by rw [← e, z]; rfl), by rw [el, TL.len_tl]; exact c.1, fun p hp => ?_⟩
  obtain ⟨h1, h2⟩ := spl_in (s := s) (TL.tl x) [] (TL.tl p) (by rw [← e]; exact List.mem_map.mpr ⟨p, hp, rfl⟩)
  refine ⟨fun c hc => (h1 c hc).elim (fun z => absurd z List.not_mem_nil) id, ?_⟩
  rw [TL.len_tl, TL.len_tl]
  rw [List.length_nil] at h2
  omega
theorem cut_sp (x : Str) : Cut1 x (Txt.split x (" " : Str)) := split_cut (s := 32) (by decide +kernel) (by decide +kernel)
theorem cut_co (x : Str) : Cut1 x (Txt.split x ("," : Str)) := split_cut (s := 44) (by decide +kernel) (by decide +kernel)
theorem Cut1.asc {x : Str} {ps : List Str} (h : Cut1 x ps) (ha : Asc x) : ∀ p ∈ ps, Asc p := fun p hp c hc => ha c ((h.sub p hp).1 c hc)
end My
/-! The reader as data. No row. -/
namespace My
open PySem PySem.Spec PyProof.Rows L2
structure RdD where
  pl : Nat
  pv : Str
  N : NetD
  es : List EntD
/-- the kinds behind which a kind of lines may stand -/
def befores (k : Str) : Option (List Str) :=
  if k = ("net" : Str) then some [("" : Str)] else if k = ("host" : Str) then some [("net" : Str), "host", "switch"] else if k = ("switch" : Str) then some [("net" : Str), "host", "switch"]
  else if k = ("line" : Str) then some [("host" : Str), "switch", "line"] else if k = ("stream" : Str) then some [("host" : Str), "switch", "line", "stream"] else none
def okPlace (k pv : Str) : Bool := match befores k with
  | none => false
  | some l => l.contains pv
def nodeB (N : NetD) : Int × Int := (0, (N.ks.length : Int) - 1)
def wd (ws : List Str) (i : Nat) : Str := ws.getD i Str.empty
def nat (w : Str) : Nat := (numI w).toNat
/-- the line's numbers set; a line; an entry -/
def lnOf (ws : List Str) : Nat × Nat × Int := (nat (wd ws 1), nat (wd ws 2), numI (wd ws 3))
def entOf (ws : List Str) : EntD := ⟨⟨numI (wd ws 1), numI (wd ws 2), numI (wd ws 3), (Txt.split (wd ws 4) ("," : Str)).map nat⟩, (Txt.split (wd ws 5) ("," : Str)).map numI⟩
def lineOk (S : RdD) (ws : List Str) : Prop := numsOk (ws.drop 1) [nodeB S.N, nodeB S.N, (0, 20)] = true ∧ (lnOf ws).1 ≠ (lnOf ws).2.1 ∧ joined S.N (lnOf ws).1 (lnOf ws).2.1 = none
def strOk (S : RdD) (ws : List Str) : Prop := ws.length = 6 ∧ numsOk ((ws.drop 1).take 3) [(1, 60), (1, 60), (1, 300)] = true ∧ (entOf ws).s.ln ≤ (entOf ws).s.pe ∧
  numsOk (Txt.split (wd ws 4) ("," : Str)) (List.replicate (Txt.split (wd ws 4) ("," : Str)).length (nodeB S.N)) = true ∧ IsP S.N (entOf ws).s.path ∧
  numsOk (Txt.split (wd ws 5) ("," : Str)) (List.replicate ((entOf ws).s.path.length - 1) (0, 500)) = true
/-- a line is read: what stands before and behind -/
inductive Reads (S : RdD) (l : Str) : RdD → Prop
  | net (h : okPlace (wd (Txt.split l (" " : Str)) 0) S.pv = true) (k : wd (Txt.split l (" " : Str)) 0 = ("net" : Str)) (o : numsOk ((Txt.split l (" " : Str)).drop 1) [(0, 10), (0, 5)] = true) :
      Reads S l ⟨S.pl + 1, "net", ⟨S.N.ks, S.N.ls, numI (wd (Txt.split l (" " : Str)) 1), numI (wd (Txt.split l (" " : Str)) 2)⟩, S.es⟩
  | line (h : okPlace (wd (Txt.split l (" " : Str)) 0) S.pv = true) (k : wd (Txt.split l (" " : Str)) 0 = ("line" : Str)) (o : lineOk S (Txt.split l (" " : Str))) :
      Reads S l ⟨S.pl + 1, "line", ⟨S.N.ks, S.N.ls ++ [lnOf (Txt.split l (" " : Str))], S.N.pr, S.N.er⟩, S.es⟩
  | stream (h : okPlace (wd (Txt.split l (" " : Str)) 0) S.pv = true) (k : wd (Txt.split l (" " : Str)) 0 = ("stream" : Str)) (o : strOk S (Txt.split l (" " : Str))) :
      Reads S l ⟨S.pl + 1, "stream", S.N, S.es ++ [entOf (Txt.split l (" " : Str))]⟩
  | node (b : Bool) (h : okPlace (wd (Txt.split l (" " : Str)) 0) S.pv = true) (k : wd (Txt.split l (" " : Str)) 0 = kdT b) (o1 : (Txt.split l (" " : Str)).length = 1) (o2 : S.N.ks.length < 12) :
      Reads S l ⟨S.pl + 1, kdT b, ⟨S.N.ks ++ [b], S.N.ls, S.N.pr, S.N.er⟩, S.es⟩
/-- all lines are read, or the first wrong one is told -/
inductive ReadsAll : RdD → List Str → (RdD ⊕ Nat) → Prop
  | done (S : RdD) : ReadsAll S [] (.inl S)
  | bad {S : RdD} {l : Str} {r : List Str} (h : ∀ S', ¬ Reads S l S') : ReadsAll S (l :: r) (.inr S.pl)
  | step {S S' : RdD} {l : Str} {r : List Str} {e : RdD ⊕ Nat} (h : Reads S l S') (t : ReadsAll S' r e) : ReadsAll S (l :: r) e
def S0 : RdD := ⟨0, "", ⟨[], [], 0, 0⟩, []⟩
/-- a whole text: its lines, what stands behind the last line feed -/
inductive ReadsText (rows : List Str) (last : Str) : (RdD ⊕ Nat) → Prop
  | bad {n : Nat} (h : ReadsAll S0 rows (.inr n)) : ReadsText rows last (.inr n)
  | good {S : RdD} (h : ReadsAll S0 rows (.inl S)) (e : last = ("" : Str)) (k : S.N.ks ≠ []) : ReadsText rows last (.inl S)
  | short {S : RdD} (h : ReadsAll S0 rows (.inl S)) (e : ¬ (last = ("" : Str) ∧ S.N.ks ≠ [])) : ReadsText rows last (.inr S.pl)
theorem kd_ne (b : Bool) : kdT b ≠ ("net" : Str) ∧ kdT b ≠ ("line" : Str) ∧ kdT b ≠ ("stream" : Str) := by cases b <;> decide +kernel
theorem kd_inj {a b : Bool} (h : kdT a = kdT b) : a = b := by
  cases a <;> cases b <;> first | rfl | exact absurd h (by decide +kernel)
theorem nl_ne : ("net" : Str) ≠ ("line" : Str) := by decide +kernel
theorem ns_ne : ("net" : Str) ≠ ("stream" : Str) := by decide +kernel
theorem ls_ne : ("line" : Str) ≠ ("stream" : Str) := by decide +kernel
theorem Reads.det {S : RdD} {l : Str} {A B : RdD} (h1 : Reads S l A) (h2 : Reads S l B) : A = B := by
  cases h1 with
  | net h k o => cases h2 with
    | net => rfl
    | line h' k' => exact absurd (k.symm.trans k') nl_ne
    | stream h' k' => exact absurd (k.symm.trans k') ns_ne
    | node b h' k' => exact absurd (k'.symm.trans k) (kd_ne b).1
  | line h k o => cases h2 with
    | net h' k' => exact absurd (k'.symm.trans k) nl_ne
    | line => rfl
    | stream h' k' => exact absurd (k.symm.trans k') ls_ne
    | node b h' k' => exact absurd (k'.symm.trans k) (kd_ne b).2.1
  | stream h k o => cases h2 with
    | net h' k' => exact absurd (k'.symm.trans k) ns_ne
    | line h' k' => exact absurd (k'.symm.trans k) ls_ne
    | stream => rfl
    | node b h' k' => exact absurd (k'.symm.trans k) (kd_ne b).2.2
  | node b h k o1 o2 => cases h2 with
    | net h' k' => exact absurd (k.symm.trans k') (kd_ne b).1
    | line h' k' => exact absurd (k.symm.trans k') (kd_ne b).2.1
    | stream h' k' => exact absurd (k.symm.trans k') (kd_ne b).2.2
    | node b' h' k' => rw [kd_inj (k.symm.trans k')]
theorem ReadsAll.det {S : RdD} {l : List Str} {a : RdD ⊕ Nat} (h1 : ReadsAll S l a) : ∀ {b : RdD ⊕ Nat}, ReadsAll S l b → a = b := by
  induction h1 with
  | done S => intro b h2; cases h2; rfl
  | bad h => intro b h2; cases h2 with
    | bad => rfl
    | step h' => exact absurd h' (h _)
  | step h t ih => intro b h2; cases h2 with
    | bad h' => exact absurd h (h' _)
    | step h' t' =>
      have := h.det h'
      subst this
      exact ih t'
theorem ReadsText.det {rows : List Str} {last : Str} {a b : RdD ⊕ Nat} (h1 : ReadsText rows last a) (h2 : ReadsText rows last b) : a = b := by
  cases h1 with
  | bad h => cases h2 with
    | bad h' => exact h.det h'
    | good h' => exact absurd (h.det h') (by simp)
    | short h' => exact absurd (h.det h') (by simp)
  | good h e k => cases h2 with
    | bad h' => exact absurd (h.det h') (by simp)
    | good h' => exact h.det h'
    | short h' e' =>
      have z := h.det h'
      cases z
      exact absurd ⟨e, k⟩ e'
  | short h e => cases h2 with
    | bad h' => exact absurd (h.det h') (by simp)
    | good h' e' k' =>
      have z := h.det h'
      cases z
      exact absurd ⟨e', k'⟩ e
    | short h' =>
      have z := h.det h'
      cases z
      rfl
/-- a further line behind those that are read -/
theorem ReadsAll.snoc {S A B : RdD} {r : List Str} {l : Str} (h : ReadsAll S r (.inl A)) (g : Reads A l B) : ReadsAll S (r ++ [l]) (.inl B) := by
  generalize he : (Sum.inl A : RdD ⊕ Nat) = e at h
  induction h with
  | done S => cases he; exact .step g (.done _)
  | bad => cases he
  | step h t ih => exact .step h (ih he)
theorem ReadsAll.stop {S A : RdD} {r : List Str} {l : Str} (h : ReadsAll S r (.inl A)) (g : ∀ B, ¬ Reads A l B) (q : List Str) : ReadsAll S (r ++ l :: q) (.inr A.pl) := by
  generalize he : (Sum.inl A : RdD ⊕ Nat) = e at h
  induction h with
  | done S => cases he; exact .bad g
  | bad => cases he
  | step h t ih => exact .step h (ih he)
end My
namespace My
open PySem PySem.Spec PyProof.Rows L2
/-- what a wrong line lets out: where XX is false, there is none -/
def Bad (XX : Bool) (CE : Addr) (n : Nat) (E : XK) : Prop := XX = true ∧ n ≤ 2000 ∧ ∀ (H' : Hp) (d : Addr) (fs : List (Str × V)), H' d = some (.xd fs) → fs.lookup ("name" : Str) = some (.str "InvalidText") → fs.lookup ("place" : Str) = some (.int (n : Int)) → E (.ref CE) (some d) H'
theorem passE {X : Cx} {E : XK} (tk : Takes X (fun cls d _ H => E cls d H)) : Passes (L2.CX X.prog X.w) X E := passes_call tk fun _ _ _ _ h => h
/-- a method that may raise -/
structure MethX (P : Program) (w : World) (K : PySem.W.Frag) (mg : Str → Option Value) (base : Heap) (k : Nat) (ps : List Str) (sp : Sp) (f : Addr) (fd : FuncData) : Prop where
  ok : FnOk P w K mg base (L2.CX P w) k f fd ps sp
  b : Binds K fd ps []
/-- a def that may raise -/
structure CalleeX (P : Program) (w : World) (K : PySem.W.Frag) (mg : Str → Option Value) (base : Heap) (k : Nat) (x : Str) (ps : List Str) (sp : Sp) (f : Addr) (fd : FuncData) : Prop where
  ok : FnOk P w K mg base (L2.CX P w) k f fd ps sp
  mg : mg x = some (.ref f)
  kp : PySem.W.keepIn K (.ref f) = true
  b : Binds K fd ps []
/-- o.f as a target among others -/
def gAtt (K : PySem.W.Frag) (to : TE) (f : Str) : TG := fun v σ H Q => to σ H fun x H2 => ∃ a C dx fs, x = .ref a ∧ H2 a = some (.ins C dx fs) ∧ Cls K C ∧ NoAttr K C f ∧ fs.length < 1000 ∧ Q σ (upd H2 a (.ins C dx (putF f v fs)))
theorem pg_att {X : Cx} {o : Expr} {f : Str} {pos : Pos} {to : TE} (ho : PE X o to) : PG X (.Attribute o f pos) (gAtt X.K to f) := by
  refine ⟨fun pins s σ H v u Q I r h => PySem.W.kas_attr (thn (ho.run pins s σ H _ I h) fun ov s1 ⟨x, H1, I1, r1, a, C, dx, fs, ex, ea, c, n, l, q⟩ => ?_)⟩
  subst ex
  obtain rfl : ov = Value.ref a := r1
  exact setattr_ok I1 ea c n l r fun s2 I2 => ⟨σ, _, I2, q⟩
/-- a and b, where each may make new objects -/
theorem andS {σ : L2.St} {H : Hp} {Q : VK} {ta tb : TE} {a b : Bool} (ha : ∀ Q : VK, (∀ H', Same H H' → Q (.bl a) H') → ta σ H Q) (hb : a = true → ∀ H1, Same H H1 → ∀ Q : VK, (∀ H', Same H H' → Q (.bl b) H') → tb σ H1 Q) (h : ∀ H', Same H H' → Q (.bl (a && b)) H') : tAndV ta tb σ H Q := by
  refine ha _ fun H1 s1 => ⟨a, rfl, ?_⟩
  cases a with
  | true => exact hb rfl H1 s1 _ h
  | false => exact h H1 s1
theorem strs_at {ws : List Str} {i : Nat} {x : V} (h : (ws.map V.str)[i]? = some x) : ∃ y, ws[i]? = some y ∧ x = .str y := by
  rw [List.getElem?_map] at h
  cases e : ws[i]? with
  | none => rw [e] at h; cases h
  | some y => rw [e] at h; exact ⟨y, rfl, (Option.some.inj h).symm⟩
/-! ### all but some places -/
def hid (L : List Addr) (H : Hp) : Hp := fun a => if a ∈ L then none else H a
theorem hid_same {L : List Addr} {H : Hp} : Same (hid L H) H := fun b o e => by
  unfold hid at e
  split at e
  · cases e
  · exact e
theorem hid_out {L : List Addr} {H : Hp} {a : Addr} (n : a ∉ L) : hid L H a = H a := if_neg n
theorem hid_in {L : List Addr} {H : Hp} {a : Addr} (n : a ∈ L) : hid L H a = none := if_pos n
theorem hid_keep {L : List Addr} {H H' : Hp} (h : Same (hid L H) H') : Same (hid L H) (hid L H') := fun b o e => by
  by_cases n : b ∈ L
  · rw [hid_in n] at e; cases e
  · rw [hid_out n]; exact h b o e
theorem hid_of {L : List Addr} {H H' : Hp} (h : Same H H') : Same (hid L H) H' := fun b o e => h b o (hid_same b o e)
theorem hid_upd {L : List Addr} {H H' : Hp} {a : Addr} {o : HO} (h : Same (hid L H) H') (n : a ∈ L) : Same (hid L H) (upd H' a o) := fun b x e => by
  have : b ≠ a := fun z => by rw [z, hid_in n] at e; cases e
  rw [upd_ne this]
  exact h b x e
theorem hid_refl {L : List Addr} {H : Hp} : Same (hid L H) H := hid_same
theorem hid_trans {L : List Addr} {H H1 H2 : Hp} (h : Same (hid L H) H1) (g : Same (hid L H1) H2) : Same (hid L H) H2 := (hid_keep h).trans g
theorem four {ws : List Str} (h : ws.length = 4) : ∃ a b c d, ws = [a, b, c, d] := match ws, h with | [a, b, c, d], _ => ⟨a, b, c, d, rfl⟩
theorem three {ws : List Str} (h : ws.length = 3) : ∃ a b c, ws = [a, b, c] := match ws, h with | [a, b, c], _ => ⟨a, b, c, rfl⟩
theorem six {ws : List Str} (h : ws.length = 6) : ∃ a b c d e f, ws = [a, b, c, d, e, f] := match ws, h with | [a, b, c, d, e, f], _ => ⟨a, b, c, d, e, f, rfl⟩
theorem inB_iff {m lo hi : Int} : inB (m, (lo, hi)) = true ↔ lo ≤ m ∧ m ≤ hi := by
  unfold inB
  rw [Bool.and_eq_true, decide_eq_true_eq, decide_eq_true_eq]
theorem nums_len {ws : List Str} {bs : List (Int × Int)} (h : numsOk ws bs = true) : ws.length = bs.length := by
  unfold numsOk at h
  rw [Bool.and_eq_true, Bool.and_eq_true, decide_eq_true_eq] at h
  exact h.1.1
theorem nums_in {ws : List Str} {bs : List (Int × Int)} (h : numsOk ws bs = true) {i : Nat} {y : Str} {b : Int × Int} (hy : ws[i]? = some y) (hb : bs[i]? = some b) : b.1 ≤ numI y ∧ numI y ≤ b.2 := by
  unfold numsOk at h
  rw [Bool.and_eq_true, List.all_eq_true] at h
  have ez : ((ws.map numI).zip bs)[i]? = some (numI y, b) := List.getElem?_zip_eq_some.mpr ⟨by rw [List.getElem?_map, hy]; rfl, hb⟩
  exact inB_iff.mp (h.2 _ (List.mem_of_getElem? ez))
theorem nums_num {ws : List Str} {bs : List (Int × Int)} (h : numsOk ws bs = true) {y : Str} (hy : y ∈ ws) : isNumT y = true := by
  unfold numsOk at h
  rw [Bool.and_eq_true, Bool.and_eq_true, List.all_eq_true] at h
  exact h.1.2 y hy
theorem nat_num {y : Str} (h : 0 ≤ numI y) : numI y = ((nat y : Nat) : Int) := by
  unfold nat
  omega
/-- an entry: a tuple, a list -/
def EntR (C2 : Addr) (H : Hp) (t : Addr) (e : EntD) : Prop := ∃ u lo, H t = some (.tup [.ref u, .ref lo]) ∧ StreamAt C2 H u e.s ∧ H lo = some (.lst (e.os.map V.int))
theorem EntR.same {C2 : Addr} {H H' : Hp} {t : Addr} {e : EntD} (h : EntR C2 H t e) (s : Same H H') : EntR C2 H' t e := by
  obtain ⟨u, lo, h1, h2, h3⟩ := h
  exact ⟨u, lo, s _ _ h1, h2.same s, s _ _ h3⟩
theorem EntR.at {K : PySem.W.Frag} {C2 : Addr} {H : Hp} {t : Addr} {e : EntD} (h : EntR C2 H t e) : EntAt K C2 H t e := by
  obtain ⟨u, lo, h1, h2, h3⟩ := h
  exact ⟨u, lo, SqT.of h1, h2, SqL.of h3⟩
abbrev EntsR (C2 : Addr) (H : Hp) (ts : List Addr) (es : List EntD) : Prop := Paired (fun (t : Addr) (e : EntD) => EntR C2 H t e) ts es
theorem EntsR.same {C2 : Addr} {H H' : Hp} {ts : List Addr} {es : List EntD} (h : EntsR C2 H ts es) (s : Same H H') : EntsR C2 H' ts es := Paired.imp h fun _ _ q => q.same s
theorem EntsR.at {K : PySem.W.Frag} {C2 : Addr} {H : Hp} {ts : List Addr} {es : List EntD} (h : EntsR C2 H ts es) : EntsAt K C2 H ts es := Paired.imp h fun _ _ q => q.at
/-! ### the reader in the heap -/
structure RdAt (K : PySem.W.Frag) (C C2 : Addr) (H : Hp) (p dx lk ll le : Addr) (S : RdD) : Prop where
  at_ : H p = some (.ins C dx (rdF (S.pl : Int) S.pv S.N.pr S.N.er lk ll le))
  ks : H lk = some (.lst (S.N.ks.map kindV))
  ls : ∃ ts : List Addr, H ll = some (.lst (ts.map V.ref)) ∧ LinesAt K (hid [p, lk, ll, le] H) ts S.N.ls
  es : ∃ us : List Addr, H le = some (.lst (us.map V.ref)) ∧ EntsR C2 (hid [p, lk, ll, le] H) us S.es
  n1 : lk ≠ ll
  n2 : lk ≠ le
  n3 : ll ≠ le
/-- what stays small -/
structure RdW (S : RdD) : Prop where
  dist : Dist S.N.ls
  pl : S.pl ≤ 1000
  ls : S.N.ls.length ≤ S.pl
  es : S.es.length ≤ S.pl
  ks : S.N.ks.length ≤ 12
theorem RdAt.same {K : PySem.W.Frag} {C C2 : Addr} {H H' : Hp} {p dx lk ll le : Addr} {S : RdD} (h : RdAt K C C2 H p dx lk ll le S) (e : Same H H') : RdAt K C C2 H' p dx lk ll le S := by
  obtain ⟨h1, h2, ⟨ts, h3, h4⟩, ⟨us, h5, h6⟩, n1, n2, n3⟩ := h
  exact ⟨e _ _ h1, e _ _ h2, ⟨ts, e _ _ h3, h4.same (hid_keep (hid_of e))⟩, ⟨us, e _ _ h5, h6.same (hid_keep (hid_of e))⟩, n1, n2, n3⟩
section
variable {at' : Int} {pv : Str} {pr er : Int} {lk ll le : Addr}
theorem rg1 : (rdF at' pv pr er lk ll le).lookup ("place" : Str) = some (.int at') := rfl
theorem rg2 : (rdF at' pv pr er lk ll le).lookup ("previous" : Str) = some (.str pv) := rfl
theorem rg3 : (rdF at' pv pr er lk ll le).lookup ("processing" : Str) = some (.int pr) := rfl
theorem rg4 : (rdF at' pv pr er lk ll le).lookup ("error" : Str) = some (.int er) := rfl
theorem rg5 : (rdF at' pv pr er lk ll le).lookup ("kinds" : Str) = some (.ref lk) := rfl
theorem rg6 : (rdF at' pv pr er lk ll le).lookup ("lines" : Str) = some (.ref ll) := rfl
theorem rg7 : (rdF at' pv pr er lk ll le).lookup ("entries" : Str) = some (.ref le) := rfl
theorem rm1 : (rdF at' pv pr er lk ll le).lookup ("check" : Str) = none := rfl
theorem rm2 : (rdF at' pv pr er lk ll le).lookup ("read_line" : Str) = none := rfl
theorem rm3 : (rdF at' pv pr er lk ll le).lookup ("read_net_line" : Str) = none := rfl
theorem rm4 : (rdF at' pv pr er lk ll le).lookup ("read_stream" : Str) = none := rfl
theorem rm5 : (rdF at' pv pr er lk ll le).lookup ("read_numbers" : Str) = none := rfl
theorem rm6 : (rdF at' pv pr er lk ll le).lookup ("net_so_far" : Str) = none := rfl
end
end My
namespace My
open PySem PySem.Spec PyProof.Rows L2
abbrev sCheck : Stmt := inClass sReader 1 /-Reader.check-/
abbrev sNsf : Stmt := inClass sReader 6 /-Reader.net_so_far-/
section
variable {P : Program} {w : World} {K : PySem.W.Frag} {mg : Str → Option Value} {base : Heap}
/-! ### net_so_far -/
theorem scNsf : FnScope ["self"] ["self"] (defScope sNsf) := ⟨rfl, rfl, rfl, by decide +kernel, rfl, by decide +kernel, by decide +kernel⟩
def spNsf (K : PySem.W.Frag) (C CN C2 : Addr) : Sp := fun vs H Q _ => ∃ (p dx lk ll le : Addr) (S : RdD), vs = [.ref p] ∧ RdAt K C C2 H p dx lk ll le S ∧ S.N.ls.length ≤ 1000 ∧
  ∀ (H' : Hp) (np : Addr), Same H H' → H np = none → NetAt K CN H' np S.N → Q (.ref np) H'
theorem ok_nsf {f C CN C2 fI : Addr} {fd fdI : FuncData} {k : Nat} (F : Fun K "net_so_far" "Reader.net_so_far" sNsf f fd) (c : RdC K C) (G : NetMk P w K mg base CN fI fdI) : FnOk P w K mg base CX0 (k + 3) f fd ["self"] (spNsf K C CN C2) := by
  refine F.ok scNsf (fun vs H Q E h => ?_) (fun cdv A0 outer s0 H vs Q E hr h => ?_)
  · obtain ⟨p, dx, lk, ll, le, S, rfl, _⟩ := h
    rfl
  · obtain ⟨p, dx, lk, ll, le, S, rfl, hS, hl, q⟩ := h
    have nd := scNsf.nd
    have hr2 : Room 2 _ := hr.mono (by omega)
    refine ⟨_, pss_one (ps_ret (pe_makeK G.mkC G.ok hr2 (by rfl) G.mg G.kb pass0 (pa_cons (pe_fld (pv 0) rfl) (pa_cons (pe_fld (pv 0) rfl) pa_nil)) (pk_cons (pe_fld (pv 0) rfl) (pk_cons (pe_fld (pv 0) rfl) pk_nil)))), ?_⟩
    obtain ⟨ts, h3, h4⟩ := hS.ls
    refine ⟨_, rfl, p, C, dx, _, _, rfl, hS.at_, c.cl, c.n5, rg5, _, rfl, p, C, dx, _, _, rfl, hS.at_, c.cl, c.n6, rg6, ?_⟩
    refine ⟨_, rfl, p, C, dx, _, _, rfl, hS.at_, c.cl, c.n3, rg3, _, rfl, p, C, dx, _, _, rfl, hS.at_, c.cl, c.n4, rg4, rfl, rfl, fun x dy nx ndy ne => ?_⟩
    have sm := same_make0 (o1 := .own x) (o2 := .ins CN dy []) nx ndy
    refine ⟨x, dy, lk, ll, ts, S.N, rfl, upd_same, SqL.of (sm _ _ hS.ks), SqL.of (sm _ _ h3), (h4.same hid_same).same sm, hl, fun H' kb hN => ⟨rfl, q H' x (same_make nx ndy kb) nx hN.at⟩⟩
/-! ### check: where nothing is wrong -/
theorem scCheck : FnScope ["self", "holds"] ["self", "holds"] (defScope sCheck) := ⟨rfl, rfl, rfl, by decide +kernel, rfl, by decide +kernel, by decide +kernel⟩
def spCheck (C : Addr) (XX : Bool) (CE : Addr) : Sp := fun vs H Q E => ∃ (p dx : Addr) (fs : List (Str × V)) (n : Nat) (b : Bool), vs = [.ref p, .bl b] ∧ H p = some (.ins C dx fs) ∧ fs.lookup ("place" : Str) = some (.int (n : Int)) ∧ (b = true → Q .non H) ∧ (b = false → Bad XX CE n E)
theorem ok_check0 {f C CE : Addr} {fd : FuncData} {k : Nat} (F : Fun K "check" "Reader.check" sCheck f fd) : FnOk P w K mg base (L2.CX P w) (k + 1) f fd ["self", "holds"] (spCheck C false CE) := by
  refine F.okX scCheck (fun vs H Q E h => ?_) (fun cdv A0 outer s0 H vs Q E hr h => ?_)
  · obtain ⟨p, dx, fs, n, b, rfl, _⟩ := h
    rfl
  · obtain ⟨p, dx, fs, n, b, rfl, hp, hl, q1, q2⟩ := h
    have nd := scCheck.nd
    refine ⟨_, pss_one (ps_if (pt_not (pt_val (pv 1))) (pss_one (ps_never)) (pss_nil)), ?_⟩
    cases b with
    | true =>
      exact ⟨_, rfl, _, rfl, iteF (q1 rfl)⟩
    | false => exact absurd (q2 rfl).1 (by decide)
end
end My
namespace My
open PySem PySem.Spec PyProof.Rows L2
abbrev sNums : Stmt := inClass sReader 5 /-Reader.read_numbers-/
abbrev BndsAt (K : PySem.W.Frag) (H : Hp) (ts : List Addr) (bs : List (Int × Int)) : Prop := Paired (fun (t : Addr) (b : Int × Int) => SqT K H t [.int b.1, .int b.2]) ts bs
section
variable {P : Program} {w : World} {K : PySem.W.Frag} {mg : Str → Option Value} {base : Heap}
theorem scNums : FnScope ["self", "words", "bounds", "numbers", "word", "number", "low", "high"] ["self", "words", "bounds"] (defScope sNums) := ⟨rfl, rfl, rfl, by decide +kernel, rfl, by decide +kernel, by decide +kernel⟩
-- ["self", "words", "bounds", "numbers", "word", "number", "low", "high"]
def spNums (K : PySem.W.Frag) (C : Addr) (XX : Bool) (CE : Addr) : Sp := fun vs H Q E => ∃ (p dx lw lb : Addr) (fs : List (Str × V)) (n : Nat) (ws : List Str) (bt : List Addr) (bs : List (Int × Int)), vs = [.ref p, .ref lw, .ref lb] ∧
  H p = some (.ins C dx fs) ∧ fs.lookup ("place" : Str) = some (.int (n : Int)) ∧ fs.lookup ("check" : Str) = none ∧ SqL K H lw (ws.map V.str) ∧ (∀ y ∈ ws, Asc y ∧ y.length ≤ 640) ∧ ws.length ≤ 1000 ∧
  SqL K H lb (bt.map V.ref) ∧ BndsAt K H bt bs ∧
  (numsOk ws bs = true → ∀ (H' : Hp) (a : Addr), Same H H' → H a = none → H' a = some (.lst ((ws.map numI).map V.int)) → Q (.ref a) H') ∧ (numsOk ws bs = false → Bad XX CE n E)
theorem ok_nums {f C CE fC fN : Addr} {fd fdC fdN : FuncData} {XX : Bool} {k : Nat} (F : Fun K "read_numbers" "Reader.read_numbers" sNums f fd) (c : RdC K C) (T : Blt mg) (hall : mg "all" = none) (hzip : mg "zip" = none) (mC : Meth K C "check" fC) (GC : MethX P w K mg base 3 ["self", "holds"] (spCheck C XX CE) fC fdC) (GN : Callee P w K mg base 1 "is_number" ["word"] spIsNum fN fdN) :
    FnOk P w K mg base (L2.CX P w) (k + 4) f fd ["self", "words", "bounds"] (spNums K C XX CE) := by
  refine F.okX scNums (fun vs H Q E h => ?_) (fun cdv A0 outer s0 H vs Q E hr h => ?_)
  · obtain ⟨p, dx, lw, lb, fs, n, ws, bt, bs, rfl, _⟩ := h
    rfl
  · obtain ⟨p, dx, lw, lb, fs, n, ws, bt, bs, rfl, hp, fp, fc, hw, hws, wl, hb, hbs, q1, q2⟩ := h
    have nd := scNums.nd
    have hr1 : Room 1 _ := hr.mono (by omega)
    have hr3 : Room 3 _ := hr.mono (by omega)
    refine ⟨_, pss_cons (ps_expr (pe_meth (pv 0) c.cl mC GC.ok hr3 GC.b .nil (passE (takes_of rfl rfl rfl rfl)) (pa_cons (pe_and (pe_cmpR op_eq (pe_callB call_len_seq (by rfl) T.len PySem.boot_len (pa_cons (pv 1) pa_nil)) (pe_callB call_len_seq (by rfl) T.len PySem.boot_len (pa_cons (pv 2) pa_nil)) (nomark _)) (pe_one (pe_callB (cr_all rfl) (by rfl) hall (by decide +kernel) (pa_cons (pe_lc (own := [("word", 4)]) (g := gName 4) (tt := tYes) rfl nd (pi_list (pv 1)) (blkOk_by (own := [("word", 4)]) (N := ["self", "words", "bounds", "numbers", "word", "number", "low", "high"]) (sc := defScope sNums) (by decide +kernel)) (fun _ _ _ _ _ => pg_name (i := 4) nd rfl (Or.inl rfl)) (fun _ _ _ _ _ => pts_nil) (fun _ _ _ _ _ => (pe_call GN.ok hr1 (by rfl) GN.mg GN.kp GN.b .nil pass0 (pa_cons (pv 4) pa_nil)))) pa_nil)))) pa_nil))) <| pss_cons (ps_setLc (i := 3) (own := [("word", 4)]) (g := gName 4) (tt := tYes) rfl nd rfl rfl (sw_true rfl rfl rfl (by decide +kernel)) (pi_list (pv 1)) (blkOk_by (own := [("word", 4)]) (N := ["self", "words", "bounds", "numbers", "word", "number", "low", "high"]) (sc := defScope sNums) (by decide +kernel)) (fun _ _ _ _ _ => pg_name (i := 4) nd rfl (Or.inl rfl)) (fun _ _ _ _ _ => pts_nil) (fun _ _ _ _ _ => (pe_callTy call_int_str (by rfl) T.int (by decide +kernel) (pa_cons (pv 4) pa_nil)))) <| pss_cons (ps_expr (pe_meth (pv 0) c.cl mC GC.ok hr3 GC.b .nil (passE (takes_of rfl rfl rfl rfl)) (pa_cons (pe_callB (cr_all rfl) (by rfl) hall (by decide +kernel) (pa_cons (pe_lc (own := [("number", 5), ("low", 6), ("high", 7)]) (g := (gTup K 2 (gCons (gName 5) (gCons (gTup K 2 (gCons (gName 6) (gCons (gName 7) gNil))) gNil)))) (tt := tYes) rfl nd (pi_zip (by rfl) hzip (pa_cons (pv 3) (pa_cons (pv 2) pa_nil))) (blkOk_by (own := [("number", 5), ("low", 6), ("high", 7)]) (N := ["self", "words", "bounds", "numbers", "word", "number", "low", "high"]) (sc := defScope sNums) (by decide +kernel)) (fun _ _ _ _ _ => (pg_tupK (K := K) rfl (pgs_cons (pg_name (i := 5) nd rfl (Or.inl rfl)) (pgs_cons (pg_tupK (K := K) rfl (pgs_cons (pg_name (i := 6) nd rfl (Or.inl rfl)) (pgs_cons (pg_name (i := 7) nd rfl (Or.inl rfl)) pgs_nil))) pgs_nil)))) (fun _ _ _ _ _ => pts_nil) (fun _ _ _ _ _ => (pe_chain op_le op_le (pv 6) (pv 5) (pv 7)))) pa_nil)) pa_nil))) <| pss_one (ps_ret (pv 3)), ?_⟩
    have lb' : bt.length = bs.length := hbs.length
    refine ⟨_, rfl, p, dx, fs, rfl, hp, fc, ?_⟩
    refine andS (a := decide (ws.length = bs.length)) (b := ws.all isNumT) (fun Q h => ?_) (fun _ H1 s1 Q h => ?_) fun H1 s1 => ?_
    · refine ⟨_, rfl, lw, _, rfl, .inl hw, _, rfl, lb, _, rfl, .inl hb, rfl, ?_⟩
      rw [List.length_map, List.length_map, lb', dec_nat]
      exact h H (Same.refl H)
    · refine ⟨_, rfl, lw, rfl, ⟨_, s1.seq hw⟩, fun D nD => ?_⟩
      refine lc_list (K := K) (a := lw) (xs := ws.map V.str) (fun i H' => Same H1 H' ∧ H' D = some (.lst (((ws.take i).map isNumT).map V.bl))) ⟨same_new nD, upd_same⟩ (fun i H' _ z => (s1.trans z.1).seq hw) ?_ ?_
      · rintro i x H' hi ⟨sm, hD⟩
        obtain ⟨y, ey, rfl⟩ := strs_at hi
        refine ⟨rfl, _, rfl, y, rfl, (hws y (List.mem_of_getElem? ey)).2, _, hD, szl (by rw [List.length_map, List.length_map, List.length_take]; omega), same_but sm nD but_self, ?_⟩
        rw [upd_same, take_snoc ey, List.map_append, List.map_append]
        rfl
      · rintro H2 ⟨sm, hD⟩
        rw [List.length_map, List.take_length] at hD
        refine ⟨D, ws.map isNumT, rfl, SqL.of hD, ?_⟩
        have e : (ws.map isNumT).all id = ws.all isNumT := by rw [List.all_map]; rfl
        rw [e]
        exact h H2 (s1.trans sm)
    refine ⟨p, dx, fs, n, _, rfl, s1 _ _ hp, fp, fun eb => ?_, fun eb => q2 ?_⟩
    · have e0 := eb
      rw [Bool.and_eq_true, decide_eq_true_eq, List.all_eq_true] at eb
      obtain ⟨el, ea⟩ := eb
      refine ⟨_, rfl, lw, rfl, ⟨_, s1.seq hw⟩, fun D nD => ?_⟩
      refine lc_list (K := K) (a := lw) (xs := ws.map V.str) (fun i H' => Same H1 H' ∧ H' D = some (.lst (((ws.take i).map numI).map V.int))) ⟨same_new nD, upd_same⟩ (fun i H' _ z => (s1.trans z.1).seq hw) ?_ ?_
      · rintro i x H' hi ⟨sm, hD⟩
        obtain ⟨y, ey, rfl⟩ := strs_at hi
        have hm := List.mem_of_getElem? ey
        have iw := int_word (hws y hm).1 (ea y hm)
        refine ⟨rfl, _, rfl, y, _, rfl, iw.1, (hws y hm).2, _, hD, szl (by rw [List.length_map, List.length_map, List.length_take]; omega), same_but sm nD but_self, ?_⟩
        rw [upd_same, take_snoc ey, List.map_append, List.map_append]
        rfl
      rintro H2 ⟨s2, hD⟩
      rw [List.length_map, List.take_length] at hD
      have S2 := s1.trans s2
      refine ⟨_, rfl, p, dx, fs, rfl, S2 _ _ hp, fc, ?_⟩
      refine ⟨_, rfl, _, rfl, D, lb, _, _, rfl, SqL.of hD, S2.seq hb, fun D2 nD2 => ?_⟩
      have lz : ((ws.map numI).zip bs).length = ws.length := by rw [List.length_zip, List.length_map]; omega
      refine lc_it (walk_zip rfl) (fun i H' => Same H2 H' ∧ H' D2 = some (.lst (((((ws.map numI).zip bs).take i).map inB).map V.bl))) ⟨same_new nD2, upd_same⟩ (fun i H' _ z => ⟨SqL.of (z.1 _ _ hD), (S2.trans z.1).seq hb⟩) ?_ ?_
      · rintro i x H' G hi ⟨sm, hD'⟩ ⟨T', x1, z1, ex, nT, rfl, hx, hz⟩
        subst ex
        obtain ⟨m, em, rfl⟩ := ints_at hx
        obtain ⟨t, et, rfl⟩ := refs_at hz
        obtain ⟨b, eb, hT⟩ := Paired.at hbs et
        have sT := same_new (o := .tup [V.int m, V.ref t]) nT
        have hbT := same_tup ((S2.trans sm).trans sT) hT
        have ez : ((ws.map numI).zip bs)[i]? = some (m, b) := List.getElem?_zip_eq_some.mpr ⟨em, eb⟩
        have hD3 := sT _ _ hD'
        have sz' : (((((ws.map numI).zip bs).take i).map inB).map V.bl).length < sizeLine := szl (by rw [List.length_map, List.length_map, List.length_take]; omega)
        have fin : ∀ (v : Bool), v = inB (m, b) → ∃ acc, (upd H' T' (.tup [V.int m, V.ref t])) D2 = some (.lst acc) ∧ acc.length < sizeLine ∧ Same H2 (upd (upd H' T' (.tup [V.int m, V.ref t])) D2 (.lst (acc ++ [V.bl v]))) ∧ (upd (upd H' T' (.tup [V.int m, V.ref t])) D2 (.lst (acc ++ [V.bl v]))) D2 = some (.lst (((((ws.map numI).zip bs).take (i + 1)).map inB).map V.bl)) := fun v ev => by
          refine ⟨_, hD3, sz', same_but (sm.trans sT) nD2 but_self, ?_⟩
          rw [upd_same, take_snoc ez, List.map_append, List.map_append, ev]
          rfl
        refine ⟨T', _, rfl, SqT.of upd_same, rfl, _, _, rfl, _, _, rfl, ?_⟩
        refine ⟨t, _, rfl, hbT, rfl, _, _, rfl, _, _, rfl, rfl, rfl, rfl, ?_⟩
        refine ⟨_, rfl, _, rfl, _, _, rfl, rfl, _, rfl, ?_⟩
        refine ite2 (fun z => ?_) (fun z => ?_)
        · refine ⟨_, rfl, _, _, rfl, rfl, fin _ ?_⟩
          unfold inB
          rw [z]
          rfl
        · refine fin _ ?_
          unfold inB
          rw [Bool.eq_false_iff.mpr z]
          rfl
      · rintro H3 ⟨s3, hD3⟩
        have lm : min (((ws.map numI).map V.int).length) ((bt.map V.ref).length) = ((ws.map numI).zip bs).length := by
          rw [List.length_map, List.length_map, List.length_map, lz]
          omega
        rw [lm, List.take_length] at hD3
        have S3 := S2.trans s3
        refine ⟨D2, ((ws.map numI).zip bs).map inB, rfl, SqL.of hD3, ?_⟩
        have e : (((ws.map numI).zip bs).map inB).all id = ((ws.map numI).zip bs).all inB := by rw [List.all_map]; rfl
        rw [e]
        refine ⟨p, dx, fs, n, _, rfl, S3 _ _ hp, fp, fun eb => ?_, fun eb => q2 ?_⟩
        · exact ⟨_, rfl, q1 (by unfold numsOk; rw [e0, eb]; rfl) H3 D S3 (s1.free nD) (s3 _ _ hD)⟩
        · unfold numsOk
          rw [eb, Bool.and_false]
    · unfold numsOk
      rw [eb]
      rfl
end
end My
/-! len(set(xs)) of a list of ints: as many as there are different ones. No row. -/
namespace Ls
open PySem PySem.Spec PyProof.Rows L2
theorem met_len (ns : List Int) : ∀ k, k ≤ ns.length → (firstMet (fun i => ns.getD i 0) k).length ≤ k ∧ ((firstMet (fun i => ns.getD i 0) k).length = k ↔ (ns.take k).Nodup)
  | 0, _ => ⟨Nat.le_refl _, by simp [firstMet_zero]⟩
  | k + 1, h => by
    obtain ⟨h1, h2⟩ := met_len ns k (by omega)
    have lt : k < ns.length := h
    have e0 : ns.getD k 0 = ns[k] := My.getD_lt 0 lt
    have e1 : ns.take (k + 1) = ns.take k ++ [ns[k]] := My.take_snoc (List.getElem?_eq_getElem lt)
    have e2 : (List.range k).map (fun i => ns.getD i 0) = ns.take k := by
      apply List.ext_getElem
      · simp; omega
      · intro i q1 q2
        rw [List.getElem_map, List.getElem_range, List.getElem_take]
        exact My.getD_lt 0 (by rw [List.length_take] at q2; omega)
    have e3 : ((firstMet (fun i => ns.getD i 0) k).any fun z => z == ns[k]) = decide (ns[k] ∈ ns.take k) := by
      rw [firstMet_any, e2, Bool.eq_iff_iff, List.any_eq_true, decide_eq_true_eq]
      exact ⟨fun ⟨z, m, y⟩ => by rw [← eq_of_beq y]; exact m, fun m => ⟨_, m, beq_self_eq_true _⟩⟩
    rw [firstMet_succ, e1]
    unfold step_dedup
    rw [e0]
    have hn : (ns.take k ++ [ns[k]]).Nodup ↔ (ns.take k).Nodup ∧ ns[k] ∉ ns.take k := by
      constructor
      · intro q
        rw [List.nodup_append] at q
        exact ⟨q.1, fun m => q.2.2 _ m _ (List.mem_singleton.mpr rfl) rfl⟩
      · rintro ⟨q1, q2⟩
        exact My.nd_snoc' q1 q2
    by_cases m : ns[k] ∈ ns.take k
    · rw [if_pos (by rw [e3]; exact decide_eq_true m)]
      refine ⟨by omega, ⟨fun z => by omega, fun z => absurd m (hn.mp z).2⟩⟩
    · rw [if_neg (by rw [e3]; simpa using m), List.length_append, List.length_singleton]
      refine ⟨by omega, ⟨fun z => hn.mpr ⟨h2.mp (by omega), m⟩, fun z => by rw [h2.mpr (hn.mp z).1]⟩⟩
def tLenSet (K : PySem.W.Frag) (ta : TE) : TE := fun σ H Q => ta σ H fun x H1 => ∃ (l : Addr) (ns : List Int), x = .ref l ∧ SqL K H1 l (ns.map V.int) ∧ ns.length ≤ 4000 ∧ ∀ c : Nat, c ≤ ns.length → (c = ns.length ↔ ns.Nodup) → Q (.int (c : Int)) H1
theorem pe_lenSet {X : Cx} {e : Expr} {ta : TE} {p1 p2 q1 q2 : Pos} (hg : Gl X "len") (hm : X.mg "len" = none) (hs : Gl X "set") (ms : X.mg "set" = none) (ha : PE X e ta) (hc : X.calm = true := by rfl)
    (st : starEach [e] X.env = (false, eval e X.env) :: starEach [] X.env := by rfl) : PE X (.Call (.Name "len" p1) [.Call (.Name "set" p2) [e] [] q1] [] q2) (tLenSet X.K ta) := by
  refine ⟨fun pins s σ H Q I h => Call_ (ld_blt I hg hm boot_len (callWith_builtin1 (args_cons (Call_ (ld_blt I hs ms boot_set (callWith_type1 (args_cons (thn (ha.run pins s σ H _ I h) fun v s1 ⟨x, H1, I1, r1, z⟩ => args_nil ?_) st) st rfl))) rfl) rfl rfl))⟩
  obtain ⟨l, ns, rfl, hq, few, z⟩ := z
  cases r1
  obtain ⟨its, r, pl, _⟩ := I1.list hq
  have len : its.toArray.size = ns.length := by rw [List.size_toArray, ← r.length, List.length_map]
  obtain ⟨m1, m2⟩ := met_len ns ns.length (Nat.le_refl _)
  refine call_set_list (I1.ok.hd hc) pl.isList (by simpa using RZ.intsAre_vals r) (by rw [len]; unfold scanBound; omega) fun g tk hS hk => args_nil ?_
  rw [len] at hS
  generalize hmet : firstMet (fun i => ns.getD i 0) ns.length = mt at hS m1 m2
  obtain ⟨o, es, ep, t, ho, hex, hd, _, _, _, hf, hn⟩ := hS
  have I2 : Inv X pins σ H1 { s1 with heap := g, toks := tk } := I1.kept fun b o e => hk b o (Heap.lt_size e) e
  rw [List.take_length] at m2
  exact call_len_set ho hex hd hf (by rw [hn]; omega) ⟨.int (mt.length : Int), H1, I2.tok _, ⟨_, by rw [hn]⟩, z mt.length m1 m2⟩
end Ls
namespace My
open PySem PySem.Spec PyProof.Rows L2
abbrev sIsP : Stmt := top 5 /-is_path-/
def pat (n : Nat) : List Bool := (true :: List.replicate (n - 2) false) ++ [true]
theorem pat_at {n k : Nat} (h2 : 2 ≤ n) (hk : k < n) : (pat n)[k]? = some (decide (k = 0) || decide (k + 1 = n)) := by
  unfold pat
  by_cases e0 : k = 0
  · rw [e0]; rfl
  · by_cases e1 : k + 1 = n
    · rw [List.getElem?_append_right (by rw [List.length_cons, List.length_replicate]; omega), List.length_cons, List.length_replicate, show k - (n - 2 + 1) = 0 by omega, decide_eq_true e1, Bool.or_true]
      rfl
    · rw [List.getElem?_append_left (by rw [List.length_cons, List.length_replicate]; omega), decide_eq_false e0, decide_eq_false e1]
      obtain ⟨j, rfl⟩ : ∃ j, k = j + 1 := ⟨k - 1, by omega⟩
      rw [List.getElem?_cons_succ, List.getElem?_replicate, if_pos (by omega)]
      rfl
theorem pat_len {n : Nat} (h2 : 2 ≤ n) : (pat n).length = n := by
  unfold pat
  rw [List.length_append, List.length_cons, List.length_replicate, List.length_singleton]
  omega
theorem pat_iff {N : NetD} {r : List Nat} (h2 : 2 ≤ r.length) : r.map (host N) = pat r.length ↔ ∀ k, k < r.length → host N (r.getD k 0) = (decide (k = 0) || decide (k + 1 = r.length)) := by
  constructor
  · intro e k hk
    have this : (r.map (host N))[k]? = (pat r.length)[k]? := by rw [e]
    rw [pat_at h2 hk, List.getElem?_map, getD_at 0 hk] at this
    exact Option.some.inj this
  · intro h
    refine List.ext_getElem? fun k => ?_
    by_cases hk : k < r.length
    · rw [pat_at h2 hk, List.getElem?_map, getD_at 0 hk, ← h k hk]
      rfl
    · rw [List.getElem?_eq_none (by rw [List.length_map]; omega), List.getElem?_eq_none (by rw [pat_len h2]; omega)]
theorem ports_all {N : NetD} {r : List Nat} : (((portsOf r).map fun p => (joined N p.1 p.2).isSome).all id) = true ↔ ∀ k, k + 1 < r.length → adj N (r.getD k 0) (r.getD (k + 1) 0) = true := by
  rw [List.all_map, List.all_eq_true]
  constructor
  · intro h k hk
    have := h _ (mem_ports.mpr ⟨k, hk, rfl⟩)
    rw [← joined_some]
    exact this
  · intro h p hp
    obtain ⟨k, hk, rfl⟩ := mem_ports.mp hp
    show (joined N (r.getD k 0) (r.getD (k + 1) 0)).isSome = true
    rw [joined_some]
    exact h k hk
theorem nodup_ints (r : List Nat) : (r.map fun (n : Nat) => (n : Int)).Nodup ↔ r.Nodup := by
  unfold List.Nodup
  rw [List.pairwise_map]
  constructor
  · intro h
    exact h.imp fun z e => z (by rw [e])
  · intro h
    exact h.imp fun z e => z (by omega)
theorem natsV_ints (r : List Nat) : natsV r = (r.map fun (n : Nat) => (n : Int)).map V.int := by
  unfold natsV
  rw [List.map_map]
  rfl
section
variable {P : Program} {w : World} {K : PySem.W.Frag} {mg : Str → Option Value} {base : Heap}
theorem scIs : FnScope ["net", "nodes", "kinds", "node", "a", "b"] ["net", "nodes"] (defScope sIsP) := ⟨rfl, rfl, rfl, by decide +kernel, rfl, by decide +kernel, by decide +kernel⟩
def spIs (K : PySem.W.Frag) (C : Addr) : Sp := fun vs H Q _ => ∃ (p l : Addr) (r : List Nat) (N : NetD), vs = [.ref p, .ref l] ∧ NetAt K C H p N ∧ Dist N.ls ∧ H l = some (.lst (natsV r)) ∧ (∀ x ∈ r, x < N.ks.length) ∧ r.length ≤ 300 ∧
  ∀ (b : Bool) (H' : Hp), Same H H' → (b = true ↔ IsP N r) → Q (.bl b) H'
theorem ok_is {f C fP fD : Addr} {fd fdP fdD : FuncData} {k : Nat} (F : Fun K "is_path" "is_path" sIsP f fd) (T : Blt mg) (hset : mg "set" = none) (hall : mg "all" = none) (c : NetC K C) (GP : Callee P w K mg base 1 "ports_of" ["path"] (spPo K) fP fdP) (mD : Meth K C "delay" fD) (GD : MethOf P w K mg base 1 ["self", "a", "b"] (spDelay K C) fD fdD) :
    FnOk P w K mg base CX0 (k + 2) f fd ["net", "nodes"] (spIs K C) := by
  refine F.ok scIs (fun vs H Q E h => ?_) (fun cdv A outer s0 H vs Q E hr h => ?_)
  · obtain ⟨p, l, r, N, rfl, _⟩ := h
    rfl
  · obtain ⟨p, l, r, N, rfl, hN, hD0, hl, hlt, hlen, q⟩ := h
    have nd := scIs.nd
    have hr1 : Room 1 _ := hr.mono (by omega)
    refine ⟨_, pss_cons (ps_if (PW.pt (pw_or (pt_cmpR op_lt (pe_callB call_len_seq (by rfl) T.len PySem.boot_len (pa_cons (pv 1) pa_nil)) pe_int (nomark _)) (pw_or1 (pt_cmpR op_lt (Ls.pe_lenSet (by rfl) T.len (by rfl) hset (pv 1)) (pe_callB call_len_seq (by rfl) T.len PySem.boot_len (pa_cons (pv 1) pa_nil)) (nomark _))))) (pss_one (ps_ret pe_bl)) (pss_nil)) <| pss_cons (ps_setLc (i := 2) (own := [("node", 3)]) (g := gName 3) (tt := tYes) rfl nd rfl rfl (sw_true rfl rfl rfl (by decide +kernel)) (pi_list (pv 1)) (blkOk_by (own := [("node", 3)]) (N := ["net", "nodes", "kinds", "node", "a", "b"]) (sc := defScope sIsP) (by decide +kernel)) (fun _ _ _ _ _ => pg_name (i := 3) nd rfl (Or.inl rfl)) (fun _ _ _ _ _ => pts_nil) (fun _ _ _ _ _ => (pe_ix (ix_listK (K := K)) (pe_fldK (K := K) (pv 0)) (pv 3) (fun _ _ => rfl)))) <| pss_cons (ps_if (pt_cmpR (op_neD hr.units) (pv 2) (pe_op op_cat (pe_op op_cat (pe_lst (pa_cons pe_str pa_nil)) (pe_op op_rep (pe_lst (pa_cons pe_str pa_nil)) (pe_op op_sub (pe_callB call_len_seq (by rfl) T.len PySem.boot_len (pa_cons (pv 1) pa_nil)) pe_int))) (pe_lst (pa_cons pe_str pa_nil))) (nomark _)) (pss_one (ps_ret pe_bl)) (pss_nil)) <| pss_one (ps_ret (pe_callB (cr_all rfl) (by rfl) hall PyProof.Rows.boot_all (pa_cons (pe_lc (own := [("a", 4), ("b", 5)]) (g := (gTup K 2 (gCons (gName 4) (gCons (gName 5) gNil)))) (tt := tYes) rfl nd (pi_list (pe_call GP.ok hr1 (by rfl) GP.mg GP.kp GP.b .nil pass0 (pa_cons (pv 1) pa_nil))) (blkOk_by (own := [("a", 4), ("b", 5)]) (N := ["net", "nodes", "kinds", "node", "a", "b"]) (sc := defScope sIsP) (by decide +kernel)) (fun _ _ _ _ _ => pg_tupK (K := K) rfl (pgs_cons (pg_name (i := 4) nd rfl (Or.inl rfl)) (pgs_cons (pg_name (i := 5) nd rfl (Or.inl rfl)) pgs_nil))) (fun _ _ _ _ _ => pts_nil) (fun _ _ _ _ _ => (pe_cmpR op_notN (pe_meth (pv 0) c.cl mD GD.ok hr1 GD.b .nil pass0 (pa_cons (pv 4) (pa_cons (pv 5) pa_nil))) pe_non (nomark _)))) pa_nil))), ?_⟩
    have eN := hN
    obtain ⟨dx, lk, ll, ld, ts0, e1, e2, e3, e4, e5⟩ := hN
    dsimp only [gName]
    refine or_read (a := decide (((natsV r).length : Int) < 2)) (b := decide (¬ r.Nodup)) (fun Q h => ?_) (fun Q h => ?_) ?_
    · exact ⟨_, rfl, l, _, rfl, .inl (SqL.of hl), _, _, rfl, rfl, _, rfl, h⟩
    · refine ⟨_, rfl, l, r.map (fun (n : Nat) => (n : Int)), rfl, by rw [← natsV_ints]; exact SqL.of hl, by rw [List.length_map]; omega, fun c' hc hn => ?_⟩
      rw [List.length_map] at hc hn
      rw [nodup_ints] at hn
      refine ⟨_, rfl, l, _, rfl, .inl (SqL.of hl), _, _, rfl, rfl, _, rfl, ?_⟩
      have e : decide ((c' : Int) < ((natsV r).length : Int)) = decide (¬ r.Nodup) := by
        rw [natsV_len]
        by_cases z : r.Nodup
        · have := hn.mpr z
          rw [decide_eq_false (by omega), decide_eq_false (by simpa using z)]
        · have : c' ≠ r.length := fun y => z (hn.mp y)
          rw [decide_eq_true (by omega), decide_eq_true z]
      rw [e]
      exact h
    · refine ite2 (fun e => ?_) (fun e => ?_)
      · refine q false H (Same.refl H) ⟨(fun z => by cases z), fun z => ?_⟩
        rw [Bool.or_eq_true, decide_eq_true_eq, decide_eq_true_eq, natsV_len] at e
        rcases e with e | e
        · have := z.two
          omega
        · exact absurd z.nd e
      · rw [Bool.or_eq_true, decide_eq_true_eq, decide_eq_true_eq, natsV_len, not_or, Classical.not_not] at e
        obtain ⟨two, ndr⟩ := e
        have two : 2 ≤ r.length := by omega
        -- kinds
        refine ⟨_, rfl, l, rfl, ⟨_, SqL.of hl⟩, fun D nD => ?_⟩
        have s1 := same_new (o := .lst []) nD
        refine lc_list (K := K) (a := l) (xs := natsV r) (fun i H' => Same H H' ∧ H' D = some (.lst (((r.take i).map (host N)).map kindV))) ⟨s1, upd_same⟩ (fun i H' _ z => SqL.of (z.1 _ _ hl)) ?_ ?_
        · rintro i x H' hi ⟨sm, hD⟩
          obtain ⟨n, en, rfl⟩ := nats_at hi
          have hnl := hlt n (List.mem_of_getElem? en)
          have hil : (r.take i).length ≤ 300 := by rw [List.length_take]; omega
          refine ⟨rfl, ?_⟩
          refine ⟨_, rfl, p, C, dx, _, _, rfl, sm _ _ e1, c.cl, c.n1, g1, _, rfl, lk, _, _, _, rfl, rfl, SqL.of (sm _ _ e2), atI_kind rfl hnl, _, hD, szl (by rw [List.length_map, List.length_map]; omega), same_but sm nD but_self, ?_⟩
          rw [upd_same, take_snoc en, List.map_append, List.map_append]
          rfl
        rintro H1 ⟨s1, hD1⟩
        rw [natsV_len, List.take_length] at hD1
        -- kinds != ...
        refine ⟨_, rfl, by show 1 ≤ sizeLine; decide, fun u nu => ?_⟩
        have s2 := same_new (o := .lst [V.str "host"]) nu
        refine ⟨by show 1 ≤ sizeLine; decide, fun u2 nu2 => ?_⟩
        have s3 := s2.trans (same_new (o := .lst [V.str "switch"]) nu2)
        refine ⟨_, rfl, l, _, rfl, .inl (SqL.of (s3 _ _ (s1 _ _ hl))), _, _, rfl, rfl, u2, _, _, rfl, rfl, upd_same, by rw [natsV_len]; omega, by rw [natsV_len]; omega, sz (by rw [natsV_len, List.length_singleton]; omega), fun u3 nu3 => ?_⟩
        have n4 := same_new (o := .lst (List.replicate (((natsV r).length : Int) - 2).toNat [V.str "switch"]).flatten) nu3
        have hu4 := n4 _ _ ((same_new (o := .lst [V.str "switch"]) nu2) _ _ (upd_same (H := H1) (a := u) (o := .lst [V.str "host"])))
        have s4 := s3.trans n4
        have h34 : (upd (upd (upd H1 u (.lst [V.str "host"])) u2 (.lst [V.str "switch"])) u3 (.lst (List.replicate (((natsV r).length : Int) - 2).toNat [V.str "switch"]).flatten)) u3 = some (.lst (List.replicate (((natsV r).length : Int) - 2).toNat [V.str "switch"]).flatten) := upd_same
        generalize (upd (upd (upd H1 u (.lst [V.str "host"])) u2 (.lst [V.str "switch"])) u3 (.lst (List.replicate (((natsV r).length : Int) - 2).toNat [V.str "switch"]).flatten)) = H4 at s4 hu4 h34 ⊢
        refine ⟨u, u3, _, _, rfl, rfl, hu4, h34, sz (by rw [natsV_len, rep_flat, List.length_replicate, List.length_singleton]; omega), fun u4 nu4 => ?_⟩
        have s5 := same_new (o := .lst ([V.str "host"] ++ (List.replicate (((natsV r).length : Int) - 2).toNat [V.str "switch"]).flatten)) nu4
        refine ⟨by show 1 ≤ sizeLine; decide, fun u5 nu5 => ?_⟩
        have n6 := same_new (o := .lst [V.str "host"]) nu5
        refine ⟨u4, u5, _, _, rfl, rfl, n6 _ _ upd_same, upd_same, sz (by rw [natsV_len, rep_flat, List.length_append, List.length_replicate, List.length_singleton]; omega), fun u6 nu6 => ?_⟩
        have n7 := same_new (o := .lst (([V.str "host"] ++ (List.replicate (((natsV r).length : Int) - 2).toNat [V.str "switch"]).flatten) ++ [V.str "host"])) nu6
        have S7 := ((s4.trans s5).trans n6).trans n7
        have epat : ([V.str "host"] ++ (List.replicate (((natsV r).length : Int) - 2).toNat [V.str "switch"]).flatten) ++ [V.str "host"] = (pat r.length).map kindV := by
          rw [natsV_len, rep_flat, show ((r.length : Int) - 2).toNat = r.length - 2 by omega]
          unfold pat
          rw [List.map_append, List.map_cons, List.map_replicate]
          rfl
        refine ⟨dKinds (r.map (host N)), dKinds (pat r.length), dp_kinds (SqL.of (S7 _ _ hD1)), dp_kinds (by rw [← epat]; exact SqL.of upd_same), (shp_kinds _).shaped, (shp_kinds _).shaped, _, rfl, ?_⟩
        rw [eqv_kinds]
        have SS := s1.trans S7
        generalize (upd (upd (upd H4 u4 (.lst ([V.str "host"] ++ (List.replicate (((natsV r).length : Int) - 2).toNat [V.str "switch"]).flatten))) u5 (.lst [V.str "host"])) u6 (.lst (([V.str "host"] ++ (List.replicate (((natsV r).length : Int) - 2).toNat [V.str "switch"]).flatten) ++ [V.str "host"]))) = H7 at SS S7 ⊢
        refine ite2 (fun e => ?_) (fun e => ?_)
        · refine q false H7 SS ⟨(fun z => by cases z), fun z => ?_⟩
          rw [Bool.not_eq_true', decide_eq_false_iff_not] at e
          exact absurd ((pat_iff two).mpr z.hs) e
        · have e : r.map (host N) = pat r.length := by simpa using e
          refine ⟨_, rfl, l, r, rfl, SS _ _ hl, fun H8 pp ts s8 npp hp hP => ?_⟩
          have S8 := SS.trans s8
          refine ⟨pp, rfl, ⟨_, SqL.of hp⟩, fun D2 nD2 => ?_⟩
          have s9 := same_new (o := .lst []) nD2
          have ltp : ts.length = (portsOf r).length := hP.length
          have lpo := ports_len r
          refine lc_list (K := K) (a := pp) (xs := ts.map V.ref) (fun i H' => Same H8 H' ∧ H' D2 = some (.lst ((((portsOf r).take i).map fun p => (joined N p.1 p.2).isSome).map V.bl))) ⟨s9, upd_same⟩ (fun i H' _ z => SqL.of (z.1 _ _ hp)) ?_ ?_
          · rintro i x H' hi ⟨sm, hD⟩
            rw [List.getElem?_map] at hi
            cases ht : ts[i]? with
            | none => rw [ht] at hi; cases hi
            | some t =>
              rw [ht] at hi
              cases hi
              obtain ⟨z, ez, hT⟩ := Paired.at hP ht
              have lt' : ((portsOf r).take i).length ≤ 300 := by rw [List.length_take]; omega
              refine ⟨t, _, rfl, same_tup sm hT, rfl, _, _, rfl, _, _, rfl, rfl, rfl, ?_⟩
              refine ⟨_, rfl, p, dx, _, rfl, sm _ _ (S8 _ _ e1), g7, _, rfl, _, rfl, p, z.1, z.2, N, rfl, eN.same (S8.trans sm), hD0, fun H9 s9 => ?_⟩
              refine ⟨rfl, _, s9 _ _ hD, szl (by rw [List.length_map, List.length_map]; omega), same_but (sm.trans s9) nD2 but_self, ?_⟩
              rw [upd_same, take_snoc ez, List.map_append, List.map_append, optV_non]
              rfl
          rintro H9 ⟨s9, hD9⟩
          rw [List.length_map, ltp, List.take_length] at hD9
          refine ⟨D2, ((portsOf r).map fun p => (joined N p.1 p.2).isSome), rfl, SqL.of hD9, q _ _ (S8.trans s9) ?_⟩
          rw [ports_all]
          exact ⟨fun z => ⟨two, ndr, (pat_iff two).mp e, z⟩, fun z => z.ad⟩
end
end My
namespace My
open PySem PySem.Spec PyProof.Rows L2
abbrev sNLine : Stmt := inClass sReader 3 /-Reader.read_net_line-/
/-- words -/
structure WsAt (K : PySem.W.Frag) (H : Hp) (lw : Addr) (ws : List Str) : Prop where
  at_ : SqL K H lw (ws.map V.str)
  asc : ∀ y ∈ ws, Asc y ∧ y.length ≤ 250
  len : ws.length ≤ 300
theorem RdAt.out {K : PySem.W.Frag} {C C2 : Addr} {H : Hp} {p dx lk ll le a : Addr} {S : RdD} (h : RdAt K C C2 H p dx lk ll le S) (n : H a = none) : a ∉ [p, lk, ll, le] := fun hm => by
  obtain ⟨ts, h3, _⟩ := h.ls
  obtain ⟨us, h5, _⟩ := h.es
  have : ∃ o, H a = some o := by
    rcases List.mem_cons.mp hm with e | hm
    · exact ⟨_, by rw [e]; exact h.at_⟩
    rcases List.mem_cons.mp hm with e | hm
    · exact ⟨_, by rw [e]; exact h.ks⟩
    rcases List.mem_cons.mp hm with e | hm
    · exact ⟨_, by rw [e]; exact h3⟩
    rw [List.mem_singleton.mp hm]
    exact ⟨_, h5⟩
  obtain ⟨o, e⟩ := this
  rw [n] at e
  cases e
section
variable {P : Program} {w : World} {K : PySem.W.Frag} {mg : Str → Option Value} {base : Heap}
theorem scNLine : FnScope ["self", "words", "nodes", "a", "b", "delay"] ["self", "words"] (defScope sNLine) := ⟨rfl, rfl, rfl, by decide +kernel, rfl, by decide +kernel, by decide +kernel⟩
-- ["self", "words", "nodes", "a", "b", "delay"]
def spNLine (K : PySem.W.Frag) (C CN C2 : Addr) (XX : Bool) (CE : Addr) : Sp := fun vs H Q E => ∃ (p dx lk ll le lw : Addr) (S : RdD) (ws : List Str), vs = [.ref p, .ref lw] ∧ RdAt K C C2 H p dx lk ll le S ∧ RdW S ∧ WsAt K H lw ws ∧
  (lineOk S ws → ∀ H', Same (hid [p, lk, ll, le] H) H' → RdAt K C C2 H' p dx lk ll le ⟨S.pl, S.pv, ⟨S.N.ks, S.N.ls ++ [lnOf ws], S.N.pr, S.N.er⟩, S.es⟩ → Q .non H') ∧ (¬ lineOk S ws → Bad XX CE S.pl E)
theorem ok_nline {f C CN C2 CE fC fM fN fD : Addr} {fd fdC fdM fdN fdD : FuncData} {XX : Bool} {k : Nat} (F : Fun K "read_net_line" "Reader.read_net_line" sNLine f fd) (c : RdC K C) (cN : NetC K CN) (T : Blt mg) (mC : Meth K C "check" fC) (GC : MethX P w K mg base 3 ["self", "holds"] (spCheck C XX CE) fC fdC)
    (mM : Meth K C "read_numbers" fM) (GM : MethX P w K mg base 4 ["self", "words", "bounds"] (spNums K C XX CE) fM fdM) (mN : Meth K C "net_so_far" fN) (GN : MethOf P w K mg base 3 ["self"] (spNsf K C CN C2) fN fdN) (mD : Meth K CN "delay" fD) (GD : MethOf P w K mg base 1 ["self", "a", "b"] (spDelay K CN) fD fdD) :
    FnOk P w K mg base (L2.CX P w) (k + 5) f fd ["self", "words"] (spNLine K C CN C2 XX CE) := by
  refine F.okX scNLine (fun vs H Q E h => ?_) (fun cdv A0 outer s0 H vs Q E hr h => ?_)
  · obtain ⟨p, dx, lk, ll, le, lw, S, ws, rfl, _⟩ := h
    rfl
  · obtain ⟨p, dx, lk, ll, le, lw, S, ws, rfl, hS, hW, hw, q1, q2⟩ := h
    have nd := scNLine.nd
    have hr1 : Room 1 _ := hr.mono (by omega)
    have hr3 : Room 3 _ := hr.mono (by omega)
    have hr4 : Room 4 _ := hr.mono (by omega)
    refine ⟨_, pss_cons (ps_set (i := 2) nd rfl (.inl rfl) (pe_tup (pa_cons pe_int (pa_cons (pe_op op_sub (pe_callB call_len_seq (by rfl) T.len PySem.boot_len (pa_cons (pe_fld (pv 0) rfl) pa_nil)) pe_int) pa_nil)))) <| pss_cons (ps_asg (pe_meth (pv 0) c.cl mM GM.ok hr4 GM.b .nil (passE (takes_of rfl rfl rfl rfl)) (pa_cons (pe_slice sl_list (pv 1) (po_some pe_int) po_none) (pa_cons (pe_lst (pa_cons (pv 2) (pa_cons (pv 2) (pa_cons (pe_tup (pa_cons pe_int (pa_cons pe_int pa_nil))) pa_nil)))) pa_nil))) (pg_lst rfl (pgs_cons (pg_name (i := 3) nd rfl (.inl rfl)) (pgs_cons (pg_name (i := 4) nd rfl (.inl rfl)) (pgs_cons (pg_name (i := 5) nd rfl (.inl rfl)) pgs_nil))))) <| pss_cons (ps_expr (pe_meth (pv 0) c.cl mC GC.ok hr3 GC.b .nil (passE (takes_of rfl rfl rfl rfl)) (pa_cons (pe_and (pe_cmpR op_ne (pv 3) (pv 4) (nomark _)) (pe_one (pe_cmpR op_isN (pe_meth (pe_meth0 (pv 0) c.cl mN GN.ok hr3 GN.b .nil pass0) cN.cl mD GD.ok hr1 GD.b .nil pass0 (pa_cons (pv 3) (pa_cons (pv 4) pa_nil))) pe_non (nomark _)))) pa_nil))) <| pss_one (ps_expr (pe_bm PySem.F.plainAttrs_list PySem.F.slot_list_append PySem.F.type_list_append mt_append (pe_fld (pv 0) rfl) (pa_cons (pe_tup (pa_cons (pv 3) (pa_cons (pv 4) (pa_cons (pv 5) pa_nil)))) pa_nil))), ?_⟩
    refine ⟨_, rfl, p, C, dx, _, _, rfl, hS.at_, c.cl, c.n5, rg5, lk, _, rfl, .inl (SqL.of hS.ks), _, _, rfl, rfl, by show 2 ≤ sizeLine; decide, fun t nt => ?_⟩
    rw [List.length_map]
    have s1 := same_new (o := .tup [V.int 0, V.int ((S.N.ks.length : Int) - 1)]) nt
    have ht := upd_same (H := H) (a := t) (o := .tup [V.int 0, V.int ((S.N.ks.length : Int) - 1)])
    generalize upd H t (.tup [V.int 0, V.int ((S.N.ks.length : Int) - 1)]) = H1 at s1 ht ⊢
    refine ⟨_, rfl, p, dx, _, rfl, s1 _ _ hS.at_, rm5, _, rfl, _, rfl, lw, _, rfl, s1.seq hw.at_, fun y ny => ?_⟩
    rw [cut1, ← List.map_drop]
    have s2 := same_new (o := .lst ((ws.drop 1).map V.str)) ny
    have hy := upd_same (H := H1) (a := y) (o := .lst ((ws.drop 1).map V.str))
    generalize upd H1 y (.lst ((ws.drop 1).map V.str)) = H2 at s2 hy ⊢
    refine ⟨_, rfl, _, rfl, by show 2 ≤ sizeLine; decide, fun t2 nt2 => ?_⟩
    have s3 := same_new (o := .tup [V.int 0, V.int 20]) nt2
    have ht2 := upd_same (H := H2) (a := t2) (o := .tup [V.int 0, V.int 20])
    generalize upd H2 t2 (.tup [V.int 0, V.int 20]) = H3 at s3 ht2 ⊢
    refine ⟨by show 3 ≤ sizeLine; decide, fun lb nlb => ?_⟩
    have s4 := same_new (o := .lst [V.ref t, V.ref t, V.ref t2]) nlb
    have hlb := upd_same (H := H3) (a := lb) (o := .lst [V.ref t, V.ref t, V.ref t2])
    generalize upd H3 lb (.lst [V.ref t, V.ref t, V.ref t2]) = H4 at s4 hlb ⊢
    have S4 := ((s1.trans s2).trans s3).trans s4
    have wsub : ∀ y ∈ ws.drop 1, y ∈ ws := fun y hy => List.mem_of_mem_drop hy
    refine ⟨p, dx, y, lb, _, S.pl, ws.drop 1, [t, t, t2], [nodeB S.N, nodeB S.N, (0, 20)], rfl, S4 _ _ hS.at_, rg1, rm1, SqL.of (s4 _ _ (s3 _ _ hy)), fun y hy => ⟨(hw.asc y (wsub y hy)).1, Nat.le_trans (hw.asc y (wsub y hy)).2 (by decide)⟩, by have := hw.len; rw [List.length_drop]; omega, SqL.of hlb,
      .cons (SqT.of (s4 _ _ (s3 _ _ (s2 _ _ ht)))) (.cons (SqT.of (s4 _ _ (s3 _ _ (s2 _ _ ht)))) (.cons (SqT.of (s4 _ _ ht2)) .nil)), fun ok H5 a s5 na ha => ?_, fun nok => q2 fun z => by rw [z.1] at nok; cases nok⟩
    have S5 := S4.trans s5
    obtain ⟨w0, w1, w2, w3, rfl⟩ := four (ws := ws) (by have := nums_len ok; rw [List.length_drop] at this; have e : [nodeB S.N, nodeB S.N, ((0 : Int), (20 : Int))].length = 3 := rfl; omega)
    have b1 := nums_in ok (i := 0) rfl rfl
    have b2 := nums_in ok (i := 1) rfl rfl
    have b3 := nums_in ok (i := 2) rfl rfl
    have e1 := nat_num b1.1
    have e2 := nat_num b2.1
    refine ⟨a, _, rfl, SqL.of ha, rfl, _, _, rfl, _, _, rfl, _, _, rfl, rfl, ?_⟩
    refine ⟨_, rfl, p, dx, _, rfl, S5 _ _ hS.at_, rm1, ?_⟩
    refine andS (a := !decide (nat w1 = nat w2)) (b := decide (joined S.N (nat w1) (nat w2) = none)) (fun Q h => ?_) (fun _ H6 s6 Q h => ?_) fun H6 s6 => ?_
    · refine ⟨_, rfl, _, rfl, rfl, ?_⟩
      rw [e1, e2, dec_nat]
      exact h _ (Same.refl _)
    · have S6 := S5.trans s6
      refine ⟨_, rfl, p, dx, _, rfl, S6 _ _ hS.at_, rm6, p, dx, lk, ll, le, S, rfl, hS.same S6, by have := hW.ls; have := hW.pl; omega, fun H7 np s7 nnp hN => ?_⟩
      obtain ⟨dn, mk, ml, md, mt, d1, _⟩ := id hN
      refine ⟨np, dn, _, rfl, d1, g7, _, rfl, _, rfl, np, nat w1, nat w2, S.N, by rw [← e1, ← e2]; rfl, hN, hW.dist, fun H8 s8 => ?_⟩
      refine ⟨rfl, ?_⟩
      have eo : ∀ o : Option Int, decide (optV o = V.non) = decide (o = none) := fun o => by cases o <;> rfl
      rw [eo]
      exact h _ (s6.trans (s7.trans s8))
    · have S6 := S5.trans s6
      refine ⟨p, dx, _, S.pl, _, rfl, S6 _ _ hS.at_, rg1, fun eb => ?_, fun eb => q2 fun z => ?_⟩
      · rw [Bool.and_eq_true, Bool.not_eq_true', decide_eq_false_iff_not, decide_eq_true_eq] at eb
        obtain ⟨ts, h3, h4⟩ := hS.ls
        obtain ⟨us, h5, h6⟩ := hS.es
        refine ⟨_, rfl, p, C, dx, _, _, rfl, S6 _ _ hS.at_, c.cl, c.n6, rg6, .inl ⟨rfl, _, SqL.of (S6 _ _ h3)⟩, _, rfl, _, rfl, _, rfl, by show 3 ≤ sizeLine; decide, fun t3 nt3 => ?_⟩
        have s7 := same_new (o := .tup [V.int (numI w1), V.int (numI w2), V.int (numI w3)]) nt3
        have ht3 := upd_same (H := H6) (a := t3) (o := .tup [V.int (numI w1), V.int (numI w2), V.int (numI w3)])
        generalize upd H6 t3 (.tup [V.int (numI w1), V.int (numI w2), V.int (numI w3)]) = H7 at s7 ht3 ⊢
        have S7 := S6.trans s7
        have lts : ts.length = S.N.ls.length := h4.length
        refine ⟨ll, _, _, rfl, rfl, S7 _ _ h3, szl (by rw [List.length_map, lts]; have := hW.ls; have := hW.pl; omega), ?_⟩
        have pll : p ≠ ll := (ne_of h3 hS.at_ (by intro z; cases z)).symm
        have t3o : t3 ∉ [p, lk, ll, le] := fun hm => by
          have : ∃ o, H6 t3 = some o := by
            rcases List.mem_cons.mp hm with e | hm
            · exact ⟨_, by rw [e]; exact S6 _ _ hS.at_⟩
            rcases List.mem_cons.mp hm with e | hm
            · exact ⟨_, by rw [e]; exact S6 _ _ hS.ks⟩
            rcases List.mem_cons.mp hm with e | hm
            · exact ⟨_, by rw [e]; exact S6 _ _ h3⟩
            rw [List.mem_singleton.mp hm]
            exact ⟨_, S6 _ _ h5⟩
          obtain ⟨o, e⟩ := this
          rw [nt3] at e
          cases e
        have mll : ll ∈ [p, lk, ll, le] := by simp
        have K1 : Same (hid [p, lk, ll, le] H) (upd H7 ll (.lst (ts.map V.ref ++ [V.ref t3]))) := hid_upd (hid_of S7) mll
        refine q1 ⟨ok, eb.1, eb.2⟩ _ K1 ⟨by rw [upd_ne pll]; exact S7 _ _ hS.at_, by rw [upd_ne hS.n1]; exact S7 _ _ hS.ks, ⟨ts ++ [t3], by rw [upd_same, List.map_append]; rfl, LinesAt.snoc (h4.same (hid_keep K1)) (SqT.of ?_)⟩, ⟨us, by rw [upd_ne hS.n3.symm]; exact S7 _ _ h5, h6.same (hid_keep K1)⟩, hS.n1, hS.n2, hS.n3⟩
        have t3l : t3 ≠ ll := fun z => t3o (by rw [z]; exact mll)
        rw [hid_out t3o, upd_ne t3l, ht3]
        show some (HO.tup [V.int (numI w1), V.int (numI w2), V.int (numI w3)]) = some (HO.tup [V.int ((nat w1 : Nat) : Int), V.int ((nat w2 : Nat) : Int), V.int (numI w3)])
        rw [← e1, ← e2]
      · obtain ⟨_, z1, z2⟩ := z
        have z1 : nat w1 ≠ nat w2 := z1
        have z2 : joined S.N (nat w1) (nat w2) = none := z2
        rw [decide_eq_false z1, decide_eq_true z2] at eb
        cases eb
end
end My
namespace My
open PySem PySem.Spec PyProof.Rows L2
abbrev sRStr : Stmt := inClass sReader 4 /-Reader.read_stream-/
theorem bnds_rep {K : PySem.W.Frag} {H : Hp} {t : Addr} {b : Int × Int} (h : SqT K H t [.int b.1, .int b.2]) : ∀ n : Nat, BndsAt K H (List.replicate n t) (List.replicate n b)
  | 0 => .nil
  | n + 1 => .cons h (bnds_rep h n)
theorem rep_refs (n : Nat) (t : Addr) : (List.replicate n [V.ref t]).flatten = (List.replicate n t).map V.ref := by rw [rep_flat, List.map_replicate]
theorem nats_of {ws : List Str} (h : ∀ y ∈ ws, 0 ≤ numI y) : (ws.map numI).map V.int = natsV (ws.map nat) := by
  unfold natsV
  rw [List.map_map, List.map_map]
  refine List.map_congr_left fun y hy => ?_
  show V.int (numI y) = V.int ((nat y : Nat) : Int)
  rw [← nat_num (h y hy)]
section
variable {P : Program} {w : World} {K : PySem.W.Frag} {mg : Str → Option Value} {base : Heap}
theorem scRStr : FnScope ["self", "words", "period", "length", "deadline", "nodes", "path", "offsets"] ["self", "words"] (defScope sRStr) := ⟨rfl, rfl, rfl, by decide +kernel, rfl, by decide +kernel, by decide +kernel⟩
-- ["self", "words", "period", "length", "deadline", "nodes", "path", "offsets"]
def spRStr (K : PySem.W.Frag) (C CN C2 : Addr) (XX : Bool) (CE : Addr) : Sp := fun vs H Q E => ∃ (p dx lk ll le lw : Addr) (S : RdD) (ws : List Str), vs = [.ref p, .ref lw] ∧ RdAt K C C2 H p dx lk ll le S ∧ RdW S ∧ WsAt K H lw ws ∧
  (strOk S ws → ∀ H', Same (hid [p, lk, ll, le] H) H' → RdAt K C C2 H' p dx lk ll le ⟨S.pl, S.pv, S.N, S.es ++ [entOf ws]⟩ → Q .non H') ∧ (¬ strOk S ws → Bad XX CE S.pl E)
theorem ok_rstr {f C CN C2 CE fC fM fN fS fI : Addr} {fd fdC fdM fdN fdS fdI : FuncData} {XX : Bool} {k : Nat} (F : Fun K "read_stream" "Reader.read_stream" sRStr f fd) (c : RdC K C) (T : Blt mg) (mC : Meth K C "check" fC) (GC : MethX P w K mg base 3 ["self", "holds"] (spCheck C XX CE) fC fdC)
    (mM : Meth K C "read_numbers" fM) (GM : MethX P w K mg base 4 ["self", "words", "bounds"] (spNums K C XX CE) fM fdM) (mN : Meth K C "net_so_far" fN) (GN : MethOf P w K mg base 3 ["self"] (spNsf K C CN C2) fN fdN) (GI : Callee P w K mg base 2 "is_path" ["net", "nodes"] (spIs K CN) fI fdI) (GS : StrMk P w K mg base C2 fS fdS) :
    FnOk P w K mg base (L2.CX P w) (k + 5) f fd ["self", "words"] (spRStr K C CN C2 XX CE) := by
  refine F.okX scRStr (fun vs H Q E h => ?_) (fun cdv A0 outer s0 H vs Q E hr h => ?_)
  · obtain ⟨p, dx, lk, ll, le, lw, S, ws, rfl, _⟩ := h
    rfl
  · obtain ⟨p, dx, lk, ll, le, lw, S, ws, rfl, hS, hW, hw, q1, q2⟩ := h
    have nd := scRStr.nd
    have hr2 : Room 2 _ := hr.mono (by omega)
    have hr3 : Room 3 _ := hr.mono (by omega)
    have hr4 : Room 4 _ := hr.mono (by omega)
    refine ⟨_, pss_cons (ps_expr (pe_meth (pv 0) c.cl mC GC.ok hr3 GC.b .nil (passE (takes_of rfl rfl rfl rfl)) (pa_cons (pe_cmpR op_eq (pe_callB call_len_seq (by rfl) T.len PySem.boot_len (pa_cons (pv 1) pa_nil)) pe_int (nomark _)) pa_nil))) <| pss_cons (ps_asg (pe_meth (pv 0) c.cl mM GM.ok hr4 GM.b .nil (passE (takes_of rfl rfl rfl rfl)) (pa_cons (pe_slice sl_list (pv 1) (po_some pe_int) (po_some pe_int)) (pa_cons (pe_lst (pa_cons (pe_tup (pa_cons pe_int (pa_cons pe_int pa_nil))) (pa_cons (pe_tup (pa_cons pe_int (pa_cons pe_int pa_nil))) (pa_cons (pe_tup (pa_cons pe_int (pa_cons pe_int pa_nil))) pa_nil)))) pa_nil))) (pg_lst rfl (pgs_cons (pg_name (i := 2) nd rfl (.inl rfl)) (pgs_cons (pg_name (i := 3) nd rfl (.inl rfl)) (pgs_cons (pg_name (i := 4) nd rfl (.inl rfl)) pgs_nil))))) <| pss_cons (ps_expr (pe_meth (pv 0) c.cl mC GC.ok hr3 GC.b .nil (passE (takes_of rfl rfl rfl rfl)) (pa_cons (pe_cmpR op_le (pv 3) (pv 2) (nomark _)) pa_nil))) <| pss_cons (ps_set (i := 5) nd rfl (.inl rfl) (pe_split (pe_ix ix_list (pv 1) pe_int (fun _ _ => rfl)) pe_str)) <| pss_cons (ps_set (i := 6) nd rfl (.inl rfl) (pe_meth (pv 0) c.cl mM GM.ok hr4 GM.b .nil (passE (takes_of rfl rfl rfl rfl)) (pa_cons (pv 5) (pa_cons (pe_op op_rep (pe_lst (pa_cons (pe_tup (pa_cons pe_int (pa_cons (pe_op op_sub (pe_callB call_len_seq (by rfl) T.len PySem.boot_len (pa_cons (pe_fld (pv 0) rfl) pa_nil)) pe_int) pa_nil))) pa_nil)) (pe_callB call_len_seq (by rfl) T.len PySem.boot_len (pa_cons (pv 5) pa_nil))) pa_nil)))) <| pss_cons (ps_expr (pe_meth (pv 0) c.cl mC GC.ok hr3 GC.b .nil (passE (takes_of rfl rfl rfl rfl)) (pa_cons (pe_call GI.ok hr2 (by rfl) GI.mg GI.kp GI.b .nil pass0 (pa_cons (pe_meth0 (pv 0) c.cl mN GN.ok hr3 GN.b .nil pass0) (pa_cons (pv 6) pa_nil))) pa_nil))) <| pss_cons (ps_set (i := 7) nd rfl (.inl rfl) (pe_meth (pv 0) c.cl mM GM.ok hr4 GM.b .nil (passE (takes_of rfl rfl rfl rfl)) (pa_cons (pe_split (pe_ix ix_list (pv 1) pe_int (fun _ _ => rfl)) pe_str) (pa_cons (pe_op op_rep (pe_lst (pa_cons (pe_tup (pa_cons pe_int (pa_cons pe_int pa_nil))) pa_nil)) (pe_op op_sub (pe_callB call_len_seq (by rfl) T.len PySem.boot_len (pa_cons (pv 6) pa_nil)) pe_int)) pa_nil)))) <| pss_one (ps_expr (pe_bm PySem.F.plainAttrs_list PySem.F.slot_list_append PySem.F.type_list_append mt_append (pe_fld (pv 0) rfl) (pa_cons (pe_tup (pa_cons (pe_make GS.mkC GS.ok hr2 (by rfl) GS.mg GS.b .nil pass0 (pa_cons (pv 2) (pa_cons (pv 3) (pa_cons (pv 4) (pa_cons (pv 6) pa_nil))))) (pa_cons (pv 7) pa_nil))) pa_nil))), ?_⟩
    refine ⟨_, rfl, p, dx, _, rfl, hS.at_, rm1, _, rfl, lw, _, rfl, .inl hw.at_, rfl, ?_⟩
    have elen : decide (V.int ((ws.map V.str).length : Int) = V.int 6) = decide (ws.length = 6) := by
      rw [List.length_map]
      exact dec_nat ws.length 6
    rw [elen]
    refine ⟨p, dx, _, S.pl, _, rfl, hS.at_, rg1, fun eb => ?_, fun eb => q2 fun z => by rw [decide_eq_true z.1] at eb; cases eb⟩
    have l6 := of_decide_eq_true eb
    obtain ⟨w0, w1, w2, w3, w4, w5, rfl⟩ := six l6
    refine ⟨_, rfl, p, dx, _, rfl, hS.at_, rm5, _, rfl, _, rfl, _, rfl, lw, _, rfl, hw.at_, fun y ny => ?_⟩
    have ecut : cutV ([w0, w1, w2, w3, w4, w5].map V.str) (some 1) (some 4) = [w1, w2, w3].map V.str := rfl
    rw [ecut]
    have s1 := same_new (o := .lst ([w1, w2, w3].map V.str)) ny
    have hy := upd_same (H := H) (a := y) (o := .lst ([w1, w2, w3].map V.str))
    generalize upd H y (.lst ([w1, w2, w3].map V.str)) = H1 at s1 hy ⊢
    refine ⟨by show 2 ≤ sizeLine; decide, fun t1 nt1 => ⟨by show 2 ≤ sizeLine; decide, fun t2 nt2 => ⟨by show 2 ≤ sizeLine; decide, fun t3 nt3 => ?_⟩⟩⟩
    have s2 := same_new (o := .tup [V.int 1, V.int 60]) nt1
    have ht1 := upd_same (H := H1) (a := t1) (o := .tup [V.int 1, V.int 60])
    generalize upd H1 t1 (.tup [V.int 1, V.int 60]) = H2 at s2 ht1 nt2 nt3 ⊢
    have s3 := same_new (o := .tup [V.int 1, V.int 60]) nt2
    have ht2 := upd_same (H := H2) (a := t2) (o := .tup [V.int 1, V.int 60])
    generalize upd H2 t2 (.tup [V.int 1, V.int 60]) = H3 at s3 ht2 nt3 ⊢
    have s4 := same_new (o := .tup [V.int 1, V.int 300]) nt3
    have ht3 := upd_same (H := H3) (a := t3) (o := .tup [V.int 1, V.int 300])
    generalize upd H3 t3 (.tup [V.int 1, V.int 300]) = H4 at s4 ht3 ⊢
    refine ⟨by show 3 ≤ sizeLine; decide, fun lb nlb => ?_⟩
    have s5 := same_new (o := .lst [V.ref t1, V.ref t2, V.ref t3]) nlb
    have hlb := upd_same (H := H4) (a := lb) (o := .lst [V.ref t1, V.ref t2, V.ref t3])
    generalize upd H4 lb (.lst [V.ref t1, V.ref t2, V.ref t3]) = H5 at s5 hlb ⊢
    have S5 := (((s1.trans s2).trans s3).trans s4).trans s5
    have asc : ∀ y ∈ [w1, w2, w3], Asc y ∧ y.length ≤ 640 := fun y hy => by
      have := hw.asc y (List.mem_cons_of_mem _ (List.mem_append_left [w4, w5] hy))
      exact ⟨this.1, Nat.le_trans this.2 (by decide)⟩
    refine ⟨p, dx, y, lb, _, S.pl, [w1, w2, w3], [t1, t2, t3], [(1, 60), (1, 60), (1, 300)], rfl, S5 _ _ hS.at_, rg1, rm1, SqL.of (s5 _ _ (s4 _ _ (s3 _ _ (s2 _ _ hy)))), asc, by show 3 ≤ 1000; decide, SqL.of hlb,
      .cons (SqT.of (s5 _ _ (s4 _ _ (s3 _ _ ht1)))) (.cons (SqT.of (s5 _ _ (s4 _ _ ht2))) (.cons (SqT.of (s5 _ _ ht3)) .nil)), fun ok H6 a s6 na ha => ?_, fun nok => q2 fun z => by have z1 : numsOk [w1, w2, w3] [(1, 60), (1, 60), (1, 300)] = true := z.2.1; rw [z1] at nok; cases nok⟩
    have S6 := S5.trans s6
    refine ⟨a, _, rfl, SqL.of ha, rfl, _, _, rfl, _, _, rfl, _, _, rfl, rfl, ?_⟩
    refine ⟨_, rfl, p, dx, _, rfl, S6 _ _ hS.at_, rm1, _, rfl, _, rfl, _, _, rfl, rfl, ?_⟩
    refine ⟨p, dx, _, S.pl, _, rfl, S6 _ _ hS.at_, rg1, fun eb2 => ?_, fun eb2 => q2 fun z => by have z1 : numI w2 ≤ numI w1 := z.2.2.1; rw [decide_eq_true z1] at eb2; cases eb2⟩
    have ole : numI w2 ≤ numI w1 := of_decide_eq_true eb2
    have g4 := hw.asc w4 (by simp)
    have g5 := hw.asc w5 (by simp)
    have c4 := cut_co w4
    have c5 := cut_co w5
    refine ⟨_, rfl, lw, _, _, _, rfl, rfl, S6.seq hw.at_, rfl, ⟨_, rfl⟩, _, _, rfl, rfl, by decide +kernel, Nat.le_trans (Nat.add_le_add_right g4.2 2) (by decide), fun z nz => ?_⟩
    have s7 := same_new (o := .lst ((Txt.split w4 ("," : Str)).map V.str)) nz
    have hz := upd_same (H := H6) (a := z) (o := .lst ((Txt.split w4 ("," : Str)).map V.str))
    generalize upd H6 z (.lst ((Txt.split w4 ("," : Str)).map V.str)) = H7 at s7 hz ⊢
    have S7 := S6.trans s7
    -- path
    refine ⟨_, rfl, p, dx, _, rfl, S7 _ _ hS.at_, rm5, _, rfl, ?_⟩
    refine ⟨_, rfl, p, C, dx, _, _, rfl, S7 _ _ hS.at_, c.cl, c.n5, rg5, lk, _, rfl, .inl (SqL.of (S7 _ _ hS.ks)), _, _, rfl, rfl, by show 2 ≤ sizeLine; decide, fun u1 nu1 => ?_⟩
    rw [List.length_map]
    have s8 := same_new (o := .tup [V.int 0, V.int ((S.N.ks.length : Int) - 1)]) nu1
    have hu1 := upd_same (H := H7) (a := u1) (o := .tup [V.int 0, V.int ((S.N.ks.length : Int) - 1)])
    generalize upd H7 u1 (.tup [V.int 0, V.int ((S.N.ks.length : Int) - 1)]) = H8 at s8 hu1 ⊢
    refine ⟨by show 1 ≤ sizeLine; decide, fun u2 nu2 => ?_⟩
    have s9 := same_new (o := .lst [V.ref u1]) nu2
    have hu2 := upd_same (H := H8) (a := u2) (o := .lst [V.ref u1])
    generalize upd H8 u2 (.lst [V.ref u1]) = H9 at s9 hu2 ⊢
    have l4 := c4.cnt
    have hz9 := s9 _ _ (s8 _ _ hz)
    have S9 := (S7.trans s8).trans s9
    refine ⟨_, rfl, z, _, rfl, .inl (SqL.of hz9), u2, _, _, rfl, rfl, hu2, by rw [List.length_map]; omega, by rw [List.length_map]; omega, sz (by rw [List.length_map, List.length_singleton]; have := g4.2; omega), fun u3 nu3 => ?_⟩
    rw [List.length_map, Int.toNat_natCast, rep_refs]
    have s10 := same_new (o := .lst ((List.replicate (Txt.split w4 ("," : Str)).length u1).map V.ref)) nu3
    have hu3 := upd_same (H := H9) (a := u3) (o := .lst ((List.replicate (Txt.split w4 ("," : Str)).length u1).map V.ref))
    generalize upd H9 u3 (.lst ((List.replicate (Txt.split w4 ("," : Str)).length u1).map V.ref)) = H10 at s10 hu3 ⊢
    have S10 := S9.trans s10
    refine ⟨p, dx, z, u3, _, S.pl, Txt.split w4 ("," : Str), List.replicate (Txt.split w4 ("," : Str)).length u1, List.replicate (Txt.split w4 ("," : Str)).length (nodeB S.N), rfl, S10 _ _ hS.at_, rg1, rm1, SqL.of (s10 _ _ hz9), fun y hy => ⟨c4.asc g4.1 y hy, Nat.le_trans (c4.sub y hy).2 (Nat.le_trans g4.2 (by decide))⟩, by have := g4.2; omega, SqL.of hu3,
      bnds_rep (SqT.of (s10 _ _ (s9 _ _ hu1))) _, fun ok4 H11 pa s11 npa hpa => ?_, fun nok => q2 fun z => by have z1 : numsOk (Txt.split w4 ("," : Str)) (List.replicate (Txt.split w4 ("," : Str)).length (nodeB S.N)) = true := z.2.2.2.1; rw [z1] at nok; cases nok⟩
    have S11 := S10.trans s11
    have b4 : ∀ y ∈ Txt.split w4 ("," : Str), 0 ≤ numI y ∧ numI y ≤ (S.N.ks.length : Int) - 1 := fun y hy => by
      obtain ⟨i, hi⟩ := List.getElem?_of_mem hy
      have il := (List.getElem?_eq_some_iff.mp hi).1
      exact nums_in ok4 hi (b := nodeB S.N) (by rw [List.getElem?_replicate, if_pos il])
    rw [nats_of fun y hy => (b4 y hy).1] at hpa
    -- is_path
    refine ⟨_, rfl, p, dx, _, rfl, S11 _ _ hS.at_, rm1, ?_⟩
    refine ⟨_, rfl, p, dx, _, rfl, S11 _ _ hS.at_, rm6, p, dx, lk, ll, le, S, rfl, hS.same S11, by have := hW.ls; have := hW.pl; omega, fun H12 np s12 nnp hN => ?_⟩
    have S12 := S11.trans s12
    refine ⟨_, rfl, np, pa, (Txt.split w4 ("," : Str)).map nat, S.N, rfl, hN, hW.dist, s12 _ _ hpa, fun x hx => ?_, by rw [List.length_map]; have := g4.2; omega, fun b H13 s13 hb => ?_⟩
    · obtain ⟨y, hy, rfl⟩ := List.mem_map.mp hx
      have := b4 y hy
      unfold nat
      omega
    have S13 := S12.trans s13
    refine ⟨p, dx, _, S.pl, b, rfl, S13 _ _ hS.at_, rg1, fun eb3 => ?_, fun eb3 => q2 fun z => by have z1 : IsP S.N ((Txt.split w4 ("," : Str)).map nat) := z.2.2.2.2.1; rw [hb.mpr z1] at eb3; cases eb3⟩
    have isp := hb.mp eb3
    have hpa13 := s13 _ _ (s12 _ _ hpa)
    -- offsets
    refine ⟨_, rfl, p, dx, _, rfl, S13 _ _ hS.at_, rm5, _, rfl, lw, _, _, _, rfl, rfl, S13.seq hw.at_, rfl, ⟨_, rfl⟩, _, _, rfl, rfl, by decide +kernel, Nat.le_trans (Nat.add_le_add_right g5.2 2) (by decide), fun v nv => ?_⟩
    have s14 := same_new (o := .lst ((Txt.split w5 ("," : Str)).map V.str)) nv
    have hv := upd_same (H := H13) (a := v) (o := .lst ((Txt.split w5 ("," : Str)).map V.str))
    generalize upd H13 v (.lst ((Txt.split w5 ("," : Str)).map V.str)) = H14 at s14 hv ⊢
    refine ⟨by show 2 ≤ sizeLine; decide, fun u4 nu4 => ?_⟩
    have s15 := same_new (o := .tup [V.int 0, V.int 500]) nu4
    have hu4 := upd_same (H := H14) (a := u4) (o := .tup [V.int 0, V.int 500])
    generalize upd H14 u4 (.tup [V.int 0, V.int 500]) = H15 at s15 hu4 ⊢
    refine ⟨by show 1 ≤ sizeLine; decide, fun u5 nu5 => ?_⟩
    have s16 := same_new (o := .lst [V.ref u4]) nu5
    have hu5 := upd_same (H := H15) (a := u5) (o := .lst [V.ref u4])
    generalize upd H15 u5 (.lst [V.ref u4]) = H16 at s16 hu5 ⊢
    have S16 := ((S13.trans s14).trans s15).trans s16
    have hpa16 := s16 _ _ (s15 _ _ (s14 _ _ hpa13))
    have lr : (natsV ((Txt.split w4 ("," : Str)).map nat)).length = (Txt.split w4 ("," : Str)).length := by rw [natsV_len, List.length_map]
    have two : 2 ≤ (Txt.split w4 ("," : Str)).length := by have := isp.two; rw [List.length_map] at this; exact this
    refine ⟨_, rfl, pa, _, rfl, .inl (SqL.of hpa16), _, _, rfl, rfl, u5, _, _, rfl, rfl, hu5, by rw [lr]; omega, by rw [lr]; have := g4.2; omega, sz (by rw [lr, List.length_singleton]; have := g4.2; omega), fun u6 nu6 => ?_⟩
    have en : (((natsV ((Txt.split w4 ("," : Str)).map nat)).length : Int) - 1).toNat = ((Txt.split w4 ("," : Str)).map nat).length - 1 := by
      rw [lr, List.length_map]
      omega
    rw [en, rep_refs]
    have s17 := same_new (o := .lst ((List.replicate (((Txt.split w4 ("," : Str)).map nat).length - 1) u4).map V.ref)) nu6
    have hu6 := upd_same (H := H16) (a := u6) (o := .lst ((List.replicate (((Txt.split w4 ("," : Str)).map nat).length - 1) u4).map V.ref))
    generalize upd H16 u6 (.lst ((List.replicate (((Txt.split w4 ("," : Str)).map nat).length - 1) u4).map V.ref)) = H17 at s17 hu6 ⊢
    have S17 := S16.trans s17
    have l5 := c5.cnt
    refine ⟨p, dx, v, u6, _, S.pl, Txt.split w5 ("," : Str), List.replicate (((Txt.split w4 ("," : Str)).map nat).length - 1) u4, List.replicate (((Txt.split w4 ("," : Str)).map nat).length - 1) (0, 500), rfl, S17 _ _ hS.at_, rg1, rm1, SqL.of (s17 _ _ (s16 _ _ (s15 _ _ hv))), fun y hy => ⟨c5.asc g5.1 y hy, Nat.le_trans (c5.sub y hy).2 (Nat.le_trans g5.2 (by decide))⟩, by have := g5.2; omega, SqL.of hu6,
      bnds_rep (b := (0, 500)) (SqT.of (s17 _ _ (s16 _ _ hu4))) _, fun ok5 H18 pb s18 npb hpb => ?_, fun nok => q2 fun z => by have z1 : numsOk (Txt.split w5 ("," : Str)) (List.replicate (((Txt.split w4 ("," : Str)).map nat).length - 1) (0, 500)) = true := z.2.2.2.2.2; rw [z1] at nok; cases nok⟩
    have S18 := S17.trans s18
    have hpa18 := s18 _ _ (s17 _ _ hpa16)
    obtain ⟨ts, h3, h4⟩ := hS.ls
    obtain ⟨us, h5, h6⟩ := hS.es
    refine ⟨_, rfl, p, C, dx, _, _, rfl, S18 _ _ hS.at_, c.cl, c.n7, rg7, .inl ⟨rfl, _, SqL.of (S18 _ _ h5)⟩, ?_⟩
    refine ⟨_, rfl, _, rfl, _, rfl, _, rfl, fun x dy nx ndy ne => ?_⟩
    have sm := same_make0 (o1 := .own x) (o2 := .ins C2 dy []) nx ndy
    refine ⟨x, dy, pa, (entOf [w0, w1, w2, w3, w4, w5]).s, rfl, upd_same, SqL.of (sm _ _ hpa18), fun H19 kb hSt => ⟨rfl, ?_⟩⟩
    have s19 := same_make nx ndy kb
    have S19 := S18.trans s19
    refine ⟨_, rfl, by show 2 ≤ sizeLine; decide, fun t9 nt9 => ?_⟩
    have hpb19 := s19 _ _ hpb
    obtain ⟨dq, lp, st1, st2, nlp⟩ := hSt
    have ox := (hS.same S18).out nx
    have ob := (hS.same S17).out npb
    have ot := (hS.same S19).out nt9
    have ol := (hS.same (S18.trans sm)).out nlp
    have s20 := same_new (o := .tup [V.ref x, V.ref pb]) nt9
    have ht9 := upd_same (H := H19) (a := t9) (o := .tup [V.ref x, V.ref pb])
    have S20 := S19.trans s20
    have x20 := s20 _ _ st1
    have l20 := s20 _ _ st2
    have b20 := s20 _ _ hpb19
    generalize upd H19 t9 (.tup [V.ref x, V.ref pb]) = H20 at s20 ht9 S20 x20 l20 b20 ⊢
    have lus : us.length = S.es.length := h6.length
    refine ⟨le, _, _, rfl, rfl, S20 _ _ h5, szl (by rw [List.length_map, lus]; have := hW.es; have := hW.pl; omega), ?_⟩
    have mle : le ∈ [p, lk, ll, le] := by simp
    have ple : p ≠ le := (ne_of h5 hS.at_ (by intro z; cases z)).symm
    have K1 : Same (hid [p, lk, ll, le] H) (upd H20 le (.lst (us.map V.ref ++ [V.ref t9]))) := hid_upd (hid_of S20) mle
    have oo : ∀ {a : Addr} {o : HO}, a ∉ [p, lk, ll, le] → H20 a = some o → hid [p, lk, ll, le] (upd H20 le (.lst (us.map V.ref ++ [V.ref t9]))) a = some o := fun {a o} n e => by
      rw [hid_out n, upd_ne (fun z => n (by rw [z]; exact mle))]
      exact e
    exact q1 ⟨l6, ok, ole, ok4, isp, ok5⟩ _ K1 ⟨by rw [upd_ne ple]; exact S20 _ _ hS.at_, by rw [upd_ne hS.n2]; exact S20 _ _ hS.ks, ⟨ts, by rw [upd_ne hS.n3]; exact S20 _ _ h3, h4.same (hid_keep K1)⟩,
      ⟨us ++ [t9], by rw [upd_same, List.map_append]; rfl, Paired.snoc ⟨x, pb, oo ot ht9, ⟨dq, lp, oo ox x20, oo ol l20⟩, oo ob b20⟩ (h6.same (hid_keep K1))⟩, hS.n1, hS.n2, hS.n3⟩
end
end My
namespace My
open PySem PySem.Spec PyProof.Rows L2
abbrev sRLine : Stmt := inClass sReader 2 /-Reader.read_line-/
theorem Reads.place {S A : RdD} {l : Str} (h : Reads S l A) : okPlace (wd (Txt.split l (" " : Str)) 0) S.pv = true := by cases h <;> assumption
theorem Reads.net_ok {S A : RdD} {l : Str} (h : Reads S l A) (k : wd (Txt.split l (" " : Str)) 0 = ("net" : Str)) : numsOk ((Txt.split l (" " : Str)).drop 1) [(0, 10), (0, 5)] = true := by
  cases h with
  | net h k' o => exact o
  | line h k' => exact absurd (k.symm.trans k') nl_ne
  | stream h k' => exact absurd (k.symm.trans k') ns_ne
  | node b h k' => exact absurd (k'.symm.trans k) (kd_ne b).1
theorem Reads.line_ok {S A : RdD} {l : Str} (h : Reads S l A) (k : wd (Txt.split l (" " : Str)) 0 = ("line" : Str)) : lineOk S (Txt.split l (" " : Str)) := by
  cases h with
  | net h k' => exact absurd (k'.symm.trans k) nl_ne
  | line h k' o => exact o
  | stream h k' => exact absurd (k.symm.trans k') ls_ne
  | node b h k' => exact absurd (k'.symm.trans k) (kd_ne b).2.1
theorem Reads.str_ok {S A : RdD} {l : Str} (h : Reads S l A) (k : wd (Txt.split l (" " : Str)) 0 = ("stream" : Str)) : strOk S (Txt.split l (" " : Str)) := by
  cases h with
  | net h k' => exact absurd (k'.symm.trans k) ns_ne
  | line h k' => exact absurd (k'.symm.trans k) ls_ne
  | stream h k' o => exact o
  | node b h k' => exact absurd (k'.symm.trans k) (kd_ne b).2.2
theorem Reads.node_ok {S A : RdD} {l : Str} (h : Reads S l A) (k1 : wd (Txt.split l (" " : Str)) 0 ≠ ("net" : Str)) (k2 : wd (Txt.split l (" " : Str)) 0 ≠ ("line" : Str)) (k3 : wd (Txt.split l (" " : Str)) 0 ≠ ("stream" : Str)) : (Txt.split l (" " : Str)).length = 1 ∧ S.N.ks.length < 12 := by
  cases h with
  | net h k' => exact absurd k' k1
  | line h k' => exact absurd k' k2
  | stream h k' => exact absurd k' k3
  | node b h k' o1 o2 => exact ⟨o1, o2⟩
theorem kind_of {k pv : Str} (h : okPlace k pv = true) (k1 : k ≠ ("net" : Str)) (k2 : k ≠ ("line" : Str)) (k3 : k ≠ ("stream" : Str)) : ∃ b, k = kdT b := by
  unfold okPlace befores at h
  rw [if_neg k1] at h
  by_cases z : k = ("host" : Str)
  · exact ⟨true, z⟩
  · rw [if_neg z] at h
    by_cases z : k = ("switch" : Str)
    · exact ⟨false, z⟩
    · rw [if_neg z, if_neg k2, if_neg k3] at h
      cases h
/-- the global PLACES -/
structure PlC (K : PySem.W.Frag) (w : World) (mg : Str → Option Value) (D : Addr) (es : Array DictEntry) (n : Nat) : Prop where
  mg : mg "PLACES" = some (.ref D)
  kd : KDict K w D es n
  none' : ∀ z, befores z = none → PySem.W.nsIn K D z = some none
  some' : ∀ z l, befores z = some l → ∃ t : Addr, PySem.W.nsIn K D z = some (some (.ref t)) ∧ ∀ H : Hp, SqT K H t (l.map V.str)
theorem inV_strs (x : Str) (l : List Str) : inV (.str x) (l.map V.str) = l.contains x := by
  unfold inV
  rw [List.any_map, List.contains_eq_any_beq]
  congr 1
  funext y
  show (y == x) = (x == y)
  rw [Bool.eq_iff_iff, beq_iff_eq, beq_iff_eq]
  exact eq_comm
theorem flat_strs (l : List Str) : (l.map V.str).all flatV = true := by
  rw [List.all_eq_true]
  intro x hx
  obtain ⟨y, _, rfl⟩ := List.mem_map.mp hx
  rfl
theorem rd_pr {at' : Int} {pv : Str} {pr er a : Int} {lk ll le : Addr} : putF "processing" (.int a) (rdF at' pv pr er lk ll le) = rdF at' pv a er lk ll le := rfl
theorem rd_er {at' : Int} {pv : Str} {pr er a : Int} {lk ll le : Addr} : putF "error" (.int a) (rdF at' pv pr er lk ll le) = rdF at' pv pr a lk ll le := rfl
theorem rd_pv {at' : Int} {pv z : Str} {pr er : Int} {lk ll le : Addr} : putF "previous" (.str z) (rdF at' pv pr er lk ll le) = rdF at' z pr er lk ll le := rfl
theorem rd_pl {at' a : Int} {pv : Str} {pr er : Int} {lk ll le : Addr} : putF "place" (.int a) (rdF at' pv pr er lk ll le) = rdF a pv pr er lk ll le := rfl
theorem wd_at {K : PySem.W.Frag} {x : Str} {ps : List Str} (h : Cut1 x ps) : atI (ps.map V.str) (0 : Int) = some (.str (wd ps 0)) := by
  cases ps with
  | nil => exact absurd rfl h.ne
  | cons a r => exact atI_nat (j := 0) rfl
/-- other numbers and texts of the reader -/
theorem RdAt.put {K : PySem.W.Frag} {C C2 : Addr} {H : Hp} {p dx lk ll le : Addr} {S : RdD} (h : RdAt K C C2 H p dx lk ll le S) (S' : RdD) (q1 : S'.N.ks = S.N.ks) (q2 : S'.N.ls = S.N.ls) (q3 : S'.es = S.es) (o : HO) :
    RdAt K C C2 (upd (upd H p o) p (.ins C dx (rdF (S'.pl : Int) S'.pv S'.N.pr S'.N.er lk ll le))) p dx lk ll le S' ∧ Same (hid [p, lk, ll, le] H) (upd (upd H p o) p (.ins C dx (rdF (S'.pl : Int) S'.pv S'.N.pr S'.N.er lk ll le))) := by
  have mp : p ∈ [p, lk, ll, le] := List.mem_cons_self
  have K1 : Same (hid [p, lk, ll, le] H) (upd (upd H p o) p (.ins C dx (rdF (S'.pl : Int) S'.pv S'.N.pr S'.N.er lk ll le))) := hid_upd (hid_upd hid_same mp) mp
  obtain ⟨ts, h3, h4⟩ := h.ls
  obtain ⟨us, h5, h6⟩ := h.es
  have e1 : lk ≠ p := ne_of h.ks h.at_ (by intro z; cases z)
  have e2 : ll ≠ p := ne_of h3 h.at_ (by intro z; cases z)
  have e3 : le ≠ p := ne_of h5 h.at_ (by intro z; cases z)
  exact ⟨⟨upd_same, by rw [upd_ne e1, upd_ne e1, q1]; exact h.ks, ⟨ts, by rw [upd_ne e2, upd_ne e2]; exact h3, by rw [q2]; exact h4.same (hid_keep K1)⟩, ⟨us, by rw [upd_ne e3, upd_ne e3]; exact h5, by rw [q3]; exact h6.same (hid_keep K1)⟩, h.n1, h.n2, h.n3⟩, K1⟩
section
variable {P : Program} {w : World} {K : PySem.W.Frag} {mg : Str → Option Value} {base : Heap}
theorem scRLine : FnScope ["self", "line", "words", "kind"] ["self", "line"] (defScope sRLine) := ⟨rfl, rfl, rfl, by decide +kernel, rfl, by decide +kernel, by decide +kernel⟩
-- ["self", "line", "words", "kind"]
def spRLine (K : PySem.W.Frag) (C CN C2 : Addr) (XX : Bool) (CE : Addr) : Sp := fun vs H Q E => ∃ (p dx lk ll le : Addr) (S : RdD) (l : Str), vs = [.ref p, .str l] ∧ RdAt K C C2 H p dx lk ll le S ∧ RdW S ∧ Asc l ∧ l.length ≤ 250 ∧
  (∀ S', Reads S l S' → ∀ H', Same (hid [p, lk, ll, le] H) H' → RdAt K C C2 H' p dx lk ll le S' → Q .non H') ∧ ((∀ S', ¬ Reads S l S') → Bad XX CE S.pl E)
theorem ok_rline {f C CN C2 CE fC fM fL fS D : Addr} {fd fdC fdM fdL fdS : FuncData} {XX : Bool} {des : Array DictEntry} {dn : Nat} {k : Nat} (F : Fun K "read_line" "Reader.read_line" sRLine f fd) (c : RdC K C) (T : Blt mg) (pl : PlC K w mg D des dn) (mC : Meth K C "check" fC) (GC : MethX P w K mg base 3 ["self", "holds"] (spCheck C XX CE) fC fdC)
    (mM : Meth K C "read_numbers" fM) (GM : MethX P w K mg base 4 ["self", "words", "bounds"] (spNums K C XX CE) fM fdM) (mL : Meth K C "read_net_line" fL) (GL : MethX P w K mg base 5 ["self", "words"] (spNLine K C CN C2 XX CE) fL fdL) (mS : Meth K C "read_stream" fS) (GS : MethX P w K mg base 5 ["self", "words"] (spRStr K C CN C2 XX CE) fS fdS) :
    FnOk P w K mg base (L2.CX P w) (k + 6) f fd ["self", "line"] (spRLine K C CN C2 XX CE) := by
  refine F.okX scRLine (fun vs H Q E h => ?_) (fun cdv A0 outer s0 H vs Q E hr h => ?_)
  · obtain ⟨p, dx, lk, ll, le, S, l, rfl, _⟩ := h
    rfl
  · obtain ⟨p, dx, lk, ll, le, S, l, rfl, hS, hW, hl1, hl2, q1, q2⟩ := h
    have nd := scRLine.nd
    have hr3 : Room 3 _ := hr.mono (by omega)
    have hr4 : Room 4 _ := hr.mono (by omega)
    have hr5 : Room 5 _ := hr.mono (by omega)
    refine ⟨_, pss_cons (ps_set (i := 2) nd rfl (.inl rfl) (pe_split (pv 1) pe_str)) <| pss_cons (ps_set (i := 3) nd rfl (.inl rfl) (pe_ix ix_list (pv 2) pe_int (fun _ _ => rfl))) <| pss_cons (ps_expr (pe_meth (pv 0) c.cl mC GC.ok hr3 GC.b .nil (passE (takes_of rfl rfl rfl rfl)) (pa_cons (pe_and (pe_cmpR (op_in_kd pl.kd) (pv 3) (pe_glob (v := .ref D) (by rfl) pl.mg rfl (by decide)) rfl) (pe_one (pe_cmpR op_in_seq (pe_fld (pv 0) rfl) (pe_ix ix_kdict (pe_glob (v := .ref D) (by rfl) pl.mg rfl (by decide)) (pv 3) (fun _ _ => rfl)) rfl))) pa_nil))) <| pss_cons (ps_if (pt_cmpR op_eq (pv 3) pe_str (nomark _)) (pss_one (ps_asg (pe_meth (pv 0) c.cl mM GM.ok hr4 GM.b .nil (passE (takes_of rfl rfl rfl rfl)) (pa_cons (pe_slice sl_list (pv 2) (po_some pe_int) po_none) (pa_cons (pe_lst (pa_cons (pe_tup (pa_cons pe_int (pa_cons pe_int pa_nil))) (pa_cons (pe_tup (pa_cons pe_int (pa_cons pe_int pa_nil))) pa_nil))) pa_nil))) (pg_lst rfl (pgs_cons (pg_att (pv 0)) (pgs_cons (pg_att (pv 0)) pgs_nil))))) (pss_one (ps_if (pt_cmpR op_eq (pv 3) pe_str (nomark _)) (pss_one (ps_expr (pe_meth (pv 0) c.cl mL GL.ok hr5 GL.b .nil (passE (takes_of rfl rfl rfl rfl)) (pa_cons (pv 2) pa_nil)))) (pss_one (ps_if (pt_cmpR op_eq (pv 3) pe_str (nomark _)) (pss_one (ps_expr (pe_meth (pv 0) c.cl mS GS.ok hr5 GS.b .nil (passE (takes_of rfl rfl rfl rfl)) (pa_cons (pv 2) pa_nil)))) (pss_cons (ps_expr (pe_meth (pv 0) c.cl mC GC.ok hr3 GC.b .nil (passE (takes_of rfl rfl rfl rfl)) (pa_cons (pe_and (pe_cmpR op_eq (pe_callB call_len_seq (by rfl) T.len PySem.boot_len (pa_cons (pv 2) pa_nil)) pe_int (nomark _)) (pe_one (pe_cmpR op_lt (pe_callB call_len_seq (by rfl) T.len PySem.boot_len (pa_cons (pe_fld (pv 0) rfl) pa_nil)) pe_int (nomark _)))) pa_nil))) <| pss_one (ps_expr (pe_bm PySem.F.plainAttrs_list PySem.F.slot_list_append PySem.F.type_list_append mt_append (pe_fld (pv 0) rfl) (pa_cons (pv 3) pa_nil))))))))) <| pss_cons (ps_fld (pv 0) (pv 3) rfl) <| pss_one (ps_fldaug (pv 0) pe_int in_add), ?_⟩
    have cs := cut_sp l
    refine ⟨_, rfl, ⟨_, rfl⟩, _, _, rfl, rfl, by decide +kernel, Nat.le_trans (Nat.add_le_add_right hl2 2) (by decide), fun lw nlw => ?_⟩
    have s1 := same_new (o := .lst ((Txt.split l (" " : Str)).map V.str)) nlw
    have hlw := upd_same (H := H) (a := lw) (o := .lst ((Txt.split l (" " : Str)).map V.str))
    generalize upd H lw (.lst ((Txt.split l (" " : Str)).map V.str)) = H1 at s1 hlw ⊢
    have hw : WsAt K H1 lw (Txt.split l (" " : Str)) := ⟨SqL.of hlw, fun y hy => ⟨cs.asc hl1 y hy, Nat.le_trans (cs.sub y hy).2 hl2⟩, by have := cs.cnt; omega⟩
    refine ⟨_, rfl, lw, _, _, _, rfl, rfl, SqL.of hlw, wd_at (K := K) cs, ?_⟩
    obtain ⟨kd, ekd⟩ : ∃ kd, wd (Txt.split l (" " : Str)) 0 = kd := ⟨_, rfl⟩
    rw [ekd]
    refine ⟨_, rfl, p, dx, _, rfl, s1 _ _ hS.at_, rm1, ?_⟩
    refine andS (a := (befores kd).isSome) (b := match befores kd with | none => false | some l => l.contains S.pv) (fun Q h => ?_) (fun ea H2 s2 Q h => ?_) fun H2 s2 => ?_
    · cases hb : befores kd with
      | none =>
        rw [hb] at h
        exact ⟨_, rfl, kd, _, rfl, rfl, pl.none' kd hb, h _ (Same.refl _)⟩
      | some bl =>
        rw [hb] at h
        obtain ⟨t, e1, e2⟩ := pl.some' kd bl hb
        exact ⟨_, rfl, kd, _, rfl, rfl, e1, h _ (Same.refl _)⟩
    · cases hb : befores kd with
      | none => rw [hb] at ea; cases ea
      | some bl =>
        rw [hb] at h
        obtain ⟨t, e1, e2⟩ := pl.some' kd bl hb
        refine ⟨_, rfl, p, C, dx, _, _, rfl, s2 _ _ (s1 _ _ hS.at_), c.cl, c.n2, rg2, _, rfl, D, kd, .ref t, rfl, rfl, ⟨des, dn, .ref t, pl.kd.at_, pl.kd.lit, e1, rfl⟩, t, _, rfl, .inr (e2 H2), rfl, flat_strs bl, ?_⟩
        rw [if_neg (by decide), inV_strs]
        exact h _ s2
    have S2 := s1.trans s2
    have eok : ((befores kd).isSome && match befores kd with | none => false | some l => l.contains S.pv) = okPlace kd S.pv := by
      unfold okPlace
      cases befores kd <;> rfl
    rw [eok]
    refine ⟨p, dx, _, S.pl, _, rfl, S2 _ _ hS.at_, rg1, fun ok => ?_, fun nok => q2 fun S' z => by have := z.place; rw [ekd, nok] at this; cases this⟩
    have hw2 : WsAt K H2 lw (Txt.split l (" " : Str)) := ⟨s2.seq hw.at_, hw.asc, hw.len⟩
    refine ⟨_, rfl, rfl, ?_⟩
    rw [dec_str]
    refine ⟨_, rfl, ?_⟩
    refine ite2 (fun e => ?_) (fun e => ?_)
    · have ek : kd = ("net" : Str) := of_decide_eq_true e
      subst ek
      refine ⟨_, rfl, p, dx, _, rfl, S2 _ _ hS.at_, rm5, _, rfl, _, rfl, lw, _, rfl, hw2.at_, fun y ny => ?_⟩
      rw [cut1, ← List.map_drop]
      have s3 := same_new (o := .lst (((Txt.split l (" " : Str)).drop 1).map V.str)) ny
      have hy := upd_same (H := H2) (a := y) (o := .lst (((Txt.split l (" " : Str)).drop 1).map V.str))
      generalize upd H2 y (.lst (((Txt.split l (" " : Str)).drop 1).map V.str)) = H3 at s3 hy ⊢
      refine ⟨by show 2 ≤ sizeLine; decide, fun t1 nt1 => ⟨by show 2 ≤ sizeLine; decide, fun t2 nt2 => ?_⟩⟩
      have s4 := same_new (o := .tup [V.int 0, V.int 10]) nt1
      have ht1 := upd_same (H := H3) (a := t1) (o := .tup [V.int 0, V.int 10])
      generalize upd H3 t1 (.tup [V.int 0, V.int 10]) = H4 at s4 ht1 nt2 ⊢
      have s5 := same_new (o := .tup [V.int 0, V.int 5]) nt2
      have ht2 := upd_same (H := H4) (a := t2) (o := .tup [V.int 0, V.int 5])
      generalize upd H4 t2 (.tup [V.int 0, V.int 5]) = H5 at s5 ht2 ⊢
      refine ⟨by show 2 ≤ sizeLine; decide, fun lb nlb => ?_⟩
      have s6 := same_new (o := .lst [V.ref t1, V.ref t2]) nlb
      have hlb := upd_same (H := H5) (a := lb) (o := .lst [V.ref t1, V.ref t2])
      generalize upd H5 lb (.lst [V.ref t1, V.ref t2]) = H6 at s6 hlb ⊢
      have S6 := (((S2.trans s3).trans s4).trans s5).trans s6
      refine ⟨p, dx, y, lb, _, S.pl, (Txt.split l (" " : Str)).drop 1, [t1, t2], [(0, 10), (0, 5)], rfl, S6 _ _ hS.at_, rg1, rm1, SqL.of (s6 _ _ (s5 _ _ (s4 _ _ hy))), fun y hy => ⟨(hw.asc y (List.mem_of_mem_drop hy)).1, Nat.le_trans (hw.asc y (List.mem_of_mem_drop hy)).2 (by decide)⟩, by have := hw.len; rw [List.length_drop]; omega, SqL.of hlb,
        .cons (SqT.of (s6 _ _ (s5 _ _ ht1))) (.cons (SqT.of (s6 _ _ ht2)) .nil), fun nok H7 a s7 na ha => ?_, fun nok => q2 fun S' z => by have := z.net_ok ekd; rw [nok] at this; cases this⟩
      have S7 := S6.trans s7
      obtain ⟨w0, x1, x2, ew⟩ := three (ws := Txt.split l (" " : Str)) (by have := nums_len nok; rw [List.length_drop] at this; have e : [((0 : Int), (10 : Int)), (0, 5)].length = 2 := rfl; omega)
      have e1 : wd (Txt.split l (" " : Str)) 1 = x1 := by rw [ew]; rfl
      have e2 : wd (Txt.split l (" " : Str)) 2 = x2 := by rw [ew]; rfl
      rw [ew] at ha
      refine ⟨a, _, rfl, SqL.of ha, rfl, _, _, rfl, ?_⟩
      refine ⟨_, rfl, p, C, dx, _, rfl, S7 _ _ hS.at_, c.cl, c.n3, (by show 7 < 1000; decide), ?_⟩
      rw [rd_pr]
      refine ⟨_, _, rfl, _, rfl, p, C, dx, _, rfl, upd_same, c.cl, c.n4, (by show 7 < 1000; decide), ?_⟩
      rw [rd_er]
      have hX := (hS.same S7).put ⟨S.pl, S.pv, ⟨S.N.ks, S.N.ls, numI x1, numI x2⟩, S.es⟩ rfl rfl rfl (.ins C dx (rdF (S.pl : Int) S.pv (numI x1) S.N.er lk ll le))
      have KX := hid_trans (hid_of S7) hX.2
      have hX := hX.1
      have hR := Reads.net (by rw [ekd]; exact ok) ekd nok
      rw [e1, e2] at hR
      generalize upd (upd H7 p (.ins C dx (rdF (S.pl : Int) S.pv (numI x1) S.N.er lk ll le))) p (.ins C dx (rdF (S.pl : Int) S.pv (numI x1) (numI x2) lk ll le)) = HX at hX KX ⊢
      refine ⟨rfl, ?_⟩
      refine ⟨_, rfl, _, rfl, p, C, dx, _, rfl, hX.at_, c.cl, c.n2, (by show 7 < 1000; decide), ?_⟩
      rw [rd_pv]
      refine ⟨_, rfl, p, C, dx, _, _, rfl, upd_same, c.cl, c.n1, rg1, _, _, rfl, rfl, dx, _, upd_same, (by show 7 < 1000; decide), ?_⟩
      rw [rd_pl]
      exact q1 _ hR _ (hid_trans KX (hX.put ⟨S.pl + 1, _, _, _⟩ rfl rfl rfl _).2) (hX.put ⟨S.pl + 1, _, _, _⟩ rfl rfl rfl _).1
    · have k1 : kd ≠ ("net" : Str) := fun z => e (decide_eq_true z)
      refine ⟨_, rfl, rfl, ?_⟩
      rw [dec_str]
      refine ⟨_, rfl, ?_⟩
      refine ite2 (fun e => ?_) (fun e => ?_)
      · have ek : kd = ("line" : Str) := of_decide_eq_true e
        subst ek
        refine ⟨_, rfl, p, dx, _, rfl, S2 _ _ hS.at_, rm3, _, rfl, p, dx, lk, ll, le, lw, S, _, rfl, hS.same S2, hW, hw2, fun lok HX K3 hX => ?_, fun nok => q2 fun S' z => nok (z.line_ok ekd)⟩
        have KX := hid_trans (hid_of S2) K3
        have hR := Reads.line (by rw [ekd]; exact ok) ekd lok
        refine ⟨_, rfl, _, rfl, p, C, dx, _, rfl, hX.at_, c.cl, c.n2, (by show 7 < 1000; decide), ?_⟩
        rw [rd_pv]
        refine ⟨_, rfl, p, C, dx, _, _, rfl, upd_same, c.cl, c.n1, rg1, _, _, rfl, rfl, dx, _, upd_same, (by show 7 < 1000; decide), ?_⟩
        rw [rd_pl]
        exact q1 _ hR _ (hid_trans KX (hX.put ⟨S.pl + 1, _, _, _⟩ rfl rfl rfl _).2) (hX.put ⟨S.pl + 1, _, _, _⟩ rfl rfl rfl _).1
      have k2 : kd ≠ ("line" : Str) := fun z => e (decide_eq_true z)
      refine ⟨_, rfl, rfl, ?_⟩
      rw [dec_str]
      refine ⟨_, rfl, ?_⟩
      refine ite2 (fun e => ?_) (fun e => ?_)
      · have ek : kd = ("stream" : Str) := of_decide_eq_true e
        subst ek
        refine ⟨_, rfl, p, dx, _, rfl, S2 _ _ hS.at_, rm4, _, rfl, p, dx, lk, ll, le, lw, S, _, rfl, hS.same S2, hW, hw2, fun sok HX K3 hX => ?_, fun nok => q2 fun S' z => nok (z.str_ok ekd)⟩
        have KX := hid_trans (hid_of S2) K3
        have hR := Reads.stream (by rw [ekd]; exact ok) ekd sok
        refine ⟨_, rfl, _, rfl, p, C, dx, _, rfl, hX.at_, c.cl, c.n2, (by show 7 < 1000; decide), ?_⟩
        rw [rd_pv]
        refine ⟨_, rfl, p, C, dx, _, _, rfl, upd_same, c.cl, c.n1, rg1, _, _, rfl, rfl, dx, _, upd_same, (by show 7 < 1000; decide), ?_⟩
        rw [rd_pl]
        exact q1 _ hR _ (hid_trans KX (hX.put ⟨S.pl + 1, _, _, _⟩ rfl rfl rfl _).2) (hX.put ⟨S.pl + 1, _, _, _⟩ rfl rfl rfl _).1
      have k3 : kd ≠ ("stream" : Str) := fun z => e (decide_eq_true z)
      refine ⟨_, rfl, p, dx, _, rfl, S2 _ _ hS.at_, rm1, ?_⟩
      refine andS (a := decide ((Txt.split l (" " : Str)).length = 1)) (b := decide (S.N.ks.length < 12)) (fun Q h => ?_) (fun _ H3 s3 Q h => ?_) fun H3 s3 => ?_
      · refine ⟨_, rfl, lw, _, rfl, .inl hw2.at_, rfl, ?_⟩
        have elen : decide (V.int (((Txt.split l (" " : Str)).map V.str).length : Int) = V.int 1) = decide ((Txt.split l (" " : Str)).length = 1) := by
          rw [List.length_map]
          exact dec_nat _ 1
        rw [elen]
        exact h _ (Same.refl _)
      · refine ⟨_, rfl, p, C, dx, _, _, rfl, s3 _ _ (S2 _ _ hS.at_), c.cl, c.n5, rg5, lk, _, rfl, .inl (SqL.of (s3 _ _ (S2 _ _ hS.ks))), _, _, rfl, rfl, ?_⟩
        have elt : decide (((S.N.ks.map kindV).length : Int) < 12) = decide (S.N.ks.length < 12) := by
          rw [List.length_map, Bool.eq_iff_iff, decide_eq_true_eq, decide_eq_true_eq]
          omega
        show Q (.bl (decide (((S.N.ks.map kindV).length : Int) < 12))) H3
        rw [elt]
        exact h _ s3
      have S3 := S2.trans s3
      refine ⟨p, dx, _, S.pl, _, rfl, S3 _ _ hS.at_, rg1, fun eb => ?_, fun eb => q2 fun S' z => ?_⟩
      · rw [Bool.and_eq_true, decide_eq_true_eq, decide_eq_true_eq] at eb
        obtain ⟨b, rfl⟩ := kind_of ok k1 k2 k3
        refine ⟨_, rfl, p, C, dx, _, _, rfl, S3 _ _ hS.at_, c.cl, c.n5, rg5, .inl ⟨rfl, _, SqL.of (S3 _ _ hS.ks)⟩, _, rfl, lk, _, _, rfl, rfl, S3 _ _ hS.ks, szl (by rw [List.length_map]; omega), ?_⟩
        have hS3 := hS.same S3
        obtain ⟨ts, h3, h4⟩ := hS3.ls
        obtain ⟨us, h5, h6⟩ := hS3.es
        have mlk : lk ∈ [p, lk, ll, le] := by simp
        have plk : p ≠ lk := (ne_of hS3.ks hS3.at_ (by intro z; cases z)).symm
        have K1 : Same (hid [p, lk, ll, le] H3) (upd H3 lk (.lst (S.N.ks.map kindV ++ [V.str (kdT b)]))) := hid_upd hid_same mlk
        have KX := hid_trans (hid_of S3) K1
        have hX : RdAt K C C2 (upd H3 lk (.lst (S.N.ks.map kindV ++ [V.str (kdT b)]))) p dx lk ll le ⟨S.pl, S.pv, ⟨S.N.ks ++ [b], S.N.ls, S.N.pr, S.N.er⟩, S.es⟩ := ⟨by rw [upd_ne plk]; exact hS3.at_, by rw [upd_same, List.map_append]; rfl, ⟨ts, by rw [upd_ne hS.n1.symm]; exact h3, h4.same (hid_keep K1)⟩, ⟨us, by rw [upd_ne hS.n2.symm]; exact h5, h6.same (hid_keep K1)⟩, hS.n1, hS.n2, hS.n3⟩
        have hR := Reads.node b (by rw [ekd]; exact ok) ekd eb.1 eb.2
        generalize upd H3 lk (.lst (S.N.ks.map kindV ++ [V.str (kdT b)])) = HX at hX KX ⊢
        refine ⟨_, rfl, _, rfl, p, C, dx, _, rfl, hX.at_, c.cl, c.n2, (by show 7 < 1000; decide), ?_⟩
        rw [rd_pv]
        refine ⟨_, rfl, p, C, dx, _, _, rfl, upd_same, c.cl, c.n1, rg1, _, _, rfl, rfl, dx, _, upd_same, (by show 7 < 1000; decide), ?_⟩
        rw [rd_pl]
        exact q1 _ hR _ (hid_trans KX (hX.put ⟨S.pl + 1, _, _, _⟩ rfl rfl rfl _).2) (hX.put ⟨S.pl + 1, _, _, _⟩ rfl rfl rfl _).1
      · have y := z.node_ok (by rw [ekd]; exact k1) (by rw [ekd]; exact k2) (by rw [ekd]; exact k3)
        rw [decide_eq_true y.1, decide_eq_true y.2] at eb
        cases eb
end
end My
namespace My
open PySem PySem.Spec PyProof.Rows L2
abbrev sRText : Stmt := top 11 /-read_text-/
theorem norm_hits {k l : Nat × Nat × Int} (h : norm k = norm l) : hits l.1 l.2.1 k = true := by
  refine hits_mk ?_
  unfold norm at h
  split at h <;> split at h <;> (obtain ⟨h1, h2⟩ := Prod.mk.inj h; omega)
theorem Dist.snoc {N : NetD} {l : Nat × Nat × Int} (h : Dist N.ls) (ne : l.1 ≠ l.2.1) (hj : joined N l.1 l.2.1 = none) : Dist (N.ls ++ [l]) := by
  have nj : ∀ k ∈ N.ls, hits l.1 l.2.1 k = false := fun k hk => by
    unfold joined at hj
    have := List.find?_eq_none.mp (Option.map_eq_none_iff.mp hj) k hk
    exact Bool.eq_false_iff.mpr this
  refine ⟨?_, fun k hk => ?_⟩
  · rw [List.map_append]
    refine nd_snoc' h.nd fun hm => ?_
    obtain ⟨k, hk, e⟩ := List.mem_map.mp hm
    have := norm_hits e
    rw [nj k hk] at this
    cases this
  · rcases List.mem_append.mp hk with z | z
    · exact h.ne k z
    · rw [List.mem_singleton.mp z]
      exact ne
theorem RdW.step {S A : RdD} {l : Str} (h : RdW S) (g : Reads S l A) (hl : S.pl < 1000) : RdW A ∧ A.pl = S.pl + 1 := by
  obtain ⟨h1, h2, h3, h4, h5⟩ := h
  cases g with
  | net => exact ⟨⟨h1, by show S.pl + 1 ≤ 1000; omega, by show _ ≤ S.pl + 1; exact Nat.le_succ_of_le h3, by show _ ≤ S.pl + 1; exact Nat.le_succ_of_le h4, h5⟩, rfl⟩
  | line h k o => exact ⟨⟨h1.snoc o.2.1 o.2.2, by show S.pl + 1 ≤ 1000; omega, by show (S.N.ls ++ _).length ≤ S.pl + 1; rw [List.length_append, List.length_singleton]; omega, by show _ ≤ S.pl + 1; exact Nat.le_succ_of_le h4, h5⟩, rfl⟩
  | stream => exact ⟨⟨h1, by show S.pl + 1 ≤ 1000; omega, by show _ ≤ S.pl + 1; exact Nat.le_succ_of_le h3, by show (S.es ++ _).length ≤ S.pl + 1; rw [List.length_append, List.length_singleton]; omega, h5⟩, rfl⟩
  | node b h k o1 o2 => exact ⟨⟨h1, by show S.pl + 1 ≤ 1000; omega, by show _ ≤ S.pl + 1; exact Nat.le_succ_of_le h3, by show _ ≤ S.pl + 1; exact Nat.le_succ_of_le h4, by show (S.N.ks ++ _).length ≤ 12; rw [List.length_append, List.length_singleton]; omega⟩, rfl⟩
theorem S0_w : RdW S0 := ⟨⟨List.nodup_nil, fun l h => absurd h List.not_mem_nil⟩, by show 0 ≤ 1000; omega, Nat.le_refl _, Nat.le_refl _, by show 0 ≤ 12; omega⟩
theorem cut_init (xs : List V) (x : V) : cutV (xs ++ [x]) none (some (-1)) = xs := by
  unfold cutV
  rw [HT.sIx_none]
  have e2 : HT.sIx (xs ++ [x]).length (xs ++ [x]).length (some (-1)) = (xs ++ [x]).length - 1 := by
    show (if (-1 : Int) < 0 then ((-1 : Int) + ((xs ++ [x]).length : Int)).toNat else min (-1 : Int).toNat (xs ++ [x]).length) = _
    rw [if_pos (by decide)]
    omega
  rw [e2, List.length_append, List.length_singleton]
  show (xs ++ [x]).take (xs.length + 1 - 1 - 0) = xs
  rw [Nat.add_sub_cancel, Nat.sub_zero, List.take_left']
  rfl
structure RdMk (P : Program) (w : World) (K : PySem.W.Frag) (mg : Str → Option Value) (base : Heap) (C f : Addr) (fd : FuncData) : Prop where
  ok : FnOk P w K mg base CX0 1 f fd ["self"] (spRInit K C)
  mg : mg "Reader" = some (.ref C)
  mkC : Mk K C f
  b : Binds K fd ["self"] []
section
variable {P : Program} {w : World} {K : PySem.W.Frag} {mg : Str → Option Value} {base : Heap}
theorem scRText : FnScope ["text", "lines", "reader", "line"] ["text"] (defScope sRText) := ⟨rfl, rfl, rfl, by decide +kernel, rfl, by decide +kernel, by decide +kernel⟩
-- ["text", "lines", "reader", "line"]
def spRText (K : PySem.W.Frag) (CN C2 : Addr) (XX : Bool) (CE : Addr) : Sp := fun vs H Q E => ∃ (x : Str) (rows : List Str) (last : Str), vs = [.str x] ∧ Txt.split x ("\n" : Str) = rows ++ [last] ∧ x.length ≤ 1000000 ∧ rows.length ≤ 900 ∧ last.length ≤ 100000 ∧ (∀ r ∈ rows, Asc r ∧ r.length ≤ 250) ∧
  (∀ S, ReadsText rows last (.inl S) → ∀ (H' : Hp) (t np le : Addr) (us : List Addr), Same H H' → H' t = some (.tup [.ref np, .ref le]) → NetAt K CN H' np S.N → H' le = some (.lst (us.map V.ref)) → EntsR C2 H' us S.es → Q (.ref t) H') ∧
  (∀ n, ReadsText rows last (.inr n) → Bad XX CE n E)
theorem ok_rtext {f C CN C2 CE fC fR fN fI : Addr} {fd fdC fdR fdN fdI : FuncData} {XX : Bool} {k : Nat} (F : Fun K "read_text" "read_text" sRText f fd) (c : RdC K C) (T : Blt mg) (GI : RdMk P w K mg base C fI fdI) (mC : Meth K C "check" fC) (GC : MethX P w K mg base 3 ["self", "holds"] (spCheck C XX CE) fC fdC)
    (mR : Meth K C "read_line" fR) (GR : MethX P w K mg base 6 ["self", "line"] (spRLine K C CN C2 XX CE) fR fdR) (mN : Meth K C "net_so_far" fN) (GN : MethOf P w K mg base 3 ["self"] (spNsf K C CN C2) fN fdN) :
    FnOk P w K mg base (L2.CX P w) (k + 7) f fd ["text"] (spRText K CN C2 XX CE) := by
  refine F.okX scRText (fun vs H Q E h => ?_) (fun cdv A0 outer s0 H vs Q E hr h => ?_)
  · obtain ⟨x, rows, last, rfl, _⟩ := h
    rfl
  · obtain ⟨x, rows, last, rfl, hsp, hx, hrows, hlast, hr1, q1, q2⟩ := h
    have nd := scRText.nd
    have hr2 : Room 2 _ := hr.mono (by omega)
    have hr3 : Room 3 _ := hr.mono (by omega)
    have hr6 : Room 6 _ := hr.mono (by omega)
    refine ⟨_, pss_cons (ps_set (i := 1) nd rfl (.inl rfl) (pe_split (pv 0) pe_str)) <| pss_cons (ps_set (i := 2) nd rfl (.inl rfl) (pe_make0 GI.mkC GI.ok hr2 (by rfl) GI.mg GI.b .nil pass0)) <| pss_cons (ps_for (passes_of rfl) rfl (pi_list (pe_slice sl_list (pv 1) po_none (po_some (pe_un un_neg pe_int)))) (pg_name (i := 3) nd rfl (.inl rfl)) (pss_one (ps_expr (pe_meth (pv 2) c.cl mR GR.ok hr6 GR.b .nil (passE (takes_of rfl rfl rfl rfl)) (pa_cons (pv 3) pa_nil))))) <| pss_cons (ps_expr (pe_meth (pv 2) c.cl mC GC.ok hr3 GC.b .nil (passE (takes_of rfl rfl rfl rfl)) (pa_cons (pe_and (pe_cmpR op_eq (pe_ix ix_list (pv 1) (pe_un un_neg pe_int) (fun _ _ => rfl)) pe_str (nomark _)) (pe_one (pe_cmpR op_gt (pe_callB call_len_seq (by rfl) T.len PySem.boot_len (pa_cons (pe_fld (pv 2) rfl) pa_nil)) pe_int (nomark _)))) pa_nil))) <| pss_one (ps_ret (pe_tup (pa_cons (pe_meth0 (pv 2) c.cl mN GN.ok hr3 GN.b .nil pass0) (pa_cons (pe_fld (pv 2) rfl) pa_nil)))), ?_⟩
    refine ⟨_, rfl, ⟨_, rfl⟩, _, _, rfl, rfl, by decide +kernel, Nat.le_trans (Nat.add_le_add_right hx 2) (by decide), fun L nL => ?_⟩
    rw [hsp]
    have s1 := same_new (o := .lst ((rows ++ [last]).map V.str)) nL
    have hL := upd_same (H := H) (a := L) (o := .lst ((rows ++ [last]).map V.str))
    generalize upd H L (.lst ((rows ++ [last]).map V.str)) = H1 at s1 hL ⊢
    refine fun p dx np ndx ne => ⟨p, dx, rfl, upd_same, fun H2 lk ll le kb nk nl nle d1 d2 d3 hp hk hl he => ⟨rfl, ?_⟩⟩
    have s0' := same_make0 (o1 := .own p) (o2 := .ins C dx []) np ndx
    have s2 := same_make np ndx kb
    have nk1 := s0'.free nk
    have nl1 := s0'.free nl
    have ne1 := s0'.free nle
    have hS2 : RdAt K C C2 H2 p dx lk ll le S0 := ⟨hp, hk, ⟨[], hl, .nil⟩, ⟨[], he, .nil⟩, d1, d2, d3⟩
    have S2 := s1.trans s2
    have hL2 := s2 _ _ hL
    refine ⟨_, rfl, _, rfl, _, rfl, L, _, rfl, SqL.of hL2, fun y ny => ?_⟩
    rw [List.map_append, show [last].map V.str = [V.str last] from rfl, cut_init]
    have s3 := same_new (o := .lst (rows.map V.str)) ny
    have hy := upd_same (H := H2) (a := y) (o := .lst (rows.map V.str))
    have S3 := S2.trans s3
    have hL3 := s3 _ _ hL2
    have oy := hS2.out ny
    have hS3 := hS2.same s3
    generalize upd H2 y (.lst (rows.map V.str)) = H3 at s3 hy S3 hL3 hS3 ⊢
    have oL : L ∉ [p, lk, ll, le] := fun hm => by
      rcases List.mem_cons.mp hm with e | hm
      · exact ne_of_none hL np e
      rcases List.mem_cons.mp hm with e | hm
      · exact ne_of_none hL nk1 e
      rcases List.mem_cons.mp hm with e | hm
      · exact ne_of_none hL nl1 e
      exact ne_of_none hL ne1 (List.mem_singleton.mp hm)
    refine ⟨y, rfl, ⟨_, SqL.of hy⟩, for_list (K := K) (a := y) (xs := rows.map V.str) (fun i σ G => ∃ (S : RdD) (v : Option V), σ = [some (.str x), some (.ref L), some (.ref p), v] ∧ ReadsAll S0 (rows.take i) (.inl S) ∧ S.pl = i ∧ RdW S ∧ Same (hid [p, lk, ll, le] H3) G ∧ RdAt K C C2 G p dx lk ll le S)
      ⟨S0, none, rfl, .done _, rfl, S0_w, hid_same, hS3⟩ (fun i σ G _ ⟨_, _, _, _, _, _, kb, _⟩ => SqL.of (kb _ _ (by rw [hid_out oy]; exact hy))) ?_ ?_⟩
    · rintro i x' σ G hi ⟨S, v, rfl, hA, hpl, hWf, kb, hS⟩
      obtain ⟨l, el, rfl⟩ := strs_at hi
      have il := (List.getElem?_eq_some_iff.mp el).1
      have hm := List.mem_of_getElem? el
      refine ⟨_, rfl, p, dx, _, rfl, hS.at_, rm2, _, rfl, p, dx, lk, ll, le, S, l, rfl, hS, hWf, (hr1 l hm).1, (hr1 l hm).2, fun S' hR G' K' hS' => ?_, fun nR => q2 _ (.bad ?_)⟩
      · obtain ⟨w1, w2⟩ := hWf.step hR (by omega)
        exact ⟨S', some (.str l), rfl, by rw [take_snoc el]; exact hA.snoc hR, by rw [w2, hpl], w1, hid_trans kb K', hS'⟩
      · have e : rows = rows.take i ++ l :: rows.drop (i + 1) := by
          obtain ⟨_, e⟩ := List.getElem?_eq_some_iff.mp el
          rw [← e, List.getElem_cons_drop, List.take_append_drop]
        rw [e]
        exact hA.stop nR _
    rintro σ G ⟨S, v, rfl, hA, hpl, hWf, kb, hS⟩
    rw [List.length_map, List.take_length] at hA
    have SG : Same H G := fun b o e => by
      have nb : b ∉ [p, lk, ll, le] := fun hm => by
        rcases List.mem_cons.mp hm with z | hm
        · exact ne_of_none e (s1.free np) z
        rcases List.mem_cons.mp hm with z | hm
        · exact ne_of_none e (s1.free nk1) z
        rcases List.mem_cons.mp hm with z | hm
        · exact ne_of_none e (s1.free nl1) z
        exact ne_of_none e (s1.free ne1) (List.mem_singleton.mp hm)
      exact kb b o (by rw [hid_out nb]; exact S3 b o e)
    have hLG := kb _ _ (by rw [hid_out oL]; exact hL3)
    refine ⟨_, rfl, p, dx, _, rfl, hS.at_, rm1, ?_⟩
    refine andS (a := decide (last = ("" : Str))) (b := decide (0 < S.N.ks.length)) (fun Q h => ?_) (fun _ H3 s3 Q h => ?_) fun H4 s4 => ?_
    · refine ⟨_, rfl, _, rfl, L, _, _, _, rfl, rfl, SqL.of hLG, by rw [List.map_append]; exact atI_last _ _, rfl, ?_⟩
      rw [dec_str]
      exact h _ (Same.refl _)
    · refine ⟨_, rfl, p, C, dx, _, _, rfl, s3 _ _ hS.at_, c.cl, c.n5, rg5, lk, _, rfl, .inl (SqL.of (s3 _ _ hS.ks)), _, _, rfl, rfl, ?_⟩
      have elt : decide ((0 : Int) < ((S.N.ks.map kindV).length : Int)) = decide (0 < S.N.ks.length) := by
        rw [List.length_map, Bool.eq_iff_iff, decide_eq_true_eq, decide_eq_true_eq]
        omega
      show Q (.bl (decide ((0 : Int) < ((S.N.ks.map kindV).length : Int)))) H3
      rw [elt]
      exact h _ s3
    have hS4 := hS.same s4
    refine ⟨p, dx, _, S.pl, _, rfl, hS4.at_, rg1, fun eb => ?_, fun eb => q2 _ (.short hA fun z => ?_)⟩
    · rw [Bool.and_eq_true, decide_eq_true_eq, decide_eq_true_eq] at eb
      refine ⟨_, rfl, p, dx, _, rfl, hS4.at_, rm6, p, dx, lk, ll, le, S, rfl, hS4, by have := hWf.ls; have := hWf.pl; omega, fun H5 np' s5 nnp hN => ?_⟩
      have hS5 := hS4.same s5
      refine ⟨_, rfl, p, C, dx, _, _, rfl, hS5.at_, c.cl, c.n7, rg7, by show 2 ≤ sizeLine; decide, fun t nt => ?_⟩
      have s6 := same_new (o := .tup [V.ref np', V.ref le]) nt
      have hS6 := hS5.same s6
      obtain ⟨us, h5, h6⟩ := hS6.es
      exact q1 S (.good hA eb.1 fun z => by rw [z] at eb; exact absurd eb.2 (by decide)) _ t np' le us (((SG.trans s4).trans s5).trans s6) upd_same (hN.same s6) h5 (h6.same hid_same)
    · rw [decide_eq_true z.1, decide_eq_true (List.length_pos_iff.mpr z.2)] at eb
      cases eb
end
end My
/-! An own `__eq__` with both answers. No row. -/
namespace My
open PySem PySem.Spec PyProof.Rows L2
/-- what may stand on the right -/
inductive RightV (K : PySem.W.Frag) (C : Addr) (H : Hp) : V → Prop where
  | own {b dx : Addr} {fs : List (Str × V)} (h : H b = some (.ins C dx fs)) : RightV K C H (.ref b)
  | int (i : Int) (n : PySem.W.notFirst K C (.type "int") = true) : RightV K C H (.int i)
  | lst {b : Addr} {xs : List V} (h : H b = some (.lst xs)) (n : PySem.W.notFirst K C (.type "list") = true) : RightV K C H (.ref b)
def rOwnE (K : PySem.W.Frag) (C : Addr) (sp : Sp) (E : XK) : R2 := fun x y H Q => ∃ (a dx : Addr) (fs : List (Str × V)), x = .ref a ∧ H a = some (.ins C dx fs) ∧ RightV K C H y ∧ sp [.ref a, y] H Q E
theorem op_ownE {X : Cx} {CX : CXT} {C g : Addr} {fd : FuncData} {ps : List Str} {k : Nat} {sp : Sp} {E : XK} (F : FnOk X.prog X.w X.K X.mg X.base CX k g fd ps sp) (hr : Room k X.A) (hs : PySem.W.findIn X.K (.ref C) "__eq__" = some (some (.ref g))) (hf : PySem.W.isFn X.K (.ref g) = true)
    (hb : Binds X.K fd ps []) (hx : Passes CX X E) : OpR X (compareOp .Eq) (rOwnE X.K C sp E) := by
  intro pins s σ H x y v u Q I rx ry h
  obtain ⟨a, dx, fs, rfl, ha, hy, q⟩ := h
  cases (show v = Value.ref a from rx)
  obtain ⟨mA, O, _⟩ := ins_get I.hok ha
  obtain ⟨od, J, _⟩ := O.look
  obtain ⟨m, hF⟩ := I.fr
  have go : ∀ tb : Value, PySem.W.Looks (model X.prog X.w) s.heap (typeOf u) tb → PySem.W.notFirst X.K C tb = true → wpAny (model X.prog X.w) X.A (compareOp .Eq (.ref a) u) (EP X pins σ Q) X.xe s := by
    intro tb lb nb
    show wpAny (model X.prog X.w) X.A (richCompare .Eq (.ref a) u) (EP X pins σ Q) X.xe s
    refine PySem.W.cmp_K (op := .Eq) (tb := tb) hr.units0 hF I.ok.mod.kin J lb nb hs hf ?_
    refine wpAny_mono (run_fn (us := [.ref a, u]) (vs := [.ref a, y]) F hr hb .nil hx I (.cons rfl (.cons ry .nil)) q) (fun w s' z => ?_) fun _ _ x => x
    obtain ⟨z', H', I', rz, qz⟩ := z
    exact SlX.cmpback rz ⟨z', H', I', rz, qz⟩
  cases hy with
  | @own b dy gs hb' =>
    cases (show u = Value.ref b from ry)
    obtain ⟨mB, O', _⟩ := ins_get I.hok hb'
    obtain ⟨od', J', _⟩ := O'.look
    exact go (.ref C) J'.type (by simp [PySem.W.notFirst])
  | int i n =>
    obtain ⟨t, e⟩ := (show ∃ t, u = Value.int i t from ry)
    subst e
    exact go (.type "int") (PySem.W.Looks.of_pure rfl) n
  | @lst b xs hb' n =>
    cases (show u = Value.ref b from ry)
    obtain ⟨_, _, k, _, h1⟩ := (show ObjOk X.prog X.w H s.heap b (.lst xs) from I.hok b _ hb')
    exact go (.type "list") ((PySem.W.Looks.ld h1).andThen .now) n
end My
namespace My
open PySem PySem.Spec PyProof.Rows L2
abbrev sSEq : Stmt := inClass sStream 1 /-Stream.__eq__-/
structure OwnJ (K : PySem.W.Frag) (C : Addr) : Prop where
  ha : PySem.W.findIn K (.ref C) "__class__" = some (some (.builtin "object.__class__"))
  hn : PySem.W.specialIn K (.builtin "object.__class__") "__get__" = some (some (.builtin "getset_descriptor.__get__"))
  htk : PySem.W.takesIn K (.builtin "object.__class__") = some true
  hm : PySem.W.mroIn K C (.type "object") = some true
  me : PySem.W.kitOne K (.ref C) (.ref C) = some true
/-- the same stream stands at both -/
def Twin (C2 : Addr) (a b : Addr) (H : Hp) : Prop := ∃ s, StreamAt C2 H a s ∧ StreamAt C2 H b s
theorem twin_mono {C2 a b : Addr} {H H' : Hp} (e : Ext H H') (h : Twin C2 a b H) : Twin C2 a b H' := by
  obtain ⟨s, h1, h2⟩ := h
  exact ⟨s, h1.same e, h2.same e⟩
section
variable {P : Program} {w : World} {K : PySem.W.Frag} {mg : Str → Option Value} {base : Heap}
/-! ### Stream.__eq__ -/
theorem scSEq : FnScope ["self", "other"] ["self", "other"] (defScope sSEq) := ⟨rfl, rfl, rfl, by decide +kernel, rfl, by decide +kernel, by decide +kernel⟩
theorem ok_twin {f C : Addr} {fd : FuncData} {k : Nat} (F : Fun K "__eq__" "Stream.__eq__" sSEq f fd) (hisi : mg "isinstance" = none) (c : StrC K C) (i : OwnJ K C) (gC : mg "Stream" = some (.ref C)) : FnOk P w K mg base CX0 (k + 1) f fd ["self", "other"] (spEq (Twin C)) := by
  refine F.ok scSEq (fun vs H Q E h => ?_) (fun cdv A outer s0 H vs Q E hr h => ?_)
  · obtain ⟨a, b, rfl, _⟩ := h
    rfl
  · obtain ⟨a, b, rfl, ⟨s, hS, hR⟩, q⟩ := h
    have nd := scSEq.nd
    refine ⟨_, pss_one (ps_ret (pe_and (pe_callB call_isi (by rfl) hisi PyProof.Rows.boot_isinstance (pa_cons (pv 1) (pa_cons (pe_glob (v := .ref C) (by rfl) gC rfl (by decide)) pa_nil))) (pe_and (pe_cmpR op_eq (pe_fld (pv 0) rfl) (pe_fld (pv 1) rfl) (nomark _)) (pe_and (pe_cmpR op_eq (pe_fld (pv 0) rfl) (pe_fld (pv 1) rfl) (nomark _)) (pe_and (pe_cmpR op_eq (pe_fld (pv 0) rfl) (pe_fld (pv 1) rfl) (nomark _)) (pe_one (pe_cmpR (op_eqD hr.units) (pe_fld (pv 0) rfl) (pe_fld (pv 1) rfl) (nomark _)))))))), ?_⟩
    obtain ⟨dx, lp, e1, e2⟩ := hS
    obtain ⟨dy, lq, d1, d2⟩ := hR
    refine andv (a := true) (b := true) (fun Q h => ?_) (fun _ Q h => ?_) (q H Ext.rfl')
    · exact ⟨_, rfl, .ref b, .ref C, .ref C, .ref C, true, rfl, .own C, .base (.ins d1 c.cl i.ha i.hn i.htk i.hm), i.me, h⟩
    · refine andv (a := true) (b := true) (fun Q h => ?_) (fun _ Q h => ?_) h
      · refine ⟨_, rfl, a, C, dx, _, _, rfl, e1, c.cl, c.n1, sg1, _, rfl, b, C, dy, _, _, rfl, d1, c.cl, c.n1, sg1, rfl, ?_⟩
        rw [decide_eq_true rfl]
        exact h
      · refine andv (a := true) (b := true) (fun Q h => ?_) (fun _ Q h => ?_) h
        · refine ⟨_, rfl, a, C, dx, _, _, rfl, e1, c.cl, c.n2, sg2, _, rfl, b, C, dy, _, _, rfl, d1, c.cl, c.n2, sg2, rfl, ?_⟩
          rw [decide_eq_true rfl]
          exact h
        · refine andv (a := true) (b := true) (fun Q h => ?_) (fun _ Q h => ?_) h
          · refine ⟨_, rfl, a, C, dx, _, _, rfl, e1, c.cl, c.n3, sg3, _, rfl, b, C, dy, _, _, rfl, d1, c.cl, c.n3, sg3, rfl, ?_⟩
            rw [decide_eq_true rfl]
            exact h
          · refine ⟨_, rfl, a, C, dx, _, _, rfl, e1, c.cl, c.n4, sg4, _, rfl, b, C, dy, _, _, rfl, d1, c.cl, c.n4, sg4, dList s.path, dList s.path, dp_list (SqL.of e2), dp_list (SqL.of d2), shaped_list _, shaped_list _, ?_⟩
            rw [eqv_nats, decide_eq_true rfl]
            exact h
end
/-- how Stream.__eq__ is known -/
structure TwMk (P : Program) (w : World) (K : PySem.W.Frag) (mg : Str → Option Value) (base : Heap) (C f : Addr) (fd : FuncData) : Prop where
  ok : FnOk P w K mg base CX0 1 f fd ["self", "other"] (spEq (Twin C))
  hs : PySem.W.findIn K (.ref C) "__eq__" = some (some (.ref f))
  hf : PySem.W.isFn K (.ref f) = true
  b : Binds K fd ["self", "other"] []
theorem mon_twin {C2 : Addr} : Mon (DIns C2 (Twin C2)) := mon_ins fun _ _ _ _ e r => twin_mono e r
/-- two entries: twins, equal offsets -/
abbrev DEnt (K : PySem.W.Frag) (C2 : Addr) : Eqv := DTup K (fun x y H => DIns C2 (Twin C2) x y H ∨ DList DFlat x y H)
theorem mon_ent {K : PySem.W.Frag} {C2 : Addr} : Mon (DEnt K C2) := mon_tup (mon_twin.or (mon_list mon_flat))
theorem eqG_ent {X : Cx} {C2 f : Addr} {fd : FuncData} (G : TwMk X.prog X.w X.K X.mg X.base C2 f fd) : EqG X 2 (DEnt X.K C2) := eqG_tup (mon_twin.or (mon_list mon_flat)) ((eqG_ins G.ok G.hs G.hf G.b (E := E0) pass0).or (eqG_list mon_flat eqG_flat))
theorem prs_ints {xs : List Int} {H : Hp} : Prs DFlat (xs.map V.int) (xs.map V.int) H := by
  refine ⟨rfl, fun i x y h1 h2 => ?_⟩
  rw [h1] at h2
  cases Option.some.inj h2
  obtain ⟨n, _, rfl⟩ := ints_at h1
  exact ⟨rfl, rfl, decide_eq_true rfl⟩
theorem dent {K : PySem.W.Frag} {C2 : Addr} {H : Hp} {t u : Addr} {e : EntD} (ht : EntR C2 H t e) (hu : EntR C2 H u e) : DEnt K C2 (.ref t) (.ref u) H := by
  obtain ⟨a, l, h1, h2, h3⟩ := ht
  obtain ⟨b, m, g1, g2, g3⟩ := hu
  obtain ⟨dx, lp, x1, x2⟩ := id h2
  obtain ⟨dy, lq, y1, y2⟩ := id g2
  exact ⟨t, u, _, _, rfl, rfl, SqT.of h1, SqT.of g1, Prs.cons (.inl ⟨a, b, dx, dy, _, _, rfl, rfl, x1, y1, e.s, h2, g2⟩) (Prs.cons (.inr ⟨l, m, _, _, rfl, rfl, h3, g3, prs_ints⟩) Prs.nil)⟩
theorem dents {K : PySem.W.Frag} {C2 : Addr} {H : Hp} {ts us : List Addr} {es : List EntD} (h : EntsR C2 H ts es) (g : EntsR C2 H us es) : Prs (DEnt K C2) (ts.map V.ref) (us.map V.ref) H := by
  induction h generalizing us with
  | nil =>
    cases g
    exact Prs.nil
  | cons r t ih =>
    cases g with
    | cons r' t' => exact Prs.cons (dent r r') (ih t')
end My
/-! The global PLACES as it is written. No row. -/
namespace My
open PySem PySem.Spec PyProof.Rows L2
theorem sqt_K {K : PySem.W.Frag} {a : Addr} {d : Option Addr} {us : Array Value} {n : Nat} {sl : Array (Option Value)} {xs : List V} (h : K.lookup a = some ⟨.type "tuple", d, .seq us n, sl⟩) (hs : us.size ≤ 100) (r : Vals xs us.toList) (H : Hp) : SqT K H a xs :=
  .inr ⟨_, us, n, h, rfl, rfl, Nat.le_trans hs (by decide), r⟩
theorem ns_find {K : PySem.W.Frag} {D : Addr} {es : List DictEntry} {n : Nat} (h : K.lookup D = some ⟨.type "dict", none, .dict es.toArray n, #[]⟩) (z : Str) (r : Option Value) (hf : (es.find? (·.key.isStr z)).map (·.val) = r) (hr : es.any (·.refKey) = false) : PySem.W.nsIn K D z = some r := by
  unfold PySem.W.nsIn
  rw [h]
  show (match es.toArray.toList.find? (·.key.isStr z) with
    | some e => some (some e.val)
    | none => if es.toArray.toList.any (·.refKey) then none else some none) = some r
  have e : es.toArray.toList = es := rfl
  rw [e, hr, ← hf]
  cases es.find? (·.key.isStr z) <;> rfl
theorem key_is {h : Int} {k : Tok} {x z : Str} {v : Value} : (⟨h, .str x k, v⟩ : DictEntry).key.isStr z = decide (z = x) := by
  show (x == z) = _
  rw [Bool.eq_iff_iff, beq_iff_eq, decide_eq_true_eq]
  exact eq_comm
section
variable {K : PySem.W.Frag} {w : World} {mg : Str → Option Value} {D a1 a2 a3 a4 a5 : Addr} {h1 h2 h3 h4 h5 : Int} {k1 k2 k3 k4 k5 : Tok} {n : Nat}
abbrev plEs (h1 h2 h3 h4 h5 : Int) (k1 k2 k3 k4 k5 : Tok) (a1 a2 a3 a4 a5 : Addr) : List DictEntry := [⟨h1, .str "net" k1, .ref a1⟩, ⟨h2, .str "host" k2, .ref a2⟩, ⟨h3, .str "switch" k3, .ref a3⟩, ⟨h4, .str "line" k4, .ref a4⟩, ⟨h5, .str "stream" k5, .ref a5⟩]
theorem pl_find (z : Str) : ((plEs h1 h2 h3 h4 h5 k1 k2 k3 k4 k5 a1 a2 a3 a4 a5).find? (·.key.isStr z)).map (·.val) = if z = ("net" : Str) then some (.ref a1) else if z = ("host" : Str) then some (.ref a2) else if z = ("switch" : Str) then some (.ref a3) else if z = ("line" : Str) then some (.ref a4) else if z = ("stream" : Str) then some (.ref a5) else none := by
  unfold plEs
  rw [List.find?_cons, key_is]
  by_cases e : z = ("net" : Str)
  · rw [if_pos e, decide_eq_true e]; rfl
  rw [if_neg e, decide_eq_false e, List.find?_cons, key_is]
  by_cases e : z = ("host" : Str)
  · rw [if_pos e, decide_eq_true e]; rfl
  rw [if_neg e, decide_eq_false e, List.find?_cons, key_is]
  by_cases e : z = ("switch" : Str)
  · rw [if_pos e, decide_eq_true e]; rfl
  rw [if_neg e, decide_eq_false e, List.find?_cons, key_is]
  by_cases e : z = ("line" : Str)
  · rw [if_pos e, decide_eq_true e]; rfl
  rw [if_neg e, decide_eq_false e, List.find?_cons, key_is]
  by_cases e : z = ("stream" : Str)
  · rw [if_pos e, decide_eq_true e]; rfl
  rw [if_neg e, decide_eq_false e, List.find?_nil]
  rfl
theorem plc_mk {d1 d2 d3 d4 d5 : Option Addr} {n1 n2 n3 n4 n5 : Nat} {s1 s2 s3 s4 s5 : Array (Option Value)} {j11 j21 j22 j23 j31 j32 j33 j41 j42 j43 j51 j52 j53 j54 : Tok} (hm : mg "PLACES" = some (.ref D))
    (hl : K.lookup D = some ⟨.type "dict", none, .dict (plEs h1 h2 h3 h4 h5 k1 k2 k3 k4 k5 a1 a2 a3 a4 a5).toArray n, #[]⟩) (hk : PySem.W.KeysLit w.params (plEs h1 h2 h3 h4 h5 k1 k2 k3 k4 k5 a1 a2 a3 a4 a5)) (low : (D == sysModules) = false)
    (t1 : K.lookup a1 = some ⟨.type "tuple", d1, .seq #[.str "" j11] n1, s1⟩) (t2 : K.lookup a2 = some ⟨.type "tuple", d2, .seq #[.str "net" j21, .str "host" j22, .str "switch" j23] n2, s2⟩) (t3 : K.lookup a3 = some ⟨.type "tuple", d3, .seq #[.str "net" j31, .str "host" j32, .str "switch" j33] n3, s3⟩)
    (t4 : K.lookup a4 = some ⟨.type "tuple", d4, .seq #[.str "host" j41, .str "switch" j42, .str "line" j43] n4, s4⟩) (t5 : K.lookup a5 = some ⟨.type "tuple", d5, .seq #[.str "host" j51, .str "switch" j52, .str "line" j53, .str "stream" j54] n5, s5⟩) :
    PlC K w mg D (plEs h1 h2 h3 h4 h5 k1 k2 k3 k4 k5 a1 a2 a3 a4 a5).toArray n := by
  have fd := fun z => ns_find hl z _ (pl_find z) rfl
  have c : ∀ {x : Str} {j : Tok} {xs : List V} {us : List Value}, Vals xs us → Vals (.str x :: xs) (.str x j :: us) := fun r => .cons ⟨_, rfl⟩ r
  refine ⟨hm, ⟨hl, hk, low⟩, fun z hz => ?_, fun z l hz => ?_⟩
  · rw [fd z]
    unfold befores at hz
    by_cases e : z = ("net" : Str)
    · rw [if_pos e] at hz; cases hz
    rw [if_neg e] at hz ⊢
    by_cases e : z = ("host" : Str)
    · rw [if_pos e] at hz; cases hz
    rw [if_neg e] at hz ⊢
    by_cases e : z = ("switch" : Str)
    · rw [if_pos e] at hz; cases hz
    rw [if_neg e] at hz ⊢
    by_cases e : z = ("line" : Str)
    · rw [if_pos e] at hz; cases hz
    rw [if_neg e] at hz ⊢
    by_cases e : z = ("stream" : Str)
    · rw [if_pos e] at hz; cases hz
    rw [if_neg e]
  · rw [fd z]
    unfold befores at hz
    by_cases e : z = ("net" : Str)
    · rw [if_pos e] at hz ⊢; cases hz; exact ⟨a1, rfl, sqt_K t1 (by show 1 ≤ 100; decide) (c .nil)⟩
    rw [if_neg e] at hz ⊢
    by_cases e : z = ("host" : Str)
    · rw [if_pos e] at hz ⊢; cases hz; exact ⟨a2, rfl, sqt_K t2 (by show 3 ≤ 100; decide) (c (c (c .nil)))⟩
    rw [if_neg e] at hz ⊢
    by_cases e : z = ("switch" : Str)
    · rw [if_pos e] at hz ⊢; cases hz; exact ⟨a3, rfl, sqt_K t3 (by show 3 ≤ 100; decide) (c (c (c .nil)))⟩
    rw [if_neg e] at hz ⊢
    by_cases e : z = ("line" : Str)
    · rw [if_pos e] at hz ⊢; cases hz; exact ⟨a4, rfl, sqt_K t4 (by show 3 ≤ 100; decide) (c (c (c .nil)))⟩
    rw [if_neg e] at hz ⊢
    by_cases e : z = ("stream" : Str)
    · rw [if_pos e] at hz ⊢; cases hz; exact ⟨a5, rfl, sqt_K t5 (by show 4 ≤ 100; decide) (c (c (c (c .nil))))⟩
    rw [if_neg e] at hz; cases hz
end
end My
namespace My
open PySem PySem.Calls PySem.Spec PyProof.Rows L2
section
open PySem.W
variable {prog : Program} {w : World} {A : Around} {E : Value → Shared → Prop} {s : Shared} {K : PySem.W.Frag} {x C : Addr} {ox : Obj} {od : Option Obj}
/-- BaseException.__getattribute__ asked for __class__ -/
theorem ga_cls {R : Result → Shared → Prop} {tk : Tok} (c : L2.ExcC K C) (X : K.In s.heap) (I : InstAt s.heap x ox C od) (h : R (.ok (.ret (.ref C))) s) : codeAny (model prog w) A (.call (.builtin "BaseException.__getattribute__") ⟨[.ref x, .str "__class__" tk], []⟩) R s := by
  have hcl : (clsIn K C).isSome = true := by obtain ⟨cd, hc, _⟩ := any_some c.hd; rw [hc]; rfl
  have hfd := looks_find (M := model prog w) X I (findObj_dataE (od := od) hcl c.ha c.hn c.ht)
  have hty := I.type (M := model prog w)
  have hsb : Looks (model prog w) s.heap (isInstance (.ref x) (.type "BaseException")) true := hty.andThen (looks_subIn X c.hs)
  have kd : builtinKind "BaseException.__getattribute__" = some .slot := by decide +kernel
  have spl : splitId "BaseException.__getattribute__" = some ("BaseException", "__getattribute__") := by decide +kernel
  refine codeAny_call_builtin PySem.F.excAttr_ValueError.ga.plain PySem.F.entry_bexc_ga ?_
  refine @check_slot (model prog w) _ _ s _ _ _ (.ref x) _ [] _ kd spl hsb (PySem.F.args_bexc_ga _ _) ?_
  delta Builtin.«object.__getattribute__»
  repeat (first | (with_reducible refine Looks.at (by assumption) ?_) | wp_step)
  exact class_get (s := s) X I c.hm (wpAny_pure h)
/-- e.__class__ of an exception of the program -/
theorem exc_cls {expr : Bool} {Q : Value → Shared → Prop} (c : L2.ExcC K C) (X : K.In s.heap) (I : InstAt s.heap x ox C od) (h : Q (.ref C) { s with toks := s.toks + 1 }) : wpAny (model prog w) A (getAttr (.ref x) "__class__" expr) Q E s := by
  have hty := I.type (M := model prog w)
  have hga := looks_findIn (M := model prog w) X c.hg
  have hgt := looks_findIn (M := model prog w) X c.hk
  have hbd := PySem.F.excAttr_ValueError.ga.bind (.ref x)
  have no1 : ∀ e : Bool, (e && onTheHeap (Value.builtin "BaseException.__getattribute__")) = false := fun e => by cases e <;> decide +kernel
  have no2 : (Value.builtin "BaseException.__getattribute__" == Value.builtin "object.__getattribute__") = false := by decide +kernel
  delta getAttr getAttrBy
  repeat (first | (with_reducible refine Looks.at (by assumption) ?_) | wp_step)
  exact ga_cls (s := { s with toks := s.toks + 1 }) c X I (handed_on rfl h)
/-- what is known of an own class whose name was read before -/
structure NameC (K : PySem.W.Frag) (C : Addr) (n : Str) : Prop where
  tp : PySem.W.typeIn K (.ref C) = some (.type "type")
  no : PySem.W.nsIn K cStatics "thirdparty.any" = some none
  rd : PySem.W.findCls K (.ref C) (.type "type") "__name__" = some (.get (.builtin "getset_descriptor.__get__") (.builtin "type.__name__") (.ref C) (.type "type"))
  k2 : ∃ (o : Obj) (tk : Tok), K.lookup C = some o ∧ o.slots[2]?.join = some (.str n tk)
/-- the name that the class keeps -/
theorem kept_name {n : Str} {tk : Tok} {o : Obj} {tp : Value} {R : Result → Shared → Prop} (X : K.In s.heap) (ht : typeIn K (.ref C) = some (.type "type")) (ho : K.lookup C = some o) (hk : o.slots[2]?.join = some (.str n tk)) (h : R (.ok (.ret (.str n tk))) s) :
    codeAny (model prog w) A (.call (.builtin "getset_descriptor.__get__") ⟨[.builtin "type.__name__", .ref C, tp], []⟩) R s := by
  have hty := looks_typeIn (M := model prog w) X ht
  have hsu : Looks (model prog w) s.heap (isSubtype (.type "type") (.type "type")) true := .of_pure (by rw [isSubtype_type]; kernel_rfl)
  have hC := X _ _ ho
  have own := ktyn_owner
  refine codeAny_call_builtin KF.slot_gs.plain KF.entry_gs (KF.slot_gs.check _ _ _ _ _ _ _ _ ktyn_type (KF.args_gs ..) ?_)
  delta Builtin.«getset_descriptor.__get__» Builtin.Getset_descriptor.descrGet
  refine wpAny_bind (wpAny_of_eq (dga_obj ..) ?_)
  delta Builtin.Getset_descriptor.descrGetter Builtin.Getset_descriptor.descrCheckInstance Builtin.Getset_descriptor.descrNameAndClass
  simp only [own]
  repeat (first | (with_reducible refine Looks.at (by assumption) ?_) | wp_step)
  constructor
  · exact Code.quiet_builtin _ (by decide +kernel)
  apply codeAny_builtin ktyn_entry
  delta Builtin.«type.__name__»
  repeat (first | (with_reducible refine wpAny_loadPart_at hC ?_) | wp_step)
  rw [hk]
  exact wpAny_pure h
theorem cls_name {expr : Bool} {n : Str} {Q : Value → Shared → Prop} (X : K.In s.heap) (c : NameC K C n) (h : ∀ tk u, Q (.str n tk) { s with toks := u }) : wpAny (model prog w) A (getAttr (.ref C) "__name__" expr) Q E s := by
  obtain ⟨o, tk, ho, hk⟩ := c.k2
  refine cls_open X (looks_opaque X c.no) (looks_typeIn X c.tp) type_tga (looks_hook X (r := none) (by rfl)) (by rfl) c.rd ?_
  delta CFound.run
  repeat wp_step
  exact kept_name (s := { s with toks := s.toks + 1 }) X c.tp ho hk (wpAny_pure (handed_on rfl (h _ _)))
end
/-! ### self.__class__.__name__ while the exception is made -/
def tCn (C : Addr) (n : Str) (te : TE) : TE := fun σ H Q => te σ H fun x H1 => ∃ (a : Addr) (d : Option Addr), x = .ref a ∧ H1 a = some (exo a C d) ∧ (∀ dd, d = some dd → ∃ fs, H1 dd = some (exd dd fs)) ∧ Q (.str n) H1
theorem pe_cn {X : Cx} {C : Addr} {n : Str} {e : Expr} {te : TE} {p p' : Pos} (cE : L2.ExcC X.K C) (cN : NameC X.K C n) (he : PE X e te) (hb : attributeBase e "__class__" X.env (eval e X.env) = eval e X.env := by rfl)
    (hb2 : attributeBase (.Attribute e "__class__" p') "__name__" X.env (eval (.Attribute e "__class__" p') X.env) = eval (.Attribute e "__class__" p') X.env := by rfl) :
    PE X (.Attribute (.Attribute e "__class__" p') "__name__" p) (tCn C n te) := by
  refine ⟨fun pins s σ H Q I h => ?_⟩
  refine attr_of hb2 (attr_of hb (thn (he.run pins s σ H _ I h) fun u s1 ⟨x, H1, I1, rx, a, d, ex, ea, hd, q⟩ => ?_))
  subst ex
  obtain rfl : u = Value.ref a := rx
  obtain ⟨t1, ho⟩ := exo_at I1.hok ea
  have fin : ∀ {od : Option Obj}, PySem.W.InstAt s1.heap a { cls := .ref C, dict := d, data := .fields #[.ref t1, .none, .none, .none, .bool false, .none] } C od → wpAny (model X.prog X.w) X.A (getAttr (.ref a) "__class__" true) (fun o s₁ => wpAny (model X.prog X.w) X.A (getAttr o "__name__" true) (EP X pins σ Q) X.xe s₁) X.xe s1 := fun J => by
    refine exc_cls cE I1.kIn J ?_
    exact cls_name (s := { s1 with toks := s1.toks + 1 }) I1.kIn cN fun tk u => ⟨.str n, H1, I1.tok _, ⟨_, rfl⟩, q⟩
  cases d with
  | none => exact fin (od := none) ⟨ho, rfl, rfl, trivial⟩
  | some dd =>
    obtain ⟨fs, ed⟩ := hd dd rfl
    obtain ⟨mA, hns, _⟩ := exd_at I1.hok ed
    obtain ⟨od, _, _, hod, _, _⟩ := hns
    exact fin (od := some od) ⟨ho, rfl, rfl, hod⟩
end My
namespace My
open PySem PySem.Calls PySem.Spec PyProof.Rows L2
abbrev sMErr : Stmt := top 1 /-MetronetError-/
abbrev sEInit : Stmt := inClass sMErr 0 /-MetronetError.__init__-/
/-- the frame of a def that holds the cell of its class -/
def cxX (CX : CXT) (P : Program) (w : World) (K : PySem.W.Frag) (mg : Str → Option Value) (base : Heap) (N : List Str) (qual : Str) (scope : Scope) (f : Addr) (cd : Value) (cc : Addr) (A : Around) (outer : List Env) (s : Shared) (H : Hp) (E : XK) : Cx where
  prog := P
  w := w
  K := K
  mg := mg
  base := base
  A := A.deeper (PySem.W.ksEnv qual scope s.heap.objs.size f cd cc)
  N := N
  s_0 := s
  H_0 := H
  env := PySem.W.ksEnv qual scope s.heap.objs.size f cd cc
  outer := outer
  stack := PySem.W.ksEnv qual scope s.heap.objs.size f cd cc :: outer
  ex := []
  calm := true
  fn := fun _ => false
  pn := []
  xe := fun e s' => wpAny (model P w) (A.deeper (PySem.W.ksEnv qual scope s.heap.objs.size f cd cc)) (leaving (PySem.W.ksEnv qual scope s.heap.objs.size f cd cc) e) (fun _ s'' => CX outer H s E e s'') (fun e' s'' => CX outer H s E e' s'') s'
theorem one_cell {cc c : Addr} {x : Str} (h : List.lookup x [(("__class__" : Str), cc)] = some c) : x = "__class__" ∧ c = cc := by
  simp only [List.lookup] at h
  cases e : (x == ("__class__" : Str)) with
  | true => rw [e] at h; exact ⟨by simpa using e, (Option.some.inj h).symm⟩
  | false => rw [e] at h; cases h
theorem inv_startX {CX : CXT} {P : Program} {w : World} {K : PySem.W.Frag} {mg : Str → Option Value} {base : Heap} {qual : Str} {scope : Scope} {f cc D : Addr} {cd : Value} {A : Around} {outer : List Env} {s : Shared} {H : Hp} {E : XK} {x0 x1 : Str} {u0 u1 : Value} {v0 v1 : V} {h1 : Heap} {t1 : Nat} {cl : Value} {cld : Option Addr} {csl : Array (Option Value)}
    (hd : A.handled = none) (e0 : Env0 P w K mg base A outer s H) (r0 : RelV v0 u0) (r1 : RelV v1 u1) (hk : scope.kind = .function) (hx0 : scope.names.lookup x0 = some .local) (hx1 : scope.names.lookup x1 = some .local) (hne : (x0 == x1) = false) (hne' : (x1 == x0) = false)
    (hnc : ∀ x ∈ scope.names, x.2 ≠ .cell) (hfr : ∀ x ∈ scope.names, x.2 = .free → x.1 = ("__class__" : Str)) (lc : K.lookup cc = some ⟨cl, cld, .cell (some (.ref D)), csl⟩)
    (hns : h1.Ns s.heap.objs.size (fun x => List.lookup x [(x1, u1), (x0, u0)])) (k : ∀ b o, s.heap.get? b = some o → h1.get? b = some o) :
    Inv (cxX CX P w K mg base [x0, x1] qual scope f cd cc A outer s H E) [] [some v0, some v1] H { s with heap := h1, toks := t1 } := by
  have KX : K.In s.heap := e0.mod.kin.keeps fun b o e => (e0.bs b o e).1
  have hcc : s.heap.get? cc = some ⟨cl, cld, .cell (some (.ref D)), csl⟩ := KX _ _ lc
  have noA : ∀ b : Addr, b ∉ (cxX CX P w K mg base [x0, x1] qual scope f cd cc A outer s H E).ex := fun b z => absurd (show b ∈ ([] : List Addr) from z) (by simp)
  refine ⟨⟨e0.mod, hk, rfl, rfl, Nat.le_refl _, fun y z c g1 g2 => ?_, fun y hy => ?_, fun y c g _ => absurd (show false = true from g) (by decide), fun _ => hd, Around.frames_deeper e0.frames, .inr ⟨rfl, rfl⟩, fun b z => absurd z (noA b), e0.bs, e0.bsz, fun b _ _ => noA b, fun b z => absurd z (noA b), e0.funs, e0.frf⟩,
    rfl, e0.bare, Un.kept k, ⟨_, hns, fun i y v g1 g2 g3 => ?_⟩, fun y c g => ?_, e0.hok.fresh (Nat.le_refl _), fun y c g => ?_, fun p hp => absurd (show p ∈ ([] : List (Addr × Obj)) from hp) (by simp), e0.hok.kept k, rfl⟩
  · exact (one_cell g1).1.trans (one_cell g2).1.symm
  · have hy : scope.names.lookup y = some .cell ∨ scope.names.lookup y = some .free := hy
    rcases hy with hy | hy
    · exact absurd rfl (hnc _ (PySem.mem_of_lookup hy))
    · obtain rfl : y = ("__class__" : Str) := hfr _ (PySem.mem_of_lookup hy) rfl
      exact ⟨cc, rfl⟩
  · match i with
    | 0 =>
      obtain rfl : x0 = y := Option.some.inj g1
      obtain rfl : v0 = v := Option.some.inj (Option.some.inj g2)
      exact ⟨u0, r0, .inl ⟨hx0, by show List.lookup x0 [(x1, u1), (x0, u0)] = some u0; simp [List.lookup, hne]⟩⟩
    | 1 =>
      obtain rfl : x1 = y := Option.some.inj g1
      obtain rfl : v1 = v := Option.some.inj (Option.some.inj g2)
      exact ⟨u1, r1, .inl ⟨hx1, by show List.lookup x1 [(x1, u1), (x0, u0)] = some u1; simp [List.lookup]⟩⟩
    | (n + 2) => exact absurd (show ([x0, x1] : List Str)[n + 2]? = some y from g1) (by simp)
  · obtain ⟨_, rfl⟩ := one_cell g
    exact ⟨_, _, k _ _ hcc, rfl⟩
  · obtain ⟨_, rfl⟩ := one_cell g
    exact (e0.bs _ _ (e0.mod.kin _ _ lc)).2
end My
namespace My
open PySem PySem.Calls PySem.Spec PyProof.Rows L2
/-- what stands about MetronetError (at D), its __init__ (at f, its cell at cc, its code at cda) and the class at C below it -/
structure ExcI (P : Program) (K : PySem.W.Frag) (mg : Str → Option Value) (C D f cc cda : Addr) (fd : FuncData) : Prop where
  ex : ∃ (oc : Value) (od : Option Addr) (kV doc pm ct : Value) (an : Option Addr) (osl : Array (Option Value)),
    fd = PySem.W.ksFn "__init__" "MetronetError.__init__" (defArgs sEInit) (defBody sEInit) (defScope sEInit) .none kV doc pm an (.ref cda) ct cc ∧ K.lookup f = some ⟨oc, od, .func fd, osl⟩
  cd : PySem.W.codeIn K (.ref cda) "MetronetError.__init__" = true
  cel : ∃ (cl : Value) (cld : Option Addr) (csl : Array (Option Value)), K.lookup cc = some ⟨cl, cld, .cell (some (.ref D)), csl⟩
  file : ∃ (ccl : Value) (cdd : Option Addr) (ccs : Array (Option Value)) (vs : Array Value) (file : Str) (tf : Tok), K.lookup cda = some ⟨ccl, cdd, .fields vs, ccs⟩ ∧ vs[2]? = some (.str file tf) ∧ ((P.main.file : Str) == file) = true
  dcl : ∃ cdD, PySem.W.clsIn K D = some cdD
  sub : PySem.W.mroIn K C (.ref D) = some true
  sui : PySem.W.ks_superIn K C D "__init__" = some (some (.builtin "ValueError.__init__"))
  veC : PySem.W.subIn K (.ref C) (.type "ValueError") = some true
  top : (P.main.scope.names.lookup ("super" : Str)).isSome = false
  nos : mg "super" = none
  ocl : OexC K C
  ecl : L2.ExcC K C
  ncl : NameC K C "InvalidText"
  nopl : PySem.W.findIn K (.ref C) "place" = some none
  nonm : PySem.W.findIn K (.ref C) "name" = some none
/-- the promise of MetronetError.__init__ at C -/
def spEI (C : Addr) : Sp := fun vs H Q _ => ∃ (a : Addr) (n : Int), vs = [.ref a, .int n] ∧ n.natAbs.log2 < 1920 ∧ (Str.empty ++ ("wrong at " : Str) ++ (toString n : Str)).length ≤ sizeLine ∧ H a = some (exo a C none) ∧
  ∀ d, H d = none → d ≠ a → Q .non (upd (upd (upd H d (exd d [("place", .int n)])) a (exo a C (some d))) d (exd d [("name", .str "InvalidText"), ("place", .int n)]))
section
open PySem.W
variable {P : Program} {w : World} {K : PySem.W.Frag} {mg : Str → Option Value} {base : Heap} {C D f cc cda : Addr} {fd : FuncData}
theorem super_boot : bootBuiltins "super" = some (.type "super") := by decide +kernel
/-- the built-in __init__, bound to the exception that is made -/
theorem mw_call {X : Cx} {pins : List (Addr × Obj)} {σ : L2.St} {H : Hp} {s : Shared} {u a C : Addr} {us : List Value} {Q : Value → Shared → Prop} {A : Around} {E : Value → Shared → Prop} (T : OexC X.K C) (I : Inv X pins σ H s) (hu : s.heap.get? u = some (kxs_mw "ValueError.__init__" a)) (e : H a = some (exo a C none)) (hl : us.length ≤ sizeLine)
    (h : ∀ s', Inv X pins σ H s' → Q .none s') : wpAny (model X.prog X.w) A (call (.ref u) us) Q E s := by
  have hcl := T.cls
  obtain ⟨_, _, _, _, bm, _, _, _, _, _, _, _, _, _, _, hC, _⟩ := hcl
  have hex := exo_at I.hok e
  obtain ⟨tup, ho⟩ := hex
  obtain ⟨hp, g, d, t, os⟩ := s
  have same : upd H a (exo a C none) = H := funext fun b => by
    by_cases z : b = a
    · subst z; rw [upd_same, e]
    · exact upd_ne z
  have fin : ∀ (G : Heap) (t2 : Addr), (∀ b o, b ≠ a → hp.get? b = some o → G.get? b = some o) → G.get? a = some ({ cls := .ref C, dict := none, data := .fields #[.ref t2, .none, .none, .none, .bool false, .none] } : Obj) → Q .none ⟨G, g, d, t, os⟩ := fun G t2 keep hx =>
    h _ (same ▸ Inv.write (x := a) (e := a) (o := exo a C none) (t' := t) I (by rw [e]; trivial) (Or.inl rfl) keep ⟨_, hx⟩ (exo_ok hx))
  have FB := F.excBase_ValueError
  refine wpAny_call ?_
  apply codeAny_of_tree
  have hK := I.kIn _ _ hC
  repeat (first | (with_reducible refine wpAny_load hu ?_) | ((with_reducible show wpAny _ _ (checkBoundCall _ _) _ _ _); refine check_bound_init FB.toExcCallFacts hK ho rfl ?_) | wp_step)
  exact ⟨plainId_quiet FB.init.plain _, codeAny_builtin FB.initEntry (exc_init_tree (cls := .ref C) (t0 := tup) (dv := none) (c2 := .none) (c3 := .none) (b4 := .bool false) ho hl fun G keep hx _ => fin G _ keep hx)⟩
theorem ok_einit {CX : CXT} {k : Nat} (c : ExcI P K mg C D f cc cda fd) : FnOk P w K mg base CX (k + 1) f fd ["self", "place"] (spEI C) := by
  obtain ⟨oc, od, kV, doc, pm, ct, an, osl, rfl, lk⟩ := c.ex
  obtain ⟨cl, cld, csl, lc⟩ := c.cel
  obtain ⟨ccl, cdd, ccs, vs0, file, tf, lcd, hvs, hfile⟩ := c.file
  obtain ⟨cdD, hD⟩ := c.dcl
  refine ⟨fun vs H Q E h => by obtain ⟨a, n, rfl, _⟩ := h; rfl, fun A outer s H args us vs Q E hr e0 hb r hsp => ?_⟩
  obtain ⟨a, n, rfl, hn, hz, ha, q⟩ := hsp
  have old : ∀ b o, base.get? b = some o → s.heap.get? b = some o := fun b o z => (e0.bs b o z).1
  have KX : K.In s.heap := e0.mod.kin.keeps old
  have lim : s.heap.NoLimit := e0.mod.nolimit.keeps old
  cases r with
  | @cons _ u0 _ ur r0 rr =>
  cases rr with
  | @cons _ u1 _ ur r1 rr =>
  cases rr
  obtain rfl : u0 = Value.ref a := r0
  have hcell : ∀ x ∈ (defScope sEInit).names, x.2 ≠ .cell := by decide +kernel
  refine ks_codeAny_call_defAt (body := defBody sEInit) hr.depth (KX _ _ lk) rfl lim (PySem.W.codeRec_of KX c.cd) rfl hb hcell (PyProof.Rows.locs rfl) (fun h1 hns hk1 => ?_) rfl rfl rfl
  have I : Inv (cxX CX P w K mg base ["self", "place"] "MetronetError.__init__" (defScope sEInit) f (.ref cda) cc A outer s H E) [] [some (.ref a), some (.int n)] H { s with heap := h1, toks := s.toks + 2 } :=
    inv_startX hr.hd e0 rfl r1 rfl (by rfl) (by rfl) (by decide) (by decide) (by decide +kernel) (by decide +kernel) lc hns hk1
  -- the two stores behind super().__init__
  have KX1 : K.In h1 := KX.keeps hk1
  have rest : ∀ s', Inv (cxX CX P w K mg base ["self", "place"] "MetronetError.__init__" (defScope sEInit) f (.ref cda) cc A outer s H E) [] [some (.ref a), some (.int n)] H s' →
      wpAny (model P w) (A.deeper (PySem.W.ksEnv "MetronetError.__init__" (defScope sEInit) s.heap.objs.size f (.ref cda) cc)) (execs ((defBody sEInit).drop 1) (PySem.W.ksEnv "MetronetError.__init__" (defScope sEInit) s.heap.objs.size f (.ref cda) cc))
        (fun fl s' => CR CX outer P w H s Q E (.ok (.ret (match fl with | .ret v => v | _ => .none))) s') (cxX CX P w K mg base ["self", "place"] "MetronetError.__init__" (defScope sEInit) f (.ref cda) cc A outer s H E).xe s' := fun s' J => by
    have ht : PSs (cxX CX P w K mg base ["self", "place"] "MetronetError.__init__" (defScope sEInit) f (.ref cda) cc A outer s H E) ((defBody sEInit).drop 1) _ :=
      pss_cons (ps_ost (pe_var (i := 0) rfl (.inl rfl)) (pe_var (i := 1) rfl (.inl rfl))) (pss_one (ps_ost (pe_var (i := 0) rfl (.inl rfl)) (pe_cn (C := C) (n := "InvalidText") c.ecl c.ncl (pe_var (i := 0) rfl (.inl rfl)))))
    refine thn (ht.run [] s' _ H { nx := fun _ H' => Q .non H', rt := Q } J ?_) fun fl s2 hs => ?_
    · refine ⟨_, rfl, _, rfl, a, C, rfl, c.ocl, c.nopl, .inl ⟨ha, fun d nd ne => ?_⟩⟩
      have ed : (upd (upd H d (exd d [(("place" : Str), V.int n)])) a (exo a C (some d))) d = some (exd d [("place", .int n)]) := by rw [upd_ne ne, upd_same]
      refine ⟨_, rfl, a, some d, rfl, upd_same, (fun dd z => by cases z; exact ⟨_, ed⟩), _, rfl, a, C, rfl, c.ocl, c.nonm, .inr ⟨d, _, upd_same, ed, (by show 1 ≤ 900; decide), q d nd ne⟩⟩
    · have fin : ∀ {σ' : L2.St} {H' : Hp} {v : V} {u : Value}, Inv (cxX CX P w K mg base ["self", "place"] "MetronetError.__init__" (defScope sEInit) f (.ref cda) cc A outer s H E) [] σ' H' s2 → RelV v u → Q v H' → CE outer P w H s Q u s2 :=
        fun {σ' H' v u} J rv q => ⟨v, H', J.os, J.bare, J.base, J.hok, rv, q⟩
      cases fl with
      | ret u =>
        obtain ⟨v, σ', H', J, rv, q⟩ := hs
        exact fin J rv q
      | next =>
        obtain ⟨σ', H', J, q⟩ := hs
        exact fin (v := V.non) (u := Value.none) J rfl q
      | brk =>
        obtain ⟨_, _, _, q⟩ := hs
        exact False.elim q
      | cont =>
        obtain ⟨_, _, _, q⟩ := hs
        exact False.elim q
  obtain ⟨t1, ho⟩ := exo_at I.hok ha
  have hD' : ∃ oD, h1.get? D = some oD ∧ oD.data = .cls cdD := by
    unfold clsIn at hD
    split at hD
    · rename_i c' d' cd' sl' ho'
      cases hD
      exact ⟨_, KX1 _ _ ho', rfl⟩
    · cases hD
  obtain ⟨oD, hD1, hD2⟩ := hD'
  refine ks_wpAt_execs_cons (rest := (defBody sEInit).drop 1) (ks_wpAt_Expr_any (ks_wpAt_MethodCall ?_))
  refine ks_wpAt_super_base (env := ksEnv "MetronetError.__init__" (defScope sEInit) s.heap.objs.size f (.ref cda) cc) (by rfl) (by rfl) (by decide) rfl (KX1 _ _ lk) rfl (by rfl) rfl (KX1 _ _ lcd) rfl hvs hfile c.top ?_
  have up1 : ∀ b o, base.get? b = some o → h1.get? b = some o := fun b o e => hk1 b o (e0.bs b o e).1
  obtain ⟨mb, hmb, hbt⟩ := e0.mod.blt
  refine ks_loadName_global (env := ksEnv "MetronetError.__init__" (defScope sEInit) s.heap.objs.size f (.ref cda) cc) rfl (by rfl) (loadGlobal_builtin (env := ksEnv "MetronetError.__init__" (defScope sEInit) s.heap.objs.size f (.ref cda) cc) (e0.mod.glob.keeps up1) c.nos (hmb.keeps up1) ((hbt _ (by decide)).trans super_boot) ⟨rfl, ?_⟩)
  refine wpAny_loadName_free rfl (by rfl) rfl ⟨_, KX1 _ _ lc, rfl⟩ ?_
  refine wpAny_loadName_local (v := .ref a) rfl (by rfl) hns (by rfl) ?_
  refine ks_wpAny_isType_cls hD1 hD2 ⟨rfl, ?_⟩
  refine ks_wpAny_call_super hD1 hD2 ho rfl (fun c e => by cases e) (looks_mroIn KX1 c.sub) (fun h2 e2 k2 => ?_)
  have I2 : Inv (cxX CX P w K mg base ["self", "place"] "MetronetError.__init__" (defScope sEInit) f (.ref cda) cc A outer s H E) [] [some (.ref a), some (.int n)] H { s with heap := h2, toks := s.toks + 2 } := I.kept k2
  have KX2 : K.In h2 := KX1.keeps k2
  obtain ⟨nm, qn, N, bs, bm, sn, sub, ab, col, dd, k0, k1', k2', k3, k5, hC, hbm⟩ := c.ocl.cls
  have hcl : PySem.W.clsIn K C = some { name := nm, bases := bs, mro := .ref C :: bm, ns := N, qualname := qn, hasDict := true, slotNames := sn, subclasses := sub, abstract := ab, collection := col, hasDel := false } := by unfold PySem.W.clsIn; rw [hC] <;> rfl
  have hsu := c.sui
  unfold ks_superIn at hsu
  rw [hcl] at hsu
  have hmr : PySem.W.Looks (model P w) h2 (mroOf (.ref C)) (.ref C :: bm) := (looks_clsIn KX2 hcl).andThen .now
  have J2 : PySem.W.InstAt h2 a { cls := .ref C, dict := none, data := .fields #[.ref t1, .none, .none, .none, .bool false, .none] } C none := ⟨k2 _ _ ho, rfl, rfl, trivial⟩
  have hI : PySem.W.Looks (model P w) h2 (isInstance (.ref a) (.type "ValueError")) true := J2.type.andThen (looks_subIn KX2 c.veC)
  have hxC : a ≠ C := fun z => by
    have y := (e0.bs _ _ (e0.mod.kin _ _ hC)).2
    rw [← z, ha] at y
    cases y
  refine kxs_getMethod kxs_ValueError e2 (looks_opaque KX2 c.ncl.no) (l₀ := .ref C :: bm) hmr rfl KX2 hsu hI hxC (by decide) ?_
  have I3 : Inv (cxX CX P w K mg base ["self", "place"] "MetronetError.__init__" (defScope sEInit) f (.ref cda) cc A outer s H E) [(h2.objs.size, kxs_mw "ValueError.__init__" a)] [some (.ref a), some (.int n)] H { s with heap := h2.push (kxs_mw "ValueError.__init__" a), toks := s.toks + 2 + 1 } := by
    refine Inv.pins_of (I2.kept (t' := s.toks + 2 + 1) fun b o e => Heap.get?_push_of_some _ e) fun p hp => ?_
    have hp' : p = (h2.objs.size, kxs_mw "ValueError.__init__" a) := by simpa [cxX] using hp
    subst hp'
    exact ⟨Heap.get?_push_size _ rfl, I2.hok.fresh (Nat.le_refl _), (Nat.ne_of_lt I2.lt).symm, I2.nofs (Nat.le_refl _), fun v z => by cases z⟩
  refine kxs_callWith (i := "ValueError.__init__") (x := a) (by rfl) (evalArgs_plain ?_)
  have hpa : PA (cxX CX P w K mg base ["self", "place"] "MetronetError.__init__" (defScope sEInit) f (.ref cda) cc A outer s H E) (match (defBody sEInit) with | .Expr (.Call _ es _ _) _ :: _ => es | _ => []) _ :=
    pa_cons (pe_joined (.cons pe_str (.cons (pe_fmt (pe_var (i := 1) rfl (.inl rfl))) .nil))) pa_nil
  refine thn (hpa.run _ [(h2.objs.size, kxs_mw "ValueError.__init__" a)] _ [some (.ref a), some (.int n)] H (fun vs H' => vs.length ≤ 1 ∧ H' = H) I3 ?_) fun us s3 hus => ?_
  · refine ⟨_, rfl, (by show (Str.empty ++ ("wrong at " : Str)).length ≤ sizeLine; rw [sizeLine_eq]; decide), _, rfl, .inr ⟨n, rfl, hn, _, rfl, hz, ?_⟩⟩
    exact ⟨Nat.le_refl _, rfl⟩
  · obtain ⟨vs3, H3, J3, r3, hl3, rfl⟩ := hus
    have hu := (J3.pin _ (List.mem_append_right _ (List.mem_singleton.mpr rfl))).1
    refine ⟨hu, ?_⟩
    refine mw_call c.ocl J3 hu ha (by show us.length ≤ sizeLine; rw [← r3.length, sizeLine_eq]; omega) fun s4 J4 => ?_
    exact wpAt_of_wpAny (rest s4 J4.unpinned)
end
end My
namespace My
open PySem PySem.Spec PyProof.Rows L2
section
variable {P : Program} {w : World} {K : PySem.W.Frag} {mg : Str → Option Value} {base : Heap}
/-- InvalidText(place) may be made -/
structure MkE (P : Program) (w : World) (K : PySem.W.Frag) (mg : Str → Option Value) (base : Heap) (CE f : Addr) (fd : FuncData) : Prop where
  ok : FnOk P w K mg base (L2.CX P w) 1 f fd ["self", "place"] (spEI CE)
  oc : OexC K CE
  ini : PySem.W.findIn K (.ref CE) "__init__" = some (some (.ref f))
  tyf : PySem.W.typeIn K (.ref f) = some (.type "function")
  b : Binds K fd ["self", "place"] []
  mg : mg "InvalidText" = some (.ref CE)
theorem wrong_len {n : Nat} (h : n ≤ 2000) : (Str.empty ++ ("wrong at " : Str) ++ (toString (n : Int) : Str)).length ≤ sizeLine := by
  have h1 := TL.numL_len (n := n) (k := 4) (by decide) (by omega)
  have h2 : (TL.tl Str.empty).length = 0 := by decide +kernel
  have h3 : (TL.tl ("wrong at " : Str)).length = 9 := by decide +kernel
  rw [TL.len_tl, TL.tl_append, TL.tl_append, List.length_append, List.length_append, TL.tl_num, h2, h3, sizeLine_eq]
  omega
theorem ok_check1 {f fI C CE : Addr} {fd fdI : FuncData} {k : Nat} (F : Fun K "check" "Reader.check" sCheck f fd) (c : RdC K C) (G : MkE P w K mg base CE fI fdI) : FnOk P w K mg base (L2.CX P w) (k + 3) f fd ["self", "holds"] (spCheck C true CE) := by
  refine F.okX scCheck (fun vs H Q E h => ?_) (fun cdv A0 outer s0 H vs Q E hr h => ?_)
  · obtain ⟨p, dx, fs, n, b, rfl, _⟩ := h
    rfl
  · obtain ⟨p, dx, fs, n, b, rfl, hp, hl, q1, q2⟩ := h
    have nd := scCheck.nd
    have hr2 : Room 2 _ := hr.mono (by omega)
    refine ⟨_, pss_one (ps_if (pt_not (pt_val (pv 1))) (pss_one ((ps_raise rfl (takes_of rfl rfl rfl rfl) (pmk_oex G.oc G.ini G.tyf G.ok hr2 G.b .nil (passE ((takes_of rfl rfl rfl rfl).imp fun _ _ _ _ h => h.elim)) (by rfl) G.mg (pa_cons (pe_fld (pv 0) rfl) pa_nil))))) (pss_nil)), ?_⟩
    cases b with
    | true =>
      exact ⟨_, rfl, _, rfl, iteF (q1 rfl)⟩
    | false =>
      obtain ⟨_, n2, q⟩ := q2 rfl
      refine ⟨_, rfl, _, rfl, iteT ?_⟩
      refine ⟨_, rfl, p, C, dx, _, _, rfl, hp, c.cl, c.n1, hl, (by show 1 ≤ 1000; decide), fun a na => ?_⟩
      refine ⟨a, (n : Int), rfl, ?_, wrong_len n2, upd_same, fun d nd ne => ?_⟩
      · rw [Int.natAbs_natCast]
        by_cases z : n = 0
        · rw [z]; decide
        · exact Nat.lt_of_lt_of_le ((Nat.log2_lt z).mpr (by omega : n < 2 ^ 11)) (by decide)
      · refine ⟨rfl, d, _, ?_, upd_same, ?_, ?_⟩
        · rw [upd_ne (Ne.symm ne), upd_same]
        · rw [upd_ne ne] at nd; exact nd
        · exact q _ _ _ upd_same rfl rfl
end
end My
namespace My
open PySem PySem.Spec PyProof.Rows L2
abbrev sRows : Stmt := top 17 /-_law_rows-/
abbrev sWord : Stmt := top 18 /-_law_word-/
/-- a row of at most n ASCII signs without a line feed -/
structure Rw (n : Nat) (r : Str) : Prop where
  as : Asc r
  nl : 10 ∉ TL.tl r
  ln : r.length ≤ n
theorem Rw.app {m n : Nat} {a b : Str} (h : Rw m a) (g : Rw n b) : Rw (m + n) (a ++ b) := by
  refine ⟨fun c hc => ?_, fun hc => ?_, jl h.ln g.ln⟩
  · rw [TL.tl_append] at hc
    exact (List.mem_append.mp hc).elim (h.as c) (g.as c)
  · rw [TL.tl_append] at hc
    exact (List.mem_append.mp hc).elim h.nl g.nl
theorem Rw.mono {m n : Nat} {a : Str} (h : Rw m a) (z : m ≤ n) : Rw n a := ⟨h.as, h.nl, Nat.le_trans h.ln z⟩
def rwB (n : Nat) (r : Str) : Bool := ((TL.tl r).all fun c => decide (c < 128) && !decide (c = 10)) && decide (r.length ≤ n)
theorem rw_lit {n : Nat} {r : Str} (h : rwB n r = true) : Rw n r := by
  unfold rwB at h
  rw [Bool.and_eq_true, List.all_eq_true, decide_eq_true_eq] at h
  refine ⟨fun c hc => ?_, fun hc => ?_, h.2⟩
  · have := h.1 c hc
    rw [Bool.and_eq_true, decide_eq_true_eq] at this
    exact this.1
  · have := h.1 10 hc
    exact absurd this (by decide)
theorem rw_num {i : Int} (h0 : 0 ≤ i) (h1 : i < 10 ^ 10) : Rw 10 (numT i) := by
  have hd : ∀ c ∈ TL.tl (numT i), 48 ≤ c ∧ c ≤ 57 := fun c hc => by
    rw [numT_tl h0] at hc
    exact TL.numL_digits _ _ hc
  exact ⟨fun c hc => by have := hd c hc; omega, fun hc => by have := hd 10 hc; omega, num_len h0 h1⟩
theorem addz {m n : Nat} {a b : Str} (h : Rw m a) (g : Rw n b) (z : m + n ≤ 100000 := by decide) : a.length + b.length ≤ sizeLine := sz (Nat.le_trans (Nat.add_le_add h.ln g.ln) z)
/-- a list of rows -/
def Rws (n : Nat) (R : List Str) : Prop := ∀ r ∈ R, Rw n r
theorem Rws.app {n : Nat} {R S : List Str} (h : Rws n R) (g : Rws n S) : Rws n (R ++ S) := fun r hr => (List.mem_append.mp hr).elim (h r) (g r)
theorem rws_one {n : Nat} {r : Str} (h : Rw n r) : Rws n [r] := fun x hx => by rw [List.mem_singleton.mp hx]; exact h
theorem rws_lit {n : Nat} {R : List Str} (h : (R.all (rwB n)) = true) : Rws n R := fun r hr => rw_lit (List.all_eq_true.mp h r hr)
section
variable {P : Program} {w : World} {K : PySem.W.Frag} {mg : Str → Option Value} {base : Heap}
theorem scRows : FnScope ["numbers", "rows", "kinds"] ["numbers"] (defScope sRows) := ⟨rfl, rfl, rfl, by decide +kernel, rfl, by decide +kernel, by decide +kernel⟩
def spRows : Sp := fun vs H Q _ => ∃ (a : Addr) (ns : List Int), vs = [.ref a] ∧ H a = some (.lst (ns.map V.int)) ∧ ns.length = 5 ∧
  ∀ (H' : Hp) (p : Addr) (R : List Str), Same H H' → H p = none → H' p = some (.lst (R.map V.str)) → R ≠ [] → R.length ≤ 10 → Rws 40 R → Q (.ref p) H'
theorem ok_rows {f : Addr} {fd : FuncData} {k : Nat} (F : Fun K "_law_rows" "_law_rows" sRows f fd) (T : Blt mg) (hstr : mg "str" = none) : FnOk P w K mg base CX0 (k + 1) f fd ["numbers"] spRows := by
  refine F.ok scRows (fun vs H Q E h => ?_) (fun cdv A outer s H vs Q E hr h => ?_)
  · obtain ⟨a, ns, rfl, _⟩ := h
    rfl
  · obtain ⟨a, ns, rfl, ha, ln, q⟩ := h
    have nd := scRows.nd
    refine ⟨_, pss_cons (ps_set (i := 1) nd rfl (.inl rfl) (pe_lst (pa_cons (pe_op op_add_str (pe_op op_add_str (pe_op op_add_str pe_str (pe_callTy call_str_int (by rfl) hstr (by decide +kernel) (pa_cons (pe_op op_mod (pe_ix ix_list (pv 0) pe_int (fun _ _ => rfl)) pe_int) pa_nil))) pe_str) (pe_callTy call_str_int (by rfl) hstr (by decide +kernel) (pa_cons (pe_op op_mod (pe_ix ix_list (pv 0) pe_int (fun _ _ => rfl)) pe_int) pa_nil))) pa_nil))) <| pss_cons (ps_set (i := 2) nd rfl (.inl rfl) (pe_ix ix_list (pe_lst (pa_cons (pe_lst (pa_cons pe_str (pa_cons pe_str (pa_cons pe_str (pa_cons pe_str pa_nil))))) (pa_cons (pe_lst (pa_cons pe_str (pa_cons pe_str pa_nil))) (pa_cons (pe_lst (pa_cons pe_str (pa_cons pe_str (pa_cons pe_str (pa_cons pe_str pa_nil))))) pa_nil)))) (pe_op op_mod (pe_ix ix_list (pv 0) pe_int (fun _ _ => rfl)) pe_int) (fun _ _ => rfl))) <| pss_cons (ps_set (i := 1) nd rfl (.inl rfl) (pe_op op_cat (pv 1) (pv 2))) <| pss_cons (ps_if (pt_cmpR op_eq (pe_callB call_len_seq (by rfl) T.len PySem.boot_len (pa_cons (pv 2) pa_nil)) pe_int (nomark _)) (pss_cons (ps_expr (pe_bm PySem.F.plainAttrs_list PySem.F.slot_list_append PySem.F.type_list_append mt_append (pv 1) (pa_cons (pe_op op_add_str pe_str (pe_callTy call_str_int (by rfl) hstr (by decide +kernel) (pa_cons (pe_op op_mod (pe_ix ix_list (pv 0) pe_int (fun _ _ => rfl)) pe_int) pa_nil))) pa_nil))) <| pss_cons (ps_expr (pe_bm PySem.F.plainAttrs_list PySem.F.slot_list_append PySem.F.type_list_append mt_append (pv 1) (pa_cons (pe_op op_add_str pe_str (pe_callTy call_str_int (by rfl) hstr (by decide +kernel) (pa_cons (pe_op op_mod (pe_ix ix_list (pv 0) pe_int (fun _ _ => rfl)) pe_int) pa_nil))) pa_nil))) <| pss_one (ps_ret (pv 1))) (pss_nil)) <| pss_cons (ps_if (pt_cmpR op_eq (pe_ix ix_list (pv 2) pe_int (fun _ _ => rfl)) pe_str (nomark _)) (pss_cons (ps_set (i := 1) nd rfl (.inl rfl) (pe_op op_cat (pv 1) (pe_lst (pa_cons pe_str (pa_cons (pe_op op_add_str pe_str (pe_callTy call_str_int (by rfl) hstr (by decide +kernel) (pa_cons (pe_op op_mod (pe_ix ix_list (pv 0) pe_int (fun _ _ => rfl)) pe_int) pa_nil))) (pa_cons pe_str pa_nil)))))) <| pss_cons (ps_expr (pe_bm PySem.F.plainAttrs_list PySem.F.slot_list_append PySem.F.type_list_append mt_append (pv 1) (pa_cons (pe_op op_add_str (pe_op op_add_str pe_str (pe_callTy call_str_int (by rfl) hstr (by decide +kernel) (pa_cons (pe_op op_add pe_int (pe_op op_mod (pe_ix ix_list (pv 0) pe_int (fun _ _ => rfl)) pe_int)) pa_nil))) pe_str) pa_nil))) <| pss_one (ps_ret (pe_op op_cat (pv 1) (pe_lst (pa_cons pe_str pa_nil))))) (pss_nil)) <| pss_one (ps_ret (pe_op op_cat (pv 1) (pe_lst (pa_cons pe_str (pa_cons pe_str (pa_cons pe_str (pa_cons pe_str pa_nil))))))), ?_⟩
    have md : ∀ (j : Nat) (m : Int), 0 < m → 0 ≤ ns.getD j 0 % m ∧ ns.getD j 0 % m < m := fun j m h => ⟨Int.emod_nonneg _ (by omega), Int.emod_lt_of_pos _ h⟩
    have a0 := md 0 11 (by decide)
    have a1 := md 1 6 (by decide)
    have a2 := md 2 3 (by decide)
    have a3 := md 3 21 (by decide)
    have a4 := md 4 501 (by decide)
    have a5 := md 4 10 (by decide)
    have n0 : Rw 10 (Str.ofString (toString (ns.getD 0 0 % 11))) := rw_num a0.1 (by omega)
    have n1 : Rw 10 (Str.ofString (toString (ns.getD 1 0 % 6))) := rw_num a1.1 (by omega)
    have n3 : Rw 10 (Str.ofString (toString (ns.getD 3 0 % 21))) := rw_num a3.1 (by omega)
    have n4 : Rw 10 (Str.ofString (toString (ns.getD 4 0 % 501))) := rw_num a4.1 (by omega)
    have n5 : Rw 10 (Str.ofString (toString (1 + ns.getD 4 0 % 10))) := rw_num (by omega) (by omega)
    have t0 : Rw 10 ("net " : Str) := rw_lit (by decide +kernel)
    have t1 : Rw 10 (" " : Str) := rw_lit (by decide +kernel)
    have t2 : Rw 10 ("line 2 1 " : Str) := rw_lit (by decide +kernel)
    have t3 : Rw 10 ("stream 10 " : Str) := rw_lit (by decide +kernel)
    have t4 : Rw 20 (" 40 0,1,2 0,12" : Str) := rw_lit (by decide +kernel)
    have t5 : Rw 10 ("line 0 1 " : Str) := rw_lit (by decide +kernel)
    have t6 : Rw 30 ("stream 60 1 300 0,1 " : Str) := rw_lit (by decide +kernel)
    -- rows
    refine ⟨_, rfl, a, _, _, _, rfl, rfl, SqL.of ha, atI_ints (j := 0) rfl (by omega), _, _, rfl, rfl, (by show (0 : Int) < 11; decide), _, rfl, num_log a0.1 (by omega), _, _, rfl, rfl, addz t0 n0, _, _, rfl, rfl, addz (t0.app n0) t1, ?_⟩
    refine ⟨_, rfl, a, _, _, _, rfl, rfl, SqL.of ha, atI_ints (j := 1) rfl (by omega), _, _, rfl, rfl, (by show (0 : Int) < 6; decide), _, rfl, num_log a1.1 (by omega), _, _, rfl, rfl, addz ((t0.app n0).app t1) n1, ?_⟩
    have r0 : Rw 40 ((((("net " : Str) ++ Str.ofString (toString (ns.getD 0 0 % 11))) ++ (" " : Str)) ++ Str.ofString (toString (ns.getD 1 0 % 6)))) := ((t0.app n0).app t1).app n1
    generalize ((((("net " : Str) ++ Str.ofString (toString (ns.getD 0 0 % 11))) ++ (" " : Str)) ++ Str.ofString (toString (ns.getD 1 0 % 6)))) = R0 at r0 ⊢
    refine ⟨by show 1 ≤ sizeLine; decide, fun p0 np0 => ?_⟩
    have s1 := same_new (o := .lst [V.str R0]) np0
    have h1 : (upd H p0 (.lst [V.str R0])) p0 = some (.lst [V.str R0]) := upd_same
    generalize upd H p0 (.lst [V.str R0]) = H1 at s1 h1 ⊢
    -- kinds
    refine ⟨by show 4 ≤ sizeLine; decide, fun u1 nu1 => ⟨by show 2 ≤ sizeLine; decide, fun u2 nu2 => ⟨by show 4 ≤ sizeLine; decide, fun u3 nu3 => ⟨by show 3 ≤ sizeLine; decide, fun u4 nu4 => ?_⟩⟩⟩⟩
    have su1 := same_new (o := .lst [V.str "host", V.str "switch", V.str "host", V.str "host"]) nu1
    have hu1 : (upd H1 u1 (.lst [V.str "host", V.str "switch", V.str "host", V.str "host"])) u1 = some (.lst ([("host" : Str), "switch", "host", "host"].map V.str)) := upd_same
    generalize upd H1 u1 (.lst [V.str "host", V.str "switch", V.str "host", V.str "host"]) = H2 at su1 hu1 nu2 nu3 nu4 ⊢
    have su2 := same_new (o := .lst [V.str "host", V.str "host"]) nu2
    have hu2 : (upd H2 u2 (.lst [V.str "host", V.str "host"])) u2 = some (.lst ([("host" : Str), "host"].map V.str)) := upd_same
    generalize upd H2 u2 (.lst [V.str "host", V.str "host"]) = H3 at su2 hu2 nu3 nu4 ⊢
    have su3 := same_new (o := .lst [V.str "switch", V.str "host", V.str "switch", V.str "host"]) nu3
    have hu3 : (upd H3 u3 (.lst [V.str "switch", V.str "host", V.str "switch", V.str "host"])) u3 = some (.lst ([("switch" : Str), "host", "switch", "host"].map V.str)) := upd_same
    generalize upd H3 u3 (.lst [V.str "switch", V.str "host", V.str "switch", V.str "host"]) = H4 at su3 hu3 nu4 ⊢
    have su4 := same_new (o := .lst [V.ref u1, V.ref u2, V.ref u3]) nu4
    have hu4 : (upd H4 u4 (.lst [V.ref u1, V.ref u2, V.ref u3])) u4 = some (.lst [V.ref u1, V.ref u2, V.ref u3]) := upd_same
    generalize upd H4 u4 (.lst [V.ref u1, V.ref u2, V.ref u3]) = H5 at su4 hu4 ⊢
    have S14 := (su1.trans su2).trans (su3.trans su4)
    have S := s1.trans S14
    have h0 := S14 _ _ h1
    have k1 := (su2.trans (su3.trans su4)) _ _ hu1
    have k2 := (su3.trans su4) _ _ hu2
    have k3 := su4 _ _ hu3
    have haS := S _ _ ha
    refine ⟨_, rfl, a, _, _, _, rfl, rfl, SqL.of haS, atI_ints (j := 2) rfl (by omega), _, _, rfl, rfl, (by show (0 : Int) < 3; decide), ?_⟩
    have cs : ns.getD 2 0 % 3 = 0 ∨ ns.getD 2 0 % 3 = 1 ∨ ns.getD 2 0 % 3 = 2 := by omega
    rcases cs with z | z | z
    · refine ⟨u4, _, _, _, rfl, rfl, SqL.of hu4, (by rw [z]; rfl : atI _ _ = some (V.ref u1)), ?_⟩
      refine ⟨_, rfl, _, rfl, p0, u1, _, _, rfl, rfl, h0, k1, (by show 1 + 4 ≤ sizeLine; decide), fun u6 nu6 => ?_⟩
      have su6 := same_new (o := .lst ([V.str R0] ++ [("host" : Str), "switch", "host", "host"].map V.str)) nu6
      have hu6 : (upd H5 u6 (.lst ([V.str R0] ++ [("host" : Str), "switch", "host", "host"].map V.str))) u6 = some (.lst ([R0, "host", "switch", "host", "host"].map V.str)) := upd_same
      generalize upd H5 u6 (.lst ([V.str R0] ++ [("host" : Str), "switch", "host", "host"].map V.str)) = H6 at su6 hu6 ⊢
      have k16 := su6 _ _ k1
      refine ⟨_, rfl, u1, _, rfl, .inl (SqL.of k16), rfl, _, rfl, ite2 (fun e => absurd e (by decide)) fun _ => ?_⟩
      refine ⟨_, rfl, u1, _, _, _, rfl, rfl, SqL.of k16, (rfl : atI _ _ = some (V.str "host")), rfl, _, rfl, ite2 (fun _ => ?_) (fun e => absurd (by decide +kernel) e)⟩
      -- the lines
      have ha6 := su6 _ _ haS
      refine ⟨_, rfl, _, rfl, a, _, _, _, rfl, rfl, SqL.of ha6, atI_ints (j := 3) rfl (by omega), _, _, rfl, rfl, (by show (0 : Int) < 21; decide), _, rfl, num_log a3.1 (by omega), _, _, rfl, rfl, addz t2 n3, ?_⟩
      have r3 := t2.app n3
      generalize ("line 2 1 " : Str) ++ Str.ofString (toString (ns.getD 3 0 % 21)) = R3 at r3 ⊢
      refine ⟨by show 3 ≤ sizeLine; decide, fun v nv => ?_⟩
      have sv := same_new (o := .lst [V.str "line 0 1 3", V.str R3, V.str "line 1 3 0"]) nv
      have hv : (upd H6 v (.lst [V.str "line 0 1 3", V.str R3, V.str "line 1 3 0"])) v = some (.lst ([("line 0 1 3" : Str), R3, "line 1 3 0"].map V.str)) := upd_same
      generalize upd H6 v (.lst [V.str "line 0 1 3", V.str R3, V.str "line 1 3 0"]) = H7 at sv hv ⊢
      refine ⟨u6, v, _, _, rfl, rfl, sv _ _ hu6, hv, (by show 5 + 3 ≤ sizeLine; decide), fun x nx => ?_⟩
      have nxH : H x = none := (S.trans (su6.trans sv)).free nx
      have S8 : Same H (upd H7 x (.lst ([R0, "host", "switch", "host", "host"].map V.str ++ [("line 0 1 3" : Str), R3, "line 1 3 0"].map V.str))) := (S.trans (su6.trans sv)).trans (same_new nx)
      have h8 : (upd H7 x (.lst ([R0, "host", "switch", "host", "host"].map V.str ++ [("line 0 1 3" : Str), R3, "line 1 3 0"].map V.str))) x = some (.lst ([R0, "host", "switch", "host", "host", "line 0 1 3", R3, "line 1 3 0"].map V.str)) := upd_same
      generalize upd H7 x (.lst ([R0, "host", "switch", "host", "host"].map V.str ++ [("line 0 1 3" : Str), R3, "line 1 3 0"].map V.str)) = H8 at S8 h8 ⊢
      -- the streams
      refine ⟨_, rfl, .inl ⟨rfl, _, SqL.of h8⟩, _, rfl, a, _, _, _, rfl, rfl, SqL.of (S8 _ _ ha), atI_ints (j := 4) rfl (by omega), _, _, rfl, rfl, (by show (0 : Int) < 10; decide), _, _, rfl, rfl, _, rfl, num_log (by omega) (by omega), _, _, rfl, rfl, addz t3 n5, _, _, rfl, rfl, addz (t3.app n5) t4, ?_⟩
      have r4 := (t3.app n5).app t4
      generalize (("stream 10 " : Str) ++ Str.ofString (toString (1 + ns.getD 4 0 % 10))) ++ (" 40 0,1,2 0,12" : Str) = R4 at r4 ⊢
      refine ⟨x, _, _, rfl, rfl, h8, (by show 8 < sizeLine; decide), ?_⟩
      have S9 : Same H (upd H8 x (.lst ([R0, "host", "switch", "host", "host", "line 0 1 3", R3, "line 1 3 0"].map V.str ++ [V.str R4]))) := same_but S8 nxH but_self
      have h9 : (upd H8 x (.lst ([R0, "host", "switch", "host", "host", "line 0 1 3", R3, "line 1 3 0"].map V.str ++ [V.str R4]))) x = some (.lst ([R0, "host", "switch", "host", "host", "line 0 1 3", R3, "line 1 3 0", R4].map V.str)) := upd_same
      generalize upd H8 x (.lst ([R0, "host", "switch", "host", "host", "line 0 1 3", R3, "line 1 3 0"].map V.str ++ [V.str R4])) = H9 at S9 h9 ⊢
      refine ⟨_, rfl, by show 1 ≤ sizeLine; decide, fun y ny => ?_⟩
      have sy := same_new (o := .lst [V.str "stream 7 2 9 3,1,0 1,500"]) ny
      refine ⟨x, y, _, _, rfl, rfl, sy _ _ h9, upd_same, (by show 9 + 1 ≤ sizeLine; decide), fun z nz => ?_⟩
      have S10 := (S9.trans sy).trans (same_new (o := .lst ([R0, "host", "switch", "host", "host", "line 0 1 3", R3, "line 1 3 0", R4].map V.str ++ [V.str "stream 7 2 9 3,1,0 1,500"])) nz)
      refine q _ z [R0, "host", "switch", "host", "host", "line 0 1 3", R3, "line 1 3 0", R4, "stream 7 2 9 3,1,0 1,500"] S10 ((S9.trans sy).free nz) upd_same (by simp) (by show 10 ≤ 10; decide) ?_
      refine Rws.app (S := ["host", "switch", "host", "host", "line 0 1 3", R3, "line 1 3 0", R4, "stream 7 2 9 3,1,0 1,500"]) (R := [R0]) (rws_one (r0.mono (by decide))) (Rws.app (R := ["host", "switch", "host", "host", "line 0 1 3"]) (rws_lit (by decide +kernel)) (Rws.app (R := [R3]) (rws_one (r3.mono (by decide))) (Rws.app (R := ["line 1 3 0"]) (rws_lit (by decide +kernel)) (Rws.app (R := [R4]) (rws_one (r4.mono (by decide))) (rws_lit (by decide +kernel))))))
    · refine ⟨u4, _, _, _, rfl, rfl, SqL.of hu4, (by rw [z]; rfl : atI _ _ = some (V.ref u2)), ?_⟩
      refine ⟨_, rfl, _, rfl, p0, u2, _, _, rfl, rfl, h0, k2, (by show 1 + 2 ≤ sizeLine; decide), fun u6 nu6 => ?_⟩
      have nH : H u6 = none := S.free nu6
      have su6 := same_new (o := .lst ([V.str R0] ++ [("host" : Str), "host"].map V.str)) nu6
      have hu6 : (upd H5 u6 (.lst ([V.str R0] ++ [("host" : Str), "host"].map V.str))) u6 = some (.lst ([R0, "host", "host"].map V.str)) := upd_same
      generalize upd H5 u6 (.lst ([V.str R0] ++ [("host" : Str), "host"].map V.str)) = H6 at su6 hu6 ⊢
      have S6 := S.trans su6
      refine ⟨_, rfl, u2, _, rfl, .inl (SqL.of (su6 _ _ k2)), rfl, _, rfl, ite2 (fun _ => ?_) (fun e => absurd (by decide) e)⟩
      refine ⟨_, rfl, .inl ⟨rfl, _, SqL.of hu6⟩, _, rfl, a, _, _, _, rfl, rfl, SqL.of (S6 _ _ ha), atI_ints (j := 3) rfl (by omega), _, _, rfl, rfl, (by show (0 : Int) < 21; decide), _, rfl, num_log a3.1 (by omega), _, _, rfl, rfl, addz t5 n3, ?_⟩
      have r3 := t5.app n3
      generalize ("line 0 1 " : Str) ++ Str.ofString (toString (ns.getD 3 0 % 21)) = R3 at r3 ⊢
      refine ⟨u6, _, _, rfl, rfl, hu6, (by show 3 < sizeLine; decide), ?_⟩
      have S9 : Same H (upd H6 u6 (.lst ([R0, "host", "host"].map V.str ++ [V.str R3]))) := same_but S6 nH but_self
      have h9 : (upd H6 u6 (.lst ([R0, "host", "host"].map V.str ++ [V.str R3]))) u6 = some (.lst ([R0, "host", "host", R3].map V.str)) := upd_same
      generalize upd H6 u6 (.lst ([R0, "host", "host"].map V.str ++ [V.str R3])) = H9 at S9 h9 ⊢
      refine ⟨_, rfl, .inl ⟨rfl, _, SqL.of h9⟩, _, rfl, a, _, _, _, rfl, rfl, SqL.of (S9 _ _ ha), atI_ints (j := 4) rfl (by omega), _, _, rfl, rfl, (by show (0 : Int) < 501; decide), _, rfl, num_log a4.1 (by omega), _, _, rfl, rfl, addz t6 n4, ?_⟩
      have r4 := t6.app n4
      generalize ("stream 60 1 300 0,1 " : Str) ++ Str.ofString (toString (ns.getD 4 0 % 501)) = R4 at r4 ⊢
      refine ⟨u6, _, _, rfl, rfl, h9, (by show 4 < sizeLine; decide), _, rfl, ?_⟩
      have S10 : Same H (upd H9 u6 (.lst ([R0, "host", "host", R3].map V.str ++ [V.str R4]))) := same_but S9 nH but_self
      refine q _ u6 [R0, "host", "host", R3, R4] S10 nH upd_same (by simp) (by show 5 ≤ 10; decide) ?_
      exact Rws.app (S := ["host", "host", R3, R4]) (R := [R0]) (rws_one (r0.mono (by decide))) (Rws.app (R := ["host", "host"]) (rws_lit (by decide +kernel)) (Rws.app (R := [R3]) (rws_one (r3.mono (by decide))) (rws_one (r4.mono (by decide)))))
    · refine ⟨u4, _, _, _, rfl, rfl, SqL.of hu4, (by rw [z]; rfl : atI _ _ = some (V.ref u3)), ?_⟩
      refine ⟨_, rfl, _, rfl, p0, u3, _, _, rfl, rfl, h0, k3, (by show 1 + 4 ≤ sizeLine; decide), fun u6 nu6 => ?_⟩
      have su6 := same_new (o := .lst ([V.str R0] ++ [("switch" : Str), "host", "switch", "host"].map V.str)) nu6
      have hu6 : (upd H5 u6 (.lst ([V.str R0] ++ [("switch" : Str), "host", "switch", "host"].map V.str))) u6 = some (.lst ([R0, "switch", "host", "switch", "host"].map V.str)) := upd_same
      generalize upd H5 u6 (.lst ([V.str R0] ++ [("switch" : Str), "host", "switch", "host"].map V.str)) = H6 at su6 hu6 ⊢
      have S6 := S.trans su6
      have k36 := su6 _ _ k3
      refine ⟨_, rfl, u3, _, rfl, .inl (SqL.of k36), rfl, _, rfl, ite2 (fun e => absurd e (by decide)) fun _ => ?_⟩
      refine ⟨_, rfl, u3, _, _, _, rfl, rfl, SqL.of k36, (rfl : atI _ _ = some (V.str "switch")), rfl, _, rfl, ite2 (fun e => absurd e (by decide +kernel)) (fun _ => ?_)⟩
      refine ⟨_, rfl, by show 4 ≤ sizeLine; decide, fun y ny => ?_⟩
      have sy := same_new (o := .lst [V.str "line 0 1 3", V.str "line 0 2 0", V.str "line 3 2 4", V.str "stream 12 3 30 1,0,2,3 5,9,20"]) ny
      refine ⟨u6, y, _, _, rfl, rfl, sy _ _ hu6, upd_same, (by show 5 + 4 ≤ sizeLine; decide), fun x nx => ?_⟩
      have S10 := (S6.trans sy).trans (same_new (o := .lst ([R0, "switch", "host", "switch", "host"].map V.str ++ [V.str "line 0 1 3", V.str "line 0 2 0", V.str "line 3 2 4", V.str "stream 12 3 30 1,0,2,3 5,9,20"])) nx)
      refine q _ x [R0, "switch", "host", "switch", "host", "line 0 1 3", "line 0 2 0", "line 3 2 4", "stream 12 3 30 1,0,2,3 5,9,20"] S10 ((S6.trans sy).free nx) upd_same (by simp) (by show 9 ≤ 10; decide) ?_
      exact Rws.app (R := [R0]) (rws_one (r0.mono (by decide))) (rws_lit (by decide +kernel))
/-! ### _law_word -/
theorem scWord : FnScope ["numbers", "words"] ["numbers"] (defScope sWord) := ⟨rfl, rfl, rfl, by decide +kernel, rfl, by decide +kernel, by decide +kernel⟩
def wordsA : List Str := ["0", "1", "01", "", "x", "13", "60", "61", "300", "301", "20", "21", "500", "501", "0,1", "0,1,2", "2,1,0"]
def wordsB : List Str := ["-1", "1000000000", "999999999", "5", "6", "10", "11", "host", "line", "stream", "net", "0,1,1", ",", "2,2"]
theorem words_rw : Rws 10 (wordsA ++ wordsB) := rws_lit (by decide +kernel)
def spWord : Sp := fun vs H Q _ => ∃ (a : Addr) (ns : List Int), vs = [.ref a] ∧ H a = some (.lst (ns.map V.int)) ∧ 3 ≤ ns.length ∧ ∀ (H' : Hp) (y : Str), Same H H' → Rw 10 y → Q (.str y) H'
theorem ok_word {f : Addr} {fd : FuncData} {k : Nat} (F : Fun K "_law_word" "_law_word" sWord f fd) (T : Blt mg) : FnOk P w K mg base CX0 (k + 1) f fd ["numbers"] spWord := by
  refine F.ok scWord (fun vs H Q E h => ?_) (fun cdv A outer s H vs Q E hr h => ?_)
  · obtain ⟨a, ns, rfl, _⟩ := h
    rfl
  · obtain ⟨a, ns, rfl, ha, ln, q⟩ := h
    have nd := scWord.nd
    refine ⟨_, pss_cons (ps_set (i := 1) nd rfl (.inl rfl) (pe_lst (pa_cons pe_str (pa_cons pe_str (pa_cons pe_str (pa_cons pe_str (pa_cons pe_str (pa_cons pe_str (pa_cons pe_str (pa_cons pe_str (pa_cons pe_str (pa_cons pe_str (pa_cons pe_str (pa_cons pe_str (pa_cons pe_str (pa_cons pe_str (pa_cons pe_str (pa_cons pe_str (pa_cons pe_str pa_nil))))))))))))))))))) <| pss_cons (ps_set (i := 1) nd rfl (.inl rfl) (pe_op op_cat (pv 1) (pe_lst (pa_cons pe_str (pa_cons pe_str (pa_cons pe_str (pa_cons pe_str (pa_cons pe_str (pa_cons pe_str (pa_cons pe_str (pa_cons pe_str (pa_cons pe_str (pa_cons pe_str (pa_cons pe_str (pa_cons pe_str (pa_cons pe_str (pa_cons pe_str pa_nil))))))))))))))))) <| pss_one (ps_ret (pe_ix ix_list (pv 1) (pe_op op_mod (pe_ix ix_list (pv 0) pe_int (fun _ _ => rfl)) (pe_callB call_len_seq (by rfl) T.len PySem.boot_len (pa_cons (pv 1) pa_nil))) (fun _ _ => rfl))), ?_⟩
    refine ⟨by show 17 ≤ sizeLine; decide, fun u nu => ?_⟩
    have s1 : Same H (upd H u (.lst (wordsA.map V.str))) := same_new nu
    have h1 : (upd H u (.lst (wordsA.map V.str))) u = some (.lst (wordsA.map V.str)) := upd_same
    refine ⟨_, rfl, by show 14 ≤ sizeLine; decide, fun v nv => ?_⟩
    have s2 : Same (upd H u (.lst (wordsA.map V.str))) (upd (upd H u (.lst (wordsA.map V.str))) v (.lst (wordsB.map V.str))) := same_new nv
    have h2 := s2 _ _ h1
    refine ⟨u, v, wordsA.map V.str, wordsB.map V.str, rfl, rfl, h2, upd_same, (by show 17 + 14 ≤ sizeLine; decide), fun x nx => ?_⟩
    have s3 := same_new (o := .lst (wordsA.map V.str ++ wordsB.map V.str)) nx
    have S := (s1.trans s2).trans s3
    have m0 : 0 ≤ ns.getD 2 0 % 31 := Int.emod_nonneg _ (by decide)
    have m1 : ns.getD 2 0 % 31 < 31 := Int.emod_lt_of_pos _ (by decide)
    have el : ((wordsA.map V.str ++ wordsB.map V.str).length : Int) = 31 := by decide
    have lt : (ns.getD 2 0 % 31).toNat < (wordsA ++ wordsB).length := by show (ns.getD 2 0 % 31).toNat < 31; omega
    have hx : (wordsA ++ wordsB)[(ns.getD 2 0 % 31).toNat]? = some ((wordsA ++ wordsB).getD (ns.getD 2 0 % 31).toNat "") := getD_at ("" : Str) lt
    refine ⟨_, rfl, _, rfl, a, _, _, _, rfl, rfl, SqL.of (S _ _ ha), atI_ints (j := 2) rfl (by omega), _, rfl, x, _, rfl, .inl (SqL.of upd_same), _, _, rfl, rfl, (by rw [el]; show (0 : Int) < 31; decide), x, _, _, (.str ((wordsA ++ wordsB).getD (ns.getD 2 0 % 31).toNat "")), rfl, rfl, SqL.of upd_same, ?_, q _ _ S (words_rw _ (List.mem_of_getElem? hx))⟩
    rw [el, ← List.map_append]
    obtain ⟨j, ej⟩ : ∃ j : Nat, ns.getD 2 0 % 31 = (j : Int) := ⟨(ns.getD 2 0 % 31).toNat, by omega⟩
    rw [ej, Int.toNat_natCast] at hx ⊢
    exact atI_nat (by rw [List.getElem?_map, hx]; rfl)
end
end My
namespace My
open PySem PySem.Spec PyProof.Rows L2
abbrev sSpoilt : Stmt := top 19 /-_law_spoilt-/
/-! ### words with a blank behind each -/
def wsum (W : List Str) : Nat := (W.map fun w => w.length + 1).sum
theorem wsum_app (A B : List Str) : wsum (A ++ B) = wsum A + wsum B := by
  unfold wsum
  rw [List.map_append, List.sum_append]
theorem wsum_one (w : Str) : wsum [w] = w.length + 1 := by
  unfold wsum
  simp
theorem spl_sum {s : Nat} : ∀ (l acc : List Nat), ((TL.spl [s] 0 acc l).map fun p => p.length + 1).sum = acc.length + l.length + 1
  | [], acc => by
    rw [TL.spl_nil]
    simp
  | c :: r, acc => by
    by_cases e : c = s
    · rw [TL.spl_hit (by rw [pre_one]; exact decide_eq_true e), List.map_cons, List.sum_cons]
      have := spl_sum (s := s) r []
      show acc.length + 1 + (List.map (fun p => p.length + 1) (TL.spl [s] 0 [] r)).sum = _
      rw [this]
      simp only [List.length_nil, List.length_cons]
      omega
    · rw [TL.spl_miss (by rw [pre_one]; exact decide_eq_false e), spl_sum r (acc ++ [c])]
      simp only [List.length_append, List.length_singleton, List.length_cons, List.length_nil]
      omega
theorem split_sum (x : Str) : wsum (Txt.split x (" " : Str)) = x.length + 1 := by
  have ey : TL.tl (" " : Str) = [32] := by decide +kernel
  have e := TL.split_spl x (" " : Str) (by rw [ey]; simp) (TL.kind_ok (by decide +kernel))
  rw [ey] at e
  have z := spl_sum (s := 32) (TL.tl x) []
  rw [← e, List.map_map] at z
  unfold wsum
  rw [TL.len_tl]
  have : ((Txt.split x (" " : Str)).map fun w => w.length + 1) = (Txt.split x (" " : Str)).map ((fun p : List Nat => p.length + 1) ∘ TL.tl) := List.map_congr_left fun w _ => by rw [TL.len_tl]; rfl
  rw [this, z]
  simp
theorem joinL_len {s : Nat} : ∀ ps : List (List Nat), (TL.joinL [s] ps).length ≤ (ps.map fun p => p.length + 1).sum
  | [] => Nat.le_refl _
  | [p] => by
    show p.length ≤ _
    simp
  | p :: q :: r => by
    have := joinL_len (s := s) (q :: r)
    show (p ++ ([s] ++ TL.joinL [s] (q :: r))).length ≤ _
    rw [List.map_cons, List.sum_cons, List.length_append, List.length_append, List.length_singleton]
    omega
theorem joinL_in {s : Nat} : ∀ (ps : List (List Nat)) (c : Nat), c ∈ TL.joinL [s] ps → c = s ∨ ∃ p ∈ ps, c ∈ p
  | [], c, h => absurd h List.not_mem_nil
  | [p], c, h => .inr ⟨p, List.mem_cons_self, h⟩
  | p :: q :: r, c, h => by
    have h : c ∈ p ++ ([s] ++ TL.joinL [s] (q :: r)) := h
    rcases List.mem_append.mp h with h | h
    · exact .inr ⟨p, List.mem_cons_self, h⟩
    · rcases List.mem_append.mp h with h | h
      · exact .inl (List.mem_singleton.mp h)
      · rcases joinL_in (q :: r) c h with z | ⟨p', hp, hc⟩
        · exact .inl z
        · exact .inr ⟨p', List.mem_cons_of_mem _ hp, hc⟩
structure Wsp (m : Nat) (W : List Str) : Prop where
  ok : ∀ w ∈ W, Asc w ∧ 10 ∉ TL.tl w
  sm : wsum W ≤ m
theorem Wsp.mono {m n : Nat} {W : List Str} (h : Wsp m W) (z : m ≤ n) : Wsp n W := ⟨h.ok, Nat.le_trans h.sm z⟩
theorem Wsp.join {m : Nat} {W : List Str} (h : Wsp m W) : Rw m (Txt.join " " W) := by
  have et : TL.tl (Txt.join " " W) = TL.joinL [32] (W.map TL.tl) := by
    rw [TL.join_eq, TL.tl_join, show TL.tl (" " : Str) = [32] by decide +kernel]
  have hc : ∀ c ∈ TL.tl (Txt.join " " W), c = 32 ∨ ∃ w ∈ W, c ∈ TL.tl w := fun c hc => by
    rw [et] at hc
    rcases joinL_in _ c hc with z | ⟨p, hp, z⟩
    · exact .inl z
    · obtain ⟨w, hw, rfl⟩ := List.mem_map.mp hp
      exact .inr ⟨w, hw, z⟩
  refine ⟨fun c h' => ?_, fun h' => ?_, ?_⟩
  · rcases hc c h' with z | ⟨w, hw, z⟩
    · omega
    · exact (h.ok w hw).1 c z
  · rcases hc 10 h' with z | ⟨w, hw, z⟩
    · omega
    · exact (h.ok w hw).2 z
  · rw [TL.len_tl, et]
    refine Nat.le_trans (joinL_len _) (Nat.le_trans (Nat.le_of_eq ?_) h.sm)
    unfold wsum
    rw [List.map_map]
    exact congrArg List.sum (List.map_congr_left fun w _ => by rw [TL.len_tl]; rfl)
theorem wsum_all {W : List Str} : (W.map (·.length)).sum + W.length * ((" " : Str)).length ≤ wsum W := by
  have e1 : (" " : Str).length = 1 := by decide +kernel
  rw [e1, Nat.mul_one]
  unfold wsum
  induction W with
  | nil => exact Nat.le_refl _
  | cons a r ih =>
    rw [List.map_cons, List.map_cons, List.sum_cons, List.sum_cons, List.length_cons]
    omega
theorem Rw.split {n : Nat} {r : Str} (h : Rw n r) : Wsp (n + 1) (Txt.split r (" " : Str)) := by
  have c := cut_sp r
  refine ⟨fun w hw => ⟨c.asc h.as w hw, fun z => h.nl ((c.sub w hw).1 10 z)⟩, ?_⟩
  rw [split_sum]
  have := h.ln
  omega
theorem Wsp.one {m : Nat} {W : List Str} (h : Wsp m W) {w : Str} (hw : w ∈ W) : w.length + 1 ≤ m := by
  refine Nat.le_trans ?_ h.sm
  obtain ⟨A, B, rfl⟩ := List.append_of_mem hw
  have : wsum (w :: B) = (w.length + 1) + wsum B := wsum_app [w] B
  rw [wsum_app, this]
  omega
/-! ### slices of texts -/
theorem cutS_to {R : List Str} {k : Nat} : cutV (R.map V.str) none (some (k : Int)) = (R.take k).map V.str := by
  unfold cutV
  rw [HT.sIx_nat, HT.sIx_none, List.drop_zero, Nat.sub_zero, ← List.map_take]
  congr 1
  rcases Nat.le_total k (R.map V.str).length with c | c
  · rw [Nat.min_eq_left c]
  · rw [Nat.min_eq_right c, List.length_map, List.take_length, List.take_of_length_le]
    rw [List.length_map] at c
    exact c
theorem cutS_from {R : List Str} {k : Nat} : cutV (R.map V.str) (some (k : Int)) none = (R.drop k).map V.str := by
  unfold cutV
  rw [HT.sIx_nat, HT.sIx_none, ← List.map_drop, ← List.map_take, List.length_map]
  congr 1
  rcases Nat.le_total k R.length with c | c
  · rw [Nat.min_eq_left c, List.take_of_length_le]
    rw [List.length_drop]; omega
  · rw [Nat.min_eq_right c, Nat.sub_self, List.take_zero, List.drop_of_length_le c]
theorem atI_str {R : List Str} {j : Nat} (h : j < R.length) : atI (R.map V.str) (j : Int) = some (.str (wd R j)) := by
  refine atI_nat ?_
  rw [List.getElem?_map, getD_at Str.empty h]
  rfl
theorem wd_mem {R : List Str} {j : Nat} (h : j < R.length) : wd R j ∈ R := List.mem_of_getElem? (getD_at Str.empty h)
end My
namespace My
open PySem PySem.Spec PyProof.Rows L2
section
variable {P : Program} {w : World} {K : PySem.W.Frag} {mg : Str → Option Value} {base : Heap}
theorem scSpoilt : FnScope ["rows", "numbers", "kind", "at", "words", "which"] ["rows", "numbers"] (defScope sSpoilt) := ⟨rfl, rfl, rfl, by decide +kernel, rfl, by decide +kernel, by decide +kernel⟩
def spSpoilt : Sp := fun vs H Q _ => ∃ (a b : Addr) (R : List Str) (ns : List Int) (n : Nat), vs = [.ref a, .ref b] ∧ H a = some (.lst (R.map V.str)) ∧ H b = some (.lst (ns.map V.int)) ∧ ns.length = 4 ∧ R ≠ [] ∧ R.length ≤ 20 ∧ n ≤ 200 ∧ Rws n R ∧
  ∀ (H' : Hp) (p : Addr) (R' : List Str), Same H H' → H p = none → H' p = some (.lst (R'.map V.str)) → R'.length ≤ R.length + 1 → Rws (2 * n + 12) R' → Q (.ref p) H'
theorem ok_spoilt {f fW : Addr} {fd fdW : FuncData} {k : Nat} (F : Fun K "_law_spoilt" "_law_spoilt" sSpoilt f fd) (T : Blt mg) (GW : Callee P w K mg base 1 "_law_word" ["numbers"] spWord fW fdW) : FnOk P w K mg base CX0 (k + 2) f fd ["rows", "numbers"] spSpoilt := by
  refine F.ok scSpoilt (fun vs H Q E h => ?_) (fun cdv A outer s H vs Q E hr h => ?_)
  · obtain ⟨a, b, R, ns, n, rfl, _⟩ := h
    rfl
  · obtain ⟨a, b, R, ns, n, rfl, ha, hb, ln, ne, lR, n2, hR, q⟩ := h
    have nd := scSpoilt.nd
    have hr1 : Room 1 _ := hr.mono (by omega)
    refine ⟨_, pss_cons (ps_set (i := 2) nd rfl (.inl rfl) (pe_op op_mod (pe_ix ix_list (pv 1) pe_int (fun _ _ => rfl)) pe_int)) <| pss_cons (ps_set (i := 3) nd rfl (.inl rfl) (pe_op op_mod (pe_ix ix_list (pv 1) pe_int (fun _ _ => rfl)) (pe_callB call_len_seq (by rfl) T.len PySem.boot_len (pa_cons (pv 0) pa_nil)))) <| pss_cons (ps_set (i := 4) nd rfl (.inl rfl) (pe_split (pe_ix ix_list (pv 0) (pv 3) (fun _ _ => rfl)) pe_str)) <| pss_cons (ps_set (i := 5) nd rfl (.inl rfl) (pe_op op_mod (pe_ix ix_list (pv 1) pe_int (fun _ _ => rfl)) (pe_callB call_len_seq (by rfl) T.len PySem.boot_len (pa_cons (pv 4) pa_nil)))) <| pss_cons (ps_if (pt_cmpR op_eq (pv 2) pe_int (nomark _)) (pss_one (ps_ret (pe_op op_cat (pe_slice sl_list (pv 0) po_none (po_some (pv 3))) (pe_slice sl_list (pv 0) (po_some (pe_op op_add (pv 3) pe_int)) po_none)))) (pss_nil)) <| pss_cons (ps_if (pt_cmpR op_eq (pv 2) pe_int (nomark _)) (pss_one (ps_ret (pe_op op_cat (pe_op op_cat (pe_slice sl_list (pv 0) po_none (po_some (pv 3))) (pe_lst (pa_cons (pe_ix ix_list (pv 0) (pv 3) (fun _ _ => rfl)) pa_nil))) (pe_slice sl_list (pv 0) (po_some (pv 3)) po_none)))) (pss_nil)) <| pss_cons (ps_if (PW.pt (pw_and (pt_cmpR op_eq (pv 2) pe_int (nomark _)) (pw_and1 (pt_cmpR op_lt (pe_op op_add (pv 3) pe_int) (pe_callB call_len_seq (by rfl) T.len PySem.boot_len (pa_cons (pv 0) pa_nil)) (nomark _))))) (pss_one (ps_ret (pe_op op_cat (pe_op op_cat (pe_slice sl_list (pv 0) po_none (po_some (pv 3))) (pe_lst (pa_cons (pe_ix ix_list (pv 0) (pe_op op_add (pv 3) pe_int) (fun _ _ => rfl)) (pa_cons (pe_ix ix_list (pv 0) (pv 3) (fun _ _ => rfl)) pa_nil)))) (pe_slice sl_list (pv 0) (po_some (pe_op op_add (pv 3) pe_int)) po_none)))) (pss_nil)) <| pss_cons (ps_if (pt_cmpR op_eq (pv 2) pe_int (nomark _)) (pss_one (ps_ret (pe_op op_cat (pe_op op_cat (pe_slice sl_list (pv 0) po_none (po_some (pv 3))) (pe_slice sl_list (pv 0) (po_some (pe_op op_add (pv 3) pe_int)) po_none)) (pe_lst (pa_cons (pe_ix ix_list (pv 0) (pv 3) (fun _ _ => rfl)) pa_nil))))) (pss_nil)) <| C8.pss_cut (ps_if (pt_cmpR op_eq (pv 2) pe_int (nomark _)) (pss_one (ps_set (i := 4) nd rfl (.inl rfl) (pe_op op_cat (pe_slice sl_list (pv 4) po_none (po_some (pv 5))) (pe_slice sl_list (pv 4) (po_some (pe_op op_add (pv 5) pe_int)) po_none)))) (pss_nil)) <| C8.pss_cut (ps_if (pt_cmpR op_eq (pv 2) pe_int (nomark _)) (pss_one (ps_set (i := 4) nd rfl (.inl rfl) (pe_op op_cat (pe_op op_cat (pe_slice sl_list (pv 4) po_none (po_some (pv 5))) (pe_lst (pa_cons (pe_ix ix_list (pv 4) (pv 5) (fun _ _ => rfl)) pa_nil))) (pe_slice sl_list (pv 4) (po_some (pv 5)) po_none)))) (pss_nil)) <| C8.pss_cut (ps_if (pt_cmpR op_in_seq (pv 2) (pe_lst (pa_cons pe_int (pa_cons pe_int (pa_cons pe_int pa_nil)))) rfl) (pss_one (ps_asg (pe_call GW.ok hr1 (by rfl) GW.mg GW.kp GW.b .nil pass0 (pa_cons (pv 1) pa_nil)) (pg_sub (pv 4) (pv 5) set_list))) (pss_nil)) <| C8.pss_cut (ps_if (pt_cmpR op_eq (pv 2) pe_int (nomark _)) (pss_one (ps_set (i := 4) nd rfl (.inl rfl) (pe_op op_cat (pv 4) (pe_lst (pa_cons pe_str pa_nil))))) (pss_nil)) <| pss_one (ps_ret (pe_op op_cat (pe_op op_cat (pe_slice sl_list (pv 0) po_none (po_some (pv 3))) (pe_lst (pa_cons (pe_join pe_str (pv 4)) pa_nil))) (pe_slice sl_list (pv 0) (po_some (pe_op op_add (pv 3) pe_int)) po_none))), ?_⟩
    have hm : ∀ A : List Str, (∀ r ∈ A, r ∈ R) → Rws (2 * n + 12) A := fun A h r hr => (hR r (h r hr)).mono (by omega)
    have l0 : 0 < R.length := List.length_pos_iff.mpr ne
    have eR : (R.map V.str).length = R.length := List.length_map ..
    refine ⟨_, rfl, b, _, _, _, rfl, rfl, SqL.of hb, atI_ints (j := 0) rfl (by omega), _, _, rfl, rfl, (by show (0 : Int) < 11; decide), ?_⟩
    refine ⟨_, rfl, b, _, _, _, rfl, rfl, SqL.of hb, atI_ints (j := 1) rfl (by omega), _, rfl, a, _, rfl, .inl (SqL.of ha), _, _, rfl, rfl, (by rw [eR]; show (0 : Int) < (R.length : Int); omega), ?_⟩
    try dsimp only
    rw [eR]
    have b0 : 0 ≤ ns.getD 1 0 % (R.length : Int) := Int.emod_nonneg _ (by omega)
    have b1 : ns.getD 1 0 % (R.length : Int) < (R.length : Int) := Int.emod_lt_of_pos _ (by omega)
    obtain ⟨j, ej⟩ : ∃ j : Nat, ns.getD 1 0 % (R.length : Int) = (j : Int) := ⟨(ns.getD 1 0 % (R.length : Int)).toNat, by omega⟩
    try dsimp only
    rw [ej]
    have hj : j < R.length := by omega
    generalize ns.getD 0 0 % 11 = kd
    have hr0 := hR _ (wd_mem hj)
    refine ⟨_, rfl, _, rfl, a, _, _, _, rfl, rfl, SqL.of ha, atI_str hj, ⟨_, rfl⟩, _, _, rfl, rfl, by decide +kernel, sz (by have := hr0.ln; omega), fun w0 nw0 => ?_⟩
    have W0 := hr0.split
    have wne := (cut_sp (wd R j)).ne
    generalize Txt.split (wd R j) (" " : Str) = W at W0 wne ⊢
    have nw0H := nw0
    have s1 : Same H (upd H w0 (.lst (W.map V.str))) := same_new nw0
    have h1 : (upd H w0 (.lst (W.map V.str))) w0 = some (.lst (W.map V.str)) := upd_same
    generalize upd H w0 (.lst (W.map V.str)) = H1 at s1 h1 ⊢
    have lW : 0 < W.length := List.length_pos_iff.mpr wne
    have lW2 : W.length ≤ 10000 := by
      have h := W0.sm
      have : W.length ≤ wsum W := by
        unfold wsum
        clear h W0 wne h1 lW
        induction W with
        | nil => exact Nat.le_refl _
        | cons a r ih => rw [List.map_cons, List.sum_cons, List.length_cons]; omega
      omega
    have eW : (W.map V.str).length = W.length := List.length_map ..
    refine ⟨_, rfl, b, _, _, _, rfl, rfl, SqL.of (s1 _ _ hb), atI_ints (j := 3) rfl (by omega), _, rfl, w0, _, rfl, .inl (SqL.of h1), _, _, rfl, rfl, (by rw [eW]; show (0 : Int) < (W.length : Int); omega), ?_⟩
    try dsimp only
    rw [eW]
    have c0 : 0 ≤ ns.getD 3 0 % (W.length : Int) := Int.emod_nonneg _ (by omega)
    have c1 : ns.getD 3 0 % (W.length : Int) < (W.length : Int) := Int.emod_lt_of_pos _ (by omega)
    obtain ⟨i, ei⟩ : ∃ i : Nat, ns.getD 3 0 % (W.length : Int) = (i : Int) := ⟨(ns.getD 3 0 % (W.length : Int)).toNat, by omega⟩
    try dsimp only
    rw [ei]
    have hi : i < W.length := by omega
    have ha1 := s1 _ _ ha
    have hb1 := s1 _ _ hb
    have j1 : cutV (R.map V.str) (some ((j : Int) + 1)) none = (R.drop (j + 1)).map V.str := by rw [show (j : Int) + 1 = ((j + 1 : Nat) : Int) by omega]; exact cutS_from
    have lt : (R.take j).length = j := by rw [List.length_take]; omega
    have ld : (R.drop j).length = R.length - j := List.length_drop ..
    have ld1 : (R.drop (j + 1)).length = R.length - (j + 1) := List.length_drop ..
    have ld2 : (R.drop (j + 2)).length = R.length - (j + 2) := List.length_drop ..
    have mt : ∀ r ∈ R.take j, r ∈ R := fun r h => List.mem_of_mem_take h
    have mdr : ∀ k, ∀ r ∈ R.drop k, r ∈ R := fun k r h => List.mem_of_mem_drop h
    refine ⟨_, rfl, rfl, _, rfl, ite2 (fun e => ?_) (fun e0 => ?_)⟩
    · refine ⟨_, rfl, _, rfl, _, rfl, a, _, rfl, SqL.of ha1, fun u nu => ?_⟩
      rw [cutS_to]
      have s2 : Same H1 (upd H1 u (.lst ((R.take j).map V.str))) := same_new nu
      have h2 : (upd H1 u (.lst ((R.take j).map V.str))) u = some (.lst ((R.take j).map V.str)) := upd_same
      generalize upd H1 u (.lst ((R.take j).map V.str)) = H2 at s2 h2 ⊢
      refine ⟨_, rfl, _, rfl, _, _, rfl, rfl, _, rfl, a, _, rfl, SqL.of (s2 _ _ ha1), fun v nv => ?_⟩
      rw [j1]
      have s3 : Same H2 (upd H2 v (.lst ((R.drop (j + 1)).map V.str))) := same_new nv
      have h3 : (upd H2 v (.lst ((R.drop (j + 1)).map V.str))) v = some (.lst ((R.drop (j + 1)).map V.str)) := upd_same
      generalize upd H2 v (.lst ((R.drop (j + 1)).map V.str)) = H3 at s3 h3 ⊢
      refine ⟨u, v, _, _, rfl, rfl, s3 _ _ h2, h3, sz (by simp only [List.length_append, List.length_map, List.length_cons, List.length_nil]; omega), fun x nx => ?_⟩
      have s4 : Same H3 (upd H3 x (.lst ((R.take j).map V.str ++ (R.drop (j + 1)).map V.str))) := same_new nx
      have h4 : (upd H3 x (.lst ((R.take j).map V.str ++ (R.drop (j + 1)).map V.str))) x = some (.lst (((R.take j) ++ (R.drop (j + 1))).map V.str)) := by rw [upd_same]; simp only [List.map_append, List.map_cons, List.map_nil]
      exact q _ x _ (((s1.trans s2).trans s3).trans s4) (((s1.trans s2).trans s3).free nx) h4 (by rw [List.length_append]; omega) (hm _ fun r hr => (List.mem_append.mp hr).elim (mt r) (mdr _ r))
    refine ⟨_, rfl, rfl, _, rfl, ite2 (fun e => ?_) (fun e1 => ?_)⟩
    · refine ⟨_, rfl, _, rfl, _, rfl, a, _, rfl, SqL.of ha1, fun u nu => ?_⟩
      rw [cutS_to]
      have s2 : Same H1 (upd H1 u (.lst ((R.take j).map V.str))) := same_new nu
      have h2 : (upd H1 u (.lst ((R.take j).map V.str))) u = some (.lst ((R.take j).map V.str)) := upd_same
      generalize upd H1 u (.lst ((R.take j).map V.str)) = H2 at s2 h2 ⊢
      refine ⟨_, rfl, _, rfl, a, _, _, _, rfl, rfl, SqL.of (s2 _ _ ha1), atI_str hj, by show 1 ≤ sizeLine; decide, fun v nv => ?_⟩
      have s3 : Same H2 (upd H2 v (.lst ([V.str (wd R j)]))) := same_new nv
      have h3 : (upd H2 v (.lst ([V.str (wd R j)]))) v = some (.lst ([V.str (wd R j)])) := upd_same
      generalize upd H2 v (.lst ([V.str (wd R j)])) = H3 at s3 h3 ⊢
      refine ⟨u, v, _, _, rfl, rfl, s3 _ _ h2, h3, sz (by simp only [List.length_append, List.length_map, List.length_cons, List.length_nil]; omega), fun x nx => ?_⟩
      have s4 : Same H3 (upd H3 x (.lst ((R.take j).map V.str ++ [V.str (wd R j)]))) := same_new nx
      have h4 : (upd H3 x (.lst ((R.take j).map V.str ++ [V.str (wd R j)]))) x = some (.lst (((R.take j) ++ [wd R j]).map V.str)) := by rw [upd_same]; simp only [List.map_append, List.map_cons, List.map_nil]
      generalize upd H3 x (.lst ((R.take j).map V.str ++ [V.str (wd R j)])) = H4 at s4 h4 ⊢
      refine ⟨_, rfl, _, rfl, _, rfl, a, _, rfl, SqL.of (s4 _ _ (s3 _ _ (s2 _ _ ha1))), fun y ny => ?_⟩
      rw [cutS_from]
      have s5 : Same H4 (upd H4 y (.lst ((R.drop j).map V.str))) := same_new ny
      have h5 : (upd H4 y (.lst ((R.drop j).map V.str))) y = some (.lst ((R.drop j).map V.str)) := upd_same
      generalize upd H4 y (.lst ((R.drop j).map V.str)) = H5 at s5 h5 ⊢
      refine ⟨x, y, _, _, rfl, rfl, s5 _ _ h4, h5, sz (by simp only [List.length_append, List.length_map, List.length_cons, List.length_nil]; omega), fun z nz => ?_⟩
      have s6 : Same H5 (upd H5 z (.lst ((R.take j ++ [wd R j]).map V.str ++ (R.drop j).map V.str))) := same_new nz
      have h6 : (upd H5 z (.lst ((R.take j ++ [wd R j]).map V.str ++ (R.drop j).map V.str))) z = some (.lst (((R.take j ++ [wd R j]) ++ (R.drop j)).map V.str)) := by rw [upd_same]; simp only [List.map_append, List.map_cons, List.map_nil]
      have SS := ((((s1.trans s2).trans s3).trans s4).trans s5)
      exact q _ z _ (SS.trans s6) (SS.free nz) h6 (by rw [List.length_append, List.length_append, List.length_singleton]; omega) (hm _ fun r hr => (List.mem_append.mp hr).elim (fun h => (List.mem_append.mp h).elim (mt r) fun h => by rw [List.mem_singleton.mp h]; exact wd_mem hj) (mdr _ r))
    dsimp only [tNext]
    refine and_read (a := decide (V.int kd = V.int 2)) (b := decide ((j : Int) + 1 < (R.length : Int))) (fun Q h => ?_) (fun _ Q h => ?_) ?_
    · exact ⟨_, rfl, rfl, _, rfl, h⟩
    · refine ⟨_, rfl, _, _, rfl, rfl, _, rfl, a, _, rfl, .inl (SqL.of ha1), _, _, rfl, rfl, _, rfl, ?_⟩
      rw [eR]
      exact h
    refine ite2 (fun e => ?_) (fun e2 => ?_)
    · rw [Bool.and_eq_true, decide_eq_true_eq, decide_eq_true_eq] at e
      have hj1 : j + 1 < R.length := by omega
      have aj1 : atI (R.map V.str) ((j : Int) + 1) = some (.str (wd R (j + 1))) := by rw [show (j : Int) + 1 = ((j + 1 : Nat) : Int) by omega]; exact atI_str hj1
      have j2 : cutV (R.map V.str) (some ((j : Int) + 2)) none = (R.drop (j + 2)).map V.str := by rw [show (j : Int) + 2 = ((j + 2 : Nat) : Int) by omega]; exact cutS_from
      refine ⟨_, rfl, _, rfl, _, rfl, a, _, rfl, SqL.of ha1, fun u nu => ?_⟩
      rw [cutS_to]
      have s2 : Same H1 (upd H1 u (.lst ((R.take j).map V.str))) := same_new nu
      have h2 : (upd H1 u (.lst ((R.take j).map V.str))) u = some (.lst ((R.take j).map V.str)) := upd_same
      generalize upd H1 u (.lst ((R.take j).map V.str)) = H2 at s2 h2 ⊢
      refine ⟨_, rfl, _, rfl, _, _, rfl, rfl, a, _, _, _, rfl, rfl, SqL.of (s2 _ _ ha1), aj1, _, rfl, _, rfl, a, _, _, _, rfl, rfl, SqL.of (s2 _ _ ha1), atI_str hj, by show 2 ≤ sizeLine; decide, fun v nv => ?_⟩
      have s3 : Same H2 (upd H2 v (.lst ([V.str (wd R (j + 1)), V.str (wd R j)]))) := same_new nv
      have h3 : (upd H2 v (.lst ([V.str (wd R (j + 1)), V.str (wd R j)]))) v = some (.lst ([V.str (wd R (j + 1)), V.str (wd R j)])) := upd_same
      generalize upd H2 v (.lst ([V.str (wd R (j + 1)), V.str (wd R j)])) = H3 at s3 h3 ⊢
      refine ⟨u, v, _, _, rfl, rfl, s3 _ _ h2, h3, sz (by simp only [List.length_append, List.length_map, List.length_cons, List.length_nil]; omega), fun x nx => ?_⟩
      have s4 : Same H3 (upd H3 x (.lst ((R.take j).map V.str ++ [V.str (wd R (j + 1)), V.str (wd R j)]))) := same_new nx
      have h4 : (upd H3 x (.lst ((R.take j).map V.str ++ [V.str (wd R (j + 1)), V.str (wd R j)]))) x = some (.lst ((R.take j ++ [wd R (j + 1), wd R j]).map V.str)) := by rw [upd_same]; simp only [List.map_append, List.map_cons, List.map_nil]
      generalize upd H3 x (.lst ((R.take j).map V.str ++ [V.str (wd R (j + 1)), V.str (wd R j)])) = H4 at s4 h4 ⊢
      refine ⟨_, rfl, _, rfl, _, _, rfl, rfl, _, rfl, a, _, rfl, SqL.of (s4 _ _ (s3 _ _ (s2 _ _ ha1))), fun y ny => ?_⟩
      rw [j2]
      have s5 : Same H4 (upd H4 y (.lst ((R.drop (j + 2)).map V.str))) := same_new ny
      have h5 : (upd H4 y (.lst ((R.drop (j + 2)).map V.str))) y = some (.lst ((R.drop (j + 2)).map V.str)) := upd_same
      generalize upd H4 y (.lst ((R.drop (j + 2)).map V.str)) = H5 at s5 h5 ⊢
      refine ⟨x, y, _, _, rfl, rfl, s5 _ _ h4, h5, sz (by simp only [List.length_append, List.length_map, List.length_cons, List.length_nil]; omega), fun z nz => ?_⟩
      have s6 : Same H5 (upd H5 z (.lst ((R.take j ++ [wd R (j + 1), wd R j]).map V.str ++ (R.drop (j + 2)).map V.str))) := same_new nz
      have h6 : (upd H5 z (.lst ((R.take j ++ [wd R (j + 1), wd R j]).map V.str ++ (R.drop (j + 2)).map V.str))) z = some (.lst ((R.take j ++ [wd R (j + 1), wd R j] ++ R.drop (j + 2)).map V.str)) := by rw [upd_same]; simp only [List.map_append, List.map_cons, List.map_nil]
      generalize upd H5 z (.lst ((R.take j ++ [wd R (j + 1), wd R j]).map V.str ++ (R.drop (j + 2)).map V.str)) = H6 at s6 h6 ⊢
      have SS := ((((s1.trans s2).trans s3).trans s4).trans s5)
      exact q _ z _ (SS.trans s6) (SS.free nz) h6 (by simp only [List.length_append, List.length_cons, List.length_nil]; omega) (hm _ fun r hr => (List.mem_append.mp hr).elim (fun h => (List.mem_append.mp h).elim (mt r) fun h => by
        rcases List.mem_cons.mp h with h | h
        · rw [h]; exact wd_mem hj1
        · rw [List.mem_singleton.mp h]; exact wd_mem hj) (mdr _ r))
    refine ⟨_, rfl, rfl, _, rfl, ite2 (fun e => ?_) (fun e3 => ?_)⟩
    · refine ⟨_, rfl, _, rfl, _, rfl, a, _, rfl, SqL.of ha1, fun u nu => ?_⟩
      rw [cutS_to]
      have s2 : Same H1 (upd H1 u (.lst ((R.take j).map V.str))) := same_new nu
      have h2 : (upd H1 u (.lst ((R.take j).map V.str))) u = some (.lst ((R.take j).map V.str)) := upd_same
      generalize upd H1 u (.lst ((R.take j).map V.str)) = H2 at s2 h2 ⊢
      refine ⟨_, rfl, _, rfl, _, _, rfl, rfl, _, rfl, a, _, rfl, SqL.of (s2 _ _ ha1), fun v nv => ?_⟩
      rw [j1]
      have s3 : Same H2 (upd H2 v (.lst ((R.drop (j + 1)).map V.str))) := same_new nv
      have h3 : (upd H2 v (.lst ((R.drop (j + 1)).map V.str))) v = some (.lst ((R.drop (j + 1)).map V.str)) := upd_same
      generalize upd H2 v (.lst ((R.drop (j + 1)).map V.str)) = H3 at s3 h3 ⊢
      refine ⟨u, v, _, _, rfl, rfl, s3 _ _ h2, h3, sz (by simp only [List.length_append, List.length_map, List.length_cons, List.length_nil]; omega), fun x nx => ?_⟩
      have s4 : Same H3 (upd H3 x (.lst ((R.take j).map V.str ++ (R.drop (j + 1)).map V.str))) := same_new nx
      have h4 : (upd H3 x (.lst ((R.take j).map V.str ++ (R.drop (j + 1)).map V.str))) x = some (.lst ((R.take j ++ R.drop (j + 1)).map V.str)) := by rw [upd_same]; simp only [List.map_append, List.map_cons, List.map_nil]
      generalize upd H3 x (.lst ((R.take j).map V.str ++ (R.drop (j + 1)).map V.str)) = H4 at s4 h4 ⊢
      refine ⟨_, rfl, _, rfl, a, _, _, _, rfl, rfl, SqL.of (s4 _ _ (s3 _ _ (s2 _ _ ha1))), atI_str hj, by show 1 ≤ sizeLine; decide, fun y ny => ?_⟩
      have s5 : Same H4 (upd H4 y (.lst ([V.str (wd R j)]))) := same_new ny
      have h5 : (upd H4 y (.lst ([V.str (wd R j)]))) y = some (.lst ([V.str (wd R j)])) := upd_same
      generalize upd H4 y (.lst ([V.str (wd R j)])) = H5 at s5 h5 ⊢
      refine ⟨x, y, _, _, rfl, rfl, s5 _ _ h4, h5, sz (by simp only [List.length_append, List.length_map, List.length_cons, List.length_nil]; omega), fun z nz => ?_⟩
      have s6 : Same H5 (upd H5 z (.lst ((R.take j ++ R.drop (j + 1)).map V.str ++ [V.str (wd R j)]))) := same_new nz
      have h6 : (upd H5 z (.lst ((R.take j ++ R.drop (j + 1)).map V.str ++ [V.str (wd R j)]))) z = some (.lst ((R.take j ++ R.drop (j + 1) ++ [wd R j]).map V.str)) := by rw [upd_same]; simp only [List.map_append, List.map_cons, List.map_nil]
      generalize upd H5 z (.lst ((R.take j ++ R.drop (j + 1)).map V.str ++ [V.str (wd R j)])) = H6 at s6 h6 ⊢
      have SS := ((((s1.trans s2).trans s3).trans s4).trans s5)
      exact q _ z _ (SS.trans s6) (SS.free nz) h6 (by simp only [List.length_append, List.length_cons, List.length_nil]; omega) (hm _ fun r hr => (List.mem_append.mp hr).elim (fun h => (List.mem_append.mp h).elim (mt r) (mdr _ r)) fun h => by rw [List.mem_singleton.mp h]; exact wd_mem hj)
    have i1 : cutV (W.map V.str) (some ((i : Int) + 1)) none = (W.drop (i + 1)).map V.str := by rw [show (i : Int) + 1 = ((i + 1 : Nat) : Int) by omega]; exact cutS_from
    have w12 : wsum (W.take i) + wsum (W.drop i) = wsum W := by rw [← wsum_app, List.take_append_drop]
    have w13 : wsum (W.take i) + ((wd W i).length + 1 + wsum (W.drop (i + 1))) = wsum W := by
      have e : W.drop i = wd W i :: W.drop (i + 1) := by
        rw [List.drop_eq_getElem_cons hi]
        congr 1
        unfold wd
        rw [List.getD_eq_getElem?_getD, List.getElem?_eq_getElem hi]
        rfl
      rw [← w12, e]
      have : wsum (wd W i :: W.drop (i + 1)) = wsum [wd W i] + wsum (W.drop (i + 1)) := wsum_app [wd W i] _
      rw [this, wsum_one]
    have wi := W0.one (wd_mem hi)
    have W0s := W0.sm
    have lt' : (W.take i).length = i := by rw [List.length_take]; omega
    have ld' : (W.drop i).length = W.length - i := List.length_drop ..
    have ld1' : (W.drop (i + 1)).length = W.length - (i + 1) := List.length_drop ..
    have okt : ∀ w ∈ W.take i, Asc w ∧ 10 ∉ TL.tl w := fun w h => W0.ok w (List.mem_of_mem_take h)
    have okd : ∀ k, ∀ w ∈ W.drop k, Asc w ∧ 10 ∉ TL.tl w := fun k w h => W0.ok w (List.mem_of_mem_drop h)
    -- kind 4
    refine ⟨fun σ' H' => ∃ (w' : Addr) (W' : List Str), σ' = [some (.ref a), some (.ref b), some (.int kd), some (.int (j : Int)), some (.ref w'), some (.int (i : Int))] ∧ Same H H' ∧ H w' = none ∧ H' w' = some (.lst (W'.map V.str)) ∧ Wsp (2 * n + 12) W' ∧ W'.length ≤ 20000 ∧ (kd ≠ 4 → w' = w0 ∧ W' = W), ?_, ?_⟩
    · refine ⟨_, rfl, rfl, _, rfl, ite2 (fun e => ?_) (fun e => ⟨w0, W, rfl, s1, nw0, h1, W0.mono (by omega), by omega, fun _ => ⟨rfl, rfl⟩⟩)⟩
      rw [decide_eq_true_eq, V.int.injEq] at e
      refine ⟨_, rfl, _, rfl, _, rfl, w0, _, rfl, SqL.of h1, fun u nu => ?_⟩
      rw [cutS_to]
      have s2 : Same H1 (upd H1 u (.lst ((W.take i).map V.str))) := same_new nu
      have h2 : (upd H1 u (.lst ((W.take i).map V.str))) u = some (.lst ((W.take i).map V.str)) := upd_same
      generalize upd H1 u (.lst ((W.take i).map V.str)) = H2 at s2 h2 ⊢
      refine ⟨_, rfl, _, rfl, _, _, rfl, rfl, _, rfl, w0, _, rfl, SqL.of (s2 _ _ h1), fun v nv => ?_⟩
      rw [i1]
      have s3 : Same H2 (upd H2 v (.lst ((W.drop (i + 1)).map V.str))) := same_new nv
      have h3 : (upd H2 v (.lst ((W.drop (i + 1)).map V.str))) v = some (.lst ((W.drop (i + 1)).map V.str)) := upd_same
      generalize upd H2 v (.lst ((W.drop (i + 1)).map V.str)) = H3 at s3 h3 ⊢
      refine ⟨u, v, _, _, rfl, rfl, s3 _ _ h2, h3, sz (by simp only [List.length_append, List.length_map, List.length_cons, List.length_nil]; omega), fun x nx => ?_⟩
      have s4 : Same H3 (upd H3 x (.lst ((W.take i).map V.str ++ (W.drop (i + 1)).map V.str))) := same_new nx
      have h4 : (upd H3 x (.lst ((W.take i).map V.str ++ (W.drop (i + 1)).map V.str))) x = some (.lst ((W.take i ++ W.drop (i + 1)).map V.str)) := by rw [upd_same]; simp only [List.map_append, List.map_cons, List.map_nil]
      generalize upd H3 x (.lst ((W.take i).map V.str ++ (W.drop (i + 1)).map V.str)) = H4 at s4 h4 ⊢
      exact ⟨x, _, rfl, ((s1.trans s2).trans s3).trans s4, ((s1.trans s2).trans s3).free nx, h4, ⟨fun w hw => (List.mem_append.mp hw).elim (okt w) (okd _ w), by rw [wsum_app]; omega⟩, by rw [List.length_append]; omega, fun z => absurd e z⟩
    rintro σ' H' ⟨w1, W1, rfl, sA, nw1, hw1, wA, lA, pA⟩
    -- kind 5
    refine ⟨fun σ' H' => ∃ (w' : Addr) (W' : List Str), σ' = [some (.ref a), some (.ref b), some (.int kd), some (.int (j : Int)), some (.ref w'), some (.int (i : Int))] ∧ Same H H' ∧ H w' = none ∧ H' w' = some (.lst (W'.map V.str)) ∧ Wsp (2 * n + 12) W' ∧ W'.length ≤ 20000 ∧ ((kd ≠ 4 ∧ kd ≠ 5) → w' = w0 ∧ W' = W), ?_, ?_⟩
    · refine ⟨_, rfl, rfl, _, rfl, ite2 (fun e => ?_) (fun e => ⟨w1, W1, rfl, sA, nw1, hw1, wA, lA, fun z => pA z.1⟩)⟩
      rw [decide_eq_true_eq, V.int.injEq] at e
      obtain ⟨rfl, rfl⟩ := pA (by omega)
      refine ⟨_, rfl, _, rfl, _, rfl, w1, _, rfl, SqL.of hw1, fun u nu => ?_⟩
      rw [cutS_to]
      have s2 : Same H' (upd H' u (.lst ((W1.take i).map V.str))) := same_new nu
      have h2 : (upd H' u (.lst ((W1.take i).map V.str))) u = some (.lst ((W1.take i).map V.str)) := upd_same
      generalize upd H' u (.lst ((W1.take i).map V.str)) = H2 at s2 h2 ⊢
      refine ⟨_, rfl, _, rfl, w1, _, _, _, rfl, rfl, SqL.of (s2 _ _ hw1), atI_str hi, by show 1 ≤ sizeLine; decide, fun v nv => ?_⟩
      have s3 : Same H2 (upd H2 v (.lst ([V.str (wd W1 i)]))) := same_new nv
      have h3 : (upd H2 v (.lst ([V.str (wd W1 i)]))) v = some (.lst ([V.str (wd W1 i)])) := upd_same
      generalize upd H2 v (.lst ([V.str (wd W1 i)])) = H3 at s3 h3 ⊢
      refine ⟨u, v, _, _, rfl, rfl, s3 _ _ h2, h3, sz (by simp only [List.length_append, List.length_map, List.length_cons, List.length_nil]; omega), fun x nx => ?_⟩
      have s4 : Same H3 (upd H3 x (.lst ((W1.take i).map V.str ++ [V.str (wd W1 i)]))) := same_new nx
      have h4 : (upd H3 x (.lst ((W1.take i).map V.str ++ [V.str (wd W1 i)]))) x = some (.lst ((W1.take i ++ [ (wd W1 i)]).map V.str)) := by rw [upd_same]; simp only [List.map_append, List.map_cons, List.map_nil]
      generalize upd H3 x (.lst ((W1.take i).map V.str ++ [V.str (wd W1 i)])) = H4 at s4 h4 ⊢
      refine ⟨_, rfl, _, rfl, _, rfl, w1, _, rfl, SqL.of (s4 _ _ (s3 _ _ (s2 _ _ hw1))), fun y ny => ?_⟩
      rw [cutS_from]
      have s5 : Same H4 (upd H4 y (.lst ((W1.drop i).map V.str))) := same_new ny
      have h5 : (upd H4 y (.lst ((W1.drop i).map V.str))) y = some (.lst ((W1.drop i).map V.str)) := upd_same
      generalize upd H4 y (.lst ((W1.drop i).map V.str)) = H5 at s5 h5 ⊢
      refine ⟨x, y, _, _, rfl, rfl, s5 _ _ h4, h5, sz (by simp only [List.length_append, List.length_map, List.length_cons, List.length_nil]; omega), fun z nz => ?_⟩
      have s6 : Same H5 (upd H5 z (.lst ((W1.take i ++ [wd W1 i]).map V.str ++ (W1.drop i).map V.str))) := same_new nz
      have h6 : (upd H5 z (.lst ((W1.take i ++ [wd W1 i]).map V.str ++ (W1.drop i).map V.str))) z = some (.lst ((W1.take i ++ [wd W1 i] ++ W1.drop i).map V.str)) := by rw [upd_same]; simp only [List.map_append, List.map_cons, List.map_nil]
      generalize upd H5 z (.lst ((W1.take i ++ [wd W1 i]).map V.str ++ (W1.drop i).map V.str)) = H6 at s6 h6 ⊢
      have SS := ((((sA.trans s2).trans s3).trans s4).trans s5)
      refine ⟨z, _, rfl, SS.trans s6, SS.free nz, h6, ⟨fun w hw => (List.mem_append.mp hw).elim (fun h => (List.mem_append.mp h).elim (okt w) fun h => by rw [List.mem_singleton.mp h]; exact W0.ok _ (wd_mem hi)) (okd _ w), ?_⟩, by simp only [List.length_append, List.length_cons, List.length_nil]; omega, fun z => absurd e z.2⟩
      rw [wsum_app, wsum_app, wsum_one]
      omega
    clear pA hw1 sA nw1 wA lA
    rintro σ' H'' ⟨w2, W2, rfl, sA, nw2, hw2, wA, lA, pA⟩
    -- kinds 6, 7, 8
    refine ⟨fun σ' H' => ∃ (w' : Addr) (W' : List Str), σ' = [some (.ref a), some (.ref b), some (.int kd), some (.int (j : Int)), some (.ref w'), some (.int (i : Int))] ∧ Same H H' ∧ H w' = none ∧ H' w' = some (.lst (W'.map V.str)) ∧ Wsp (2 * n + 12) W' ∧ W'.length ≤ 20000 ∧ ((kd ≠ 4 ∧ kd ≠ 5 ∧ kd ≠ 6 ∧ kd ≠ 7 ∧ kd ≠ 8) → w' = w0 ∧ W' = W), ?_, ?_⟩
    · refine ⟨_, rfl, by show 3 ≤ sizeLine; decide, fun l nl => ?_⟩
      have sl := same_new (o := .lst [V.int 6, V.int 7, V.int 8]) nl
      refine ⟨l, _, rfl, .inl (SqL.of upd_same), rfl, rfl, _, rfl, ite2 (fun e => ?_) (fun e => ⟨w2, W2, rfl, sA.trans sl, nw2, sl _ _ hw2, wA, lA, fun z => pA ⟨z.1, z.2.1⟩⟩)⟩
      have ek : kd = 6 ∨ kd = 7 ∨ kd = 8 := by
        have e : inV (V.int kd) [V.int 6, V.int 7, V.int 8] = true := e
        have e : 6 = kd ∨ 7 = kd ∨ 8 = kd := by simpa [inV, eqV] using e
        omega
      obtain ⟨rfl, rfl⟩ := pA (by omega)
      refine ⟨_, rfl, b, ns, rfl, (sA.trans sl) _ _ hb, by omega, fun H3 y s3 ry => ?_⟩
      have S3 := (sA.trans sl).trans s3
      have hw3 := s3 _ _ (sl _ _ hw2)
      refine ⟨_, rfl, _, rfl, w2, _, _, i, rfl, rfl, hw3, (by unfold ixN; rw [if_pos (by omega), if_pos (by rw [List.length_map]; omega)]; simp), ?_⟩
      have wr : (W2.set i y).length = W2.length := List.length_set ..
      refine ⟨w2, W2.set i y, rfl, same_but S3 nw2 but_self, nw2, by rw [upd_same, List.map_set], ⟨fun w hw => ?_, ?_⟩, by omega, fun z => by omega⟩
      · rcases List.mem_or_eq_of_mem_set hw with z | z
        · exact W0.ok w z
        · rw [z]; exact ⟨ry.as, ry.nl⟩
      · have es : W2.set i y = W2.take i ++ y :: W2.drop (i + 1) := List.set_eq_take_append_cons_drop.trans (if_pos hi)
        have : wsum (y :: W2.drop (i + 1)) = wsum [y] + wsum (W2.drop (i + 1)) := wsum_app [y] _
        rw [es, wsum_app, this, wsum_one]
        have := ry.ln
        omega
    clear pA hw2 sA nw2 wA lA
    rintro σ' H' ⟨w3, W3, rfl, sA, nw3, hw3, wA, lA, pA⟩
    -- kind 9
    refine ⟨fun σ' H' => ∃ (w' : Addr) (W' : List Str), σ' = [some (.ref a), some (.ref b), some (.int kd), some (.int (j : Int)), some (.ref w'), some (.int (i : Int))] ∧ Same H H' ∧ H' w' = some (.lst (W'.map V.str)) ∧ Wsp (2 * n + 12) W' ∧ W'.length ≤ 20001, ?_, ?_⟩
    · refine ⟨_, rfl, rfl, _, rfl, ite2 (fun e => ?_) (fun e => ⟨w3, W3, rfl, sA, hw3, wA, by omega⟩)⟩
      rw [decide_eq_true_eq, V.int.injEq] at e
      obtain ⟨rfl, rfl⟩ := pA (by omega)
      refine ⟨_, rfl, by show 1 ≤ sizeLine; decide, fun v nv => ?_⟩
      have s2 : Same H' (upd H' v (.lst ([V.str ""]))) := same_new nv
      have h2 : (upd H' v (.lst ([V.str ""]))) v = some (.lst ([V.str ""])) := upd_same
      generalize upd H' v (.lst ([V.str ""])) = H2 at s2 h2 ⊢
      refine ⟨w3, v, _, _, rfl, rfl, s2 _ _ hw3, h2, sz (by simp only [List.length_append, List.length_map, List.length_cons, List.length_nil]; omega), fun x nx => ?_⟩
      have s3 : Same H2 (upd H2 x (.lst ((W3).map V.str ++ [V.str ""]))) := same_new nx
      have h3 : (upd H2 x (.lst ((W3).map V.str ++ [V.str ""]))) x = some (.lst ((W3 ++ [("" : Str)]).map V.str)) := by rw [upd_same]; simp only [List.map_append, List.map_cons, List.map_nil]
      generalize upd H2 x (.lst ((W3).map V.str ++ [V.str ""])) = H3 at s3 h3 ⊢
      refine ⟨x, _, rfl, (sA.trans s2).trans s3, h3, ⟨fun w hw => (List.mem_append.mp hw).elim (W0.ok w) fun h => by rw [List.mem_singleton.mp h]; exact ⟨fun c hc => absurd hc (by rw [show TL.tl ("" : Str) = [] by decide +kernel]; exact List.not_mem_nil), by rw [show TL.tl ("" : Str) = [] by decide +kernel]; exact List.not_mem_nil⟩, ?_⟩, by simp only [List.length_append, List.length_cons, List.length_nil]; omega⟩
      have e0 : ("" : Str).length = 0 := by decide +kernel
      rw [wsum_app, wsum_one, e0]
      omega
    clear pA hw3 sA nw3 wA lA
    rintro σ' H1' ⟨w4, W4, rfl, sA, hw4, wA, lA⟩
    have rj := wA.join
    refine ⟨_, rfl, _, rfl, _, rfl, a, _, rfl, SqL.of (sA _ _ ha), fun u nu => ?_⟩
    rw [cutS_to]
    have s2 : Same H1' (upd H1' u (.lst ((R.take j).map V.str))) := same_new nu
    have h2 : (upd H1' u (.lst ((R.take j).map V.str))) u = some (.lst ((R.take j).map V.str)) := upd_same
    generalize upd H1' u (.lst ((R.take j).map V.str)) = H2 at s2 h2 ⊢
    refine ⟨⟨_, rfl⟩, _, rfl, _, w4, W4, rfl, rfl, .inl (SqL.of (s2 _ _ hw4)), Nat.le_trans wsum_all (Nat.le_trans wA.sm (by omega)), by show 1 ≤ sizeLine; decide, fun v nv => ?_⟩
    have s3 : Same H2 (upd H2 v (.lst ([V.str (Txt.join " " W4)]))) := same_new nv
    have h3 : (upd H2 v (.lst ([V.str (Txt.join " " W4)]))) v = some (.lst ([V.str (Txt.join " " W4)])) := upd_same
    generalize upd H2 v (.lst ([V.str (Txt.join " " W4)])) = H3 at s3 h3 ⊢
    refine ⟨u, v, _, _, rfl, rfl, s3 _ _ h2, h3, sz (by simp only [List.length_append, List.length_map, List.length_cons, List.length_nil]; omega), fun x nx => ?_⟩
    have s4 : Same H3 (upd H3 x (.lst ((R.take j).map V.str ++ [V.str (Txt.join " " W4)]))) := same_new nx
    have h4 : (upd H3 x (.lst ((R.take j).map V.str ++ [V.str (Txt.join " " W4)]))) x = some (.lst ((R.take j ++ [Txt.join " " W4]).map V.str)) := by rw [upd_same]; simp only [List.map_append, List.map_cons, List.map_nil]
    generalize upd H3 x (.lst ((R.take j).map V.str ++ [V.str (Txt.join " " W4)])) = H4 at s4 h4 ⊢
    refine ⟨_, rfl, _, rfl, _, _, rfl, rfl, _, rfl, a, _, rfl, SqL.of (s4 _ _ (s3 _ _ (s2 _ _ (sA _ _ ha)))), fun y ny => ?_⟩
    rw [j1]
    have s5 : Same H4 (upd H4 y (.lst ((R.drop (j + 1)).map V.str))) := same_new ny
    have h5 : (upd H4 y (.lst ((R.drop (j + 1)).map V.str))) y = some (.lst ((R.drop (j + 1)).map V.str)) := upd_same
    generalize upd H4 y (.lst ((R.drop (j + 1)).map V.str)) = H5 at s5 h5 ⊢
    refine ⟨x, y, _, _, rfl, rfl, s5 _ _ h4, h5, sz (by simp only [List.length_append, List.length_map, List.length_cons, List.length_nil]; omega), fun z nz => ?_⟩
    have s6 : Same H5 (upd H5 z (.lst ((R.take j ++ [Txt.join " " W4]).map V.str ++ (R.drop (j + 1)).map V.str))) := same_new nz
    have h6 : (upd H5 z (.lst ((R.take j ++ [Txt.join " " W4]).map V.str ++ (R.drop (j + 1)).map V.str))) z = some (.lst ((R.take j ++ [Txt.join " " W4] ++ R.drop (j + 1)).map V.str)) := by rw [upd_same]; simp only [List.map_append, List.map_cons, List.map_nil]
    generalize upd H5 z (.lst ((R.take j ++ [Txt.join " " W4]).map V.str ++ (R.drop (j + 1)).map V.str)) = H6 at s6 h6 ⊢
    have SS := ((((sA.trans s2).trans s3).trans s4).trans s5)
    refine q _ z _ (SS.trans s6) (SS.free nz) h6 (by simp only [List.length_append, List.length_cons, List.length_nil]; omega) (Rws.app (Rws.app (hm _ mt) (rws_one rj)) (hm _ (mdr _)))
end
end My
namespace My
open PySem PySem.Spec PyProof.Rows L2
abbrev sNumL : Stmt := top 20 /-_law_number-/
abbrev sNumsL : Stmt := top 21 /-_law_numbers-/
theorem orC {t u : TT} {σ : L2.St} {H : Hp} {Q : Bool → Hp → Prop} {a b : Bool} (ht : ∀ Q : Bool → Hp → Prop, Q a H → t σ H Q) (hu : a = false → ∀ Q : Bool → Hp → Prop, Q b H → u σ H Q) (h : Q (a || b) H) : tOr t u σ H Q := by
  refine ht _ ?_
  cases a with
  | true => exact h
  | false => exact hu rfl _ h
theorem dig_is : ∀ c : Nat, c < 58 → 48 ≤ c → Unicode.isDigit c = true := by decide +kernel
def head1 (y : Str) : Str := ⟨#[y.cps.toList.headD 0]⟩
/-- the law's look at a word -/
def wrongN (y : Str) : Bool := decide (y = ("" : Str)) || (decide ((y.length : Int) > 9) || (decide (head1 y = ("0" : Str)) && decide ((y.length : Int) > 1)))
def digsT (y : Str) : Bool := (TL.tl y).all fun c => decide (c ∈ TL.tl ("0123456789" : Str))
theorem digs_iff {c : Nat} : c ∈ TL.tl ("0123456789" : Str) ↔ 48 ≤ c ∧ c ≤ 57 := by
  rw [show TL.tl ("0123456789" : Str) = [48, 49, 50, 51, 52, 53, 54, 55, 56, 57] by decide +kernel]
  constructor
  · intro h
    simp at h
    omega
  · intro h
    have : c = 48 ∨ c = 49 ∨ c = 50 ∨ c = 51 ∨ c = 52 ∨ c = 53 ∨ c = 54 ∨ c = 55 ∨ c = 56 ∨ c = 57 := by omega
    simpa using this
theorem num_is {y : Str} (ha : Asc y) : isNumT y = (!wrongN y && digsT y) := by
  rw [Bool.eq_iff_iff, Bool.and_eq_true, Bool.not_eq_true']
  have e0 : TL.tl ("0" : Str) = [48] := by decide +kernel
  have ee : TL.tl ("" : Str) = [] := by decide +kernel
  unfold isNumT wrongN digsT
  simp only [Bool.or_eq_true, Bool.and_eq_true, Bool.or_eq_false_iff, Bool.and_eq_false_iff, Bool.not_eq_true', decide_eq_true_eq, decide_eq_false_iff_not, List.all_eq_true, digs_iff]
  constructor
  · rintro (h | ⟨hd, h0, hl⟩)
    · subst h
      refine ⟨⟨by decide +kernel, by decide +kernel, .inr (by decide +kernel)⟩, ?_⟩
      rw [e0]
      intro c hc
      rw [List.mem_singleton.mp hc]
      decide
    · unfold Txt.isdigit at hd
      rw [Bool.and_eq_true, decide_eq_true_eq, Array.all_eq_true'] at hd
      obtain ⟨lp, hd⟩ := hd
      refine ⟨⟨fun z => ?_, by omega, .inl h0⟩, fun c hc => dig_only c (ha c hc) (hd c (Array.mem_toList_iff.mp hc))⟩
      rw [z] at lp
      exact absurd lp (by decide +kernel)
  · rintro ⟨⟨ne, hl, h0⟩, hd⟩
    have nt : TL.tl y ≠ [] := fun z => ne (TL.ext_tl (by rw [z, ee]))
    have lp : 0 < y.length := by
      rw [TL.len_tl]
      exact List.length_pos_iff.mpr nt
    have dg : Txt.isdigit y = true := by
      unfold Txt.isdigit
      rw [Bool.and_eq_true, decide_eq_true_eq, Array.all_eq_true']
      exact ⟨lp, fun c hc => by have z := hd c (Array.mem_toList_iff.mpr hc); exact dig_is c (by omega) z.1⟩
    by_cases h : head1 y = ("0" : Str)
    · left
      have l1 : y.length = 1 := by
        rcases h0 with z | z
        · exact absurd h z
        · omega
      refine TL.ext_tl ?_
      rw [TL.len_tl] at l1
      have hh : TL.tl (head1 y) = TL.tl ("0" : Str) := by rw [h]
      have hh : [(TL.tl y).headD 0] = TL.tl ("0" : Str) := hh
      obtain ⟨c, ec⟩ := List.length_eq_one_iff.mp l1
      rw [ec] at hh ⊢
      exact hh
    · exact .inr ⟨dg, h, by omega⟩
/-- what the law says of a word -/
def numV (y : Str) (lo hi : Int) : Option Int := if isNumT y = true ∧ lo ≤ numI y ∧ numI y ≤ hi then some (numI y) else none
def oV' : Option Int → V
  | none => .non
  | some i => .int i
section
variable {P : Program} {w : World} {K : PySem.W.Frag} {mg : Str → Option Value} {base : Heap}
theorem scNumL : FnScope ["word", "low", "high", "sign"] ["word", "low", "high"] (defScope sNumL) := ⟨rfl, rfl, rfl, by decide +kernel, rfl, by decide +kernel, by decide +kernel⟩
def spNumL : Sp := fun vs H Q _ => ∃ (y : Str) (lo hi : Int), vs = [.str y, .int lo, .int hi] ∧ Asc y ∧ y.length ≤ 640 ∧ Q (oV' (numV y lo hi)) H
theorem ok_numL {f : Addr} {fd : FuncData} {k : Nat} (F : Fun K "_law_number" "_law_number" sNumL f fd) (T : Blt mg) : FnOk P w K mg base CX0 (k + 1) f fd ["word", "low", "high"] spNumL := by
  refine F.ok scNumL (fun vs H Q E h => ?_) (fun cdv A outer s H vs Q E hr h => ?_)
  · obtain ⟨y, lo, hi, rfl, _⟩ := h
    rfl
  · obtain ⟨y, lo, hi, rfl, ha, hl, q⟩ := h
    have nd := scNumL.nd
    refine ⟨_, pss_cons (ps_if (PW.pt (pw_or (pt_cmpR op_eq (pv 0) pe_str (nomark _)) (pw_or (pt_cmpR op_gt (pe_callB call_len_str (by rfl) T.len PySem.boot_len (pa_cons (pv 0) pa_nil)) pe_int (nomark _)) (pw_or1 (PW.pt (pw_and (pt_cmpR op_eq (pe_ix ix_str (pv 0) pe_int (fun _ _ => rfl)) pe_str (nomark _)) (pw_and1 (pt_cmpR op_gt (pe_callB call_len_str (by rfl) T.len PySem.boot_len (pa_cons (pv 0) pa_nil)) pe_int (nomark _))))))))) (pss_one (ps_ret pe_non)) (pss_nil)) <| pss_cons (ps_for PassesOwn.never rfl (pi_str (pv 0)) (pg_name (i := 3) nd rfl (.inl rfl)) (pss_one (ps_if (pt_cmpR op_notIn_sign (pv 3) pe_str rfl) (pss_one (ps_ret pe_non)) (pss_nil)))) <| pss_cons (ps_if (pt_chain op_le op_le (pv 1) (pe_callTy call_int_str (by rfl) T.int (by decide +kernel) (pa_cons (pv 0) pa_nil)) (pv 2)) (pss_one (ps_ret (pe_callTy call_int_str (by rfl) T.int (by decide +kernel) (pa_cons (pv 0) pa_nil)))) (pss_nil)) <| pss_one (ps_ret pe_non), ?_⟩
    have sl : y.length ≤ sizeLine := Nat.le_trans hl (by decide)
    refine orC (a := decide (y = ("" : Str))) (b := decide ((y.length : Int) > 9) || (decide (head1 y = ("0" : Str)) && decide ((y.length : Int) > 1))) (fun Q h => ⟨_, rfl, rfl, _, rfl, by rw [dec_str]; exact h⟩) (fun e Q h => ?_) ?_
    · have ne : ∃ c r, y.cps.toList = c :: r := by
        cases h : y.cps.toList with
        | nil =>
          have : y = ("" : Str) := TL.ext_tl (by rw [show TL.tl ("" : Str) = [] by decide +kernel]; exact h)
          rw [this] at e
          exact absurd e (by decide +kernel)
        | cons c r => exact ⟨c, r, rfl⟩
      obtain ⟨c, r, ec⟩ := ne
      have eh : head1 y = ⟨#[c]⟩ := by unfold head1; rw [ec]; rfl
      refine orC (a := decide ((y.length : Int) > 9)) (b := decide (head1 y = ("0" : Str)) && decide ((y.length : Int) > 1)) (fun Q h => ⟨_, rfl, y, rfl, sl, _, _, rfl, rfl, _, rfl, h⟩) (fun _ Q h => ?_) h
      refine and_read (a := decide (head1 y = ("0" : Str))) (b := decide ((y.length : Int) > 1)) (fun Q h => ?_) (fun _ Q h => ⟨_, rfl, y, rfl, sl, _, _, rfl, rfl, _, rfl, h⟩) h
      refine ⟨_, rfl, y, 0, c, rfl, rfl, sl, (by rw [ec]; exact atI_nat (j := 0) rfl), rfl, _, rfl, ?_⟩
      rw [dec_str, ← eh]
      exact h
    have none_of : isNumT y = false → numV y lo hi = none := fun z => if_neg fun h => by rw [z] at h; exact absurd h.1 (by decide)
    refine ite2 (fun e => ?_) (fun e => ?_)
    · rw [none_of (by rw [num_is ha, show wrongN y = true from e]; rfl)] at q
      exact q
    have ew : wrongN y = false := Bool.eq_false_iff.mpr e
    refine ⟨_, rfl, y, rfl, for_it walk_str (fun i σ H' => ∃ v3 : Option V, σ = [some (.str y), some (.int lo), some (.int hi), v3] ∧ H' = H ∧ ∀ c ∈ (TL.tl y).take i, c ∈ TL.tl ("0123456789" : Str)) ⟨none, rfl, rfl, fun c h => absurd h (by rw [List.take_zero]; exact List.not_mem_nil)⟩ (fun _ _ _ _ _ => trivial) ?_ ?_⟩
    · rintro i x σ H' H2 hi ⟨v3, rfl, rfl, hd⟩ ⟨rfl, c, ec, rfl⟩
      have ec' : (TL.tl y)[i]? = some c := by
        show y.cps.toList[i]? = some c
        rw [Array.getElem?_toList, ec]
      refine ⟨_, rfl, c, _, rfl, rfl, _, rfl, ite2 (fun z => ?_) (fun z => ?_)⟩
      · rw [none_of ?_] at q
        · exact q
        · rw [num_is ha, ew]
          have : digsT y = false := by
            refine Bool.eq_false_iff.mpr fun h => ?_
            unfold digsT at h
            have h2 := List.all_eq_true.mp h c (List.mem_of_getElem? ec')
            have z : (!decide (c ∈ TL.tl ("0123456789" : Str))) = true := z
            rw [h2] at z
            exact absurd z (by decide)
          rw [this]
          rfl
      · refine ⟨_, rfl, rfl, fun d hd' => ?_⟩
        rw [take_snoc ec'] at hd'
        rcases List.mem_append.mp hd' with h | h
        · exact hd d h
        · rw [List.mem_singleton.mp h]
          have z : ¬ (!decide (c ∈ TL.tl ("0123456789" : Str))) = true := z
          simpa using z
    rintro σ H' ⟨v3, rfl, rfl, hd⟩
    have isn : isNumT y = true := by
      rw [num_is ha, ew]
      unfold digsT
      rw [List.take_of_length_le (by show y.cps.toList.length ≤ y.cps.size; rw [Array.length_toList]; exact Nat.le_refl _)] at hd
      show (!false && (TL.tl y).all fun c => decide (c ∈ TL.tl ("0123456789" : Str))) = true
      rw [List.all_eq_true.mpr fun c hc => decide_eq_true (hd c hc)]
      rfl
    have iw := int_word ha isn
    refine ⟨_, rfl, _, rfl, y, _, rfl, iw.1, hl, _, _, rfl, rfl, _, rfl, ?_⟩
    have no : ¬ (lo ≤ numI y ∧ numI y ≤ hi) → numV y lo hi = none := fun z => if_neg fun h => z h.2
    refine ite2 (fun z1 => ?_) (fun z1 => ?_)
    · rw [decide_eq_true_eq] at z1
      refine ⟨_, rfl, _, _, rfl, rfl, _, rfl, ite2 (fun z2 => ?_) (fun z2 => ?_)⟩
      · rw [decide_eq_true_eq] at z2
        refine ⟨_, rfl, y, _, rfl, iw.1, hl, ?_⟩
        rw [show numV y lo hi = some (numI y) from if_pos ⟨isn, z1, z2⟩] at q
        exact q
      · rw [decide_eq_true_eq] at z2
        rw [no fun h => z2 h.2] at q
        exact q
    · rw [decide_eq_true_eq] at z1
      rw [no fun h => z1 h.1] at q
      exact ⟨_, rfl, ite2 (fun z => absurd z (by decide)) (fun _ => q)⟩
/-! ### _law_numbers -/
theorem scNumsL : FnScope ["text", "low", "high", "numbers", "word"] ["text", "low", "high"] (defScope sNumsL) := ⟨rfl, rfl, rfl, by decide +kernel, rfl, by decide +kernel, by decide +kernel⟩
def numsV (t : Str) (lo hi : Int) : List (Option Int) := (Txt.split t ("," : Str)).map fun y => numV y lo hi
/-- all of them, or none -/
def allN : List (Option Int) → Option (List Int)
  | [] => some []
  | none :: _ => none
  | some i :: r => (allN r).map (i :: ·)
theorem allN_none : ∀ {l : List (Option Int)}, none ∈ l → allN l = none
  | none :: r, _ => rfl
  | some i :: r, h => by
    rcases List.mem_cons.mp h with z | z
    · cases z
    · show (allN r).map _ = none
      rw [allN_none z]
      rfl
theorem allN_some : ∀ {l : List (Option Int)}, none ∉ l → ∃ is, allN l = some is ∧ l.map oV' = is.map V.int ∧ l = is.map some
  | [], _ => ⟨[], rfl, rfl, rfl⟩
  | none :: r, h => absurd List.mem_cons_self h
  | some i :: r, h => by
    obtain ⟨is, e1, e2, e3⟩ := allN_some (l := r) fun z => h (List.mem_cons_of_mem _ z)
    refine ⟨i :: is, ?_, ?_, ?_⟩
    · show (allN r).map _ = _
      rw [e1]
      rfl
    · rw [List.map_cons, e2]
      rfl
    · rw [List.map_cons, ← e3]
theorem inV_none (l : List (Option Int)) : inV V.non (l.map oV') = decide (none ∈ l) := by
  induction l with
  | nil => rfl
  | cons a r ih =>
    show (eqV (oV' a) V.non || inV V.non (r.map oV')) = _
    rw [ih]
    cases a with
    | none => rw [show eqV (oV' none) V.non = true from rfl, decide_eq_true (List.mem_cons_self : none ∈ none :: r)]; rfl
    | some i =>
      rw [show eqV (oV' (some i)) V.non = false from rfl, Bool.false_or]
      by_cases h : (none : Option Int) ∈ r
      · rw [decide_eq_true h, decide_eq_true (List.mem_cons_of_mem _ h)]
      · rw [decide_eq_false h, decide_eq_false fun z => (List.mem_cons.mp z).elim (fun y => by cases y) h]
theorem flat_oV (l : List (Option Int)) : (l.map oV').all flatV = true := List.all_eq_true.mpr fun v h => by
  obtain ⟨a, _, rfl⟩ := List.mem_map.mp h
  cases a <;> rfl
def spNumsL : Sp := fun vs H Q _ => ∃ (t : Str) (lo hi : Int), vs = [.str t, .int lo, .int hi] ∧ Asc t ∧ t.length ≤ 640 ∧
  (allN (numsV t lo hi) = none → ∀ H', Same H H' → Q .non H') ∧ (∀ is, allN (numsV t lo hi) = some is → ∀ (H' : Hp) (p : Addr), Same H H' → H p = none → H' p = some (.lst (is.map V.int)) → Q (.ref p) H')
theorem ok_numsL {f fN : Addr} {fd fdN : FuncData} {k : Nat} (F : Fun K "_law_numbers" "_law_numbers" sNumsL f fd) (T : Blt mg) (GN : Callee P w K mg base 1 "_law_number" ["word", "low", "high"] spNumL fN fdN) : FnOk P w K mg base CX0 (k + 2) f fd ["text", "low", "high"] spNumsL := by
  refine F.ok scNumsL (fun vs H Q E h => ?_) (fun cdv A outer s H vs Q E hr h => ?_)
  · obtain ⟨t, lo, hi, rfl, _⟩ := h
    rfl
  · obtain ⟨t, lo, hi, rfl, ha, hl, q1, q2⟩ := h
    have nd := scNumsL.nd
    have hr1 : Room 1 _ := hr.mono (by omega)
    refine ⟨_, pss_cons (ps_setLc (i := 3) (own := [("word", 4)]) (g := gName 4) (tt := tYes) rfl nd rfl rfl (sw_true rfl rfl rfl (by decide +kernel)) (pi_list (pe_split (pv 0) pe_str)) (blkOk_by (own := [("word", 4)]) (N := ["text", "low", "high", "numbers", "word"]) (sc := defScope sNumsL) (by decide +kernel)) (fun _ _ _ _ _ => pg_name (i := 4) nd rfl (Or.inl rfl)) (fun _ _ _ _ _ => pts_nil) (fun _ _ _ _ _ => (pe_call GN.ok hr1 (by rfl) GN.mg GN.kp GN.b .nil pass0 (pa_cons (pv 4) (pa_cons (pv 1) (pa_cons (pv 2) pa_nil)))))) <| pss_cons (ps_if (pt_cmpR op_in_seq pe_non (pv 3) rfl) (pss_one (ps_ret pe_non)) (pss_nil)) <| pss_one (ps_ret (pv 3)), ?_⟩
    have cu := cut_co t
    refine ⟨_, rfl, ⟨_, rfl⟩, _, _, rfl, rfl, by decide +kernel, Nat.le_trans (Nat.add_le_add_right hl 2) (by decide), fun L nL => ?_⟩
    have e0 : numsV t lo hi = (Txt.split t ("," : Str)).map fun y => numV y lo hi := rfl
    generalize Txt.split t ("," : Str) = ws at cu e0 ⊢
    have s1 : Same H (upd H L (.lst (ws.map V.str))) := same_new nL
    have hL : (upd H L (.lst (ws.map V.str))) L = some (.lst (ws.map V.str)) := upd_same
    generalize upd H L (.lst (ws.map V.str)) = H1 at s1 hL ⊢
    refine ⟨L, rfl, ⟨_, SqL.of hL⟩, fun D nD => ?_⟩
    have wl : ws.length ≤ 641 := Nat.le_trans cu.cnt (by omega)
    refine lc_list (K := K) (a := L) (xs := ws.map V.str) (fun i H' => Same H1 H' ∧ H' D = some (.lst (((ws.take i).map fun y => numV y lo hi).map oV'))) ⟨same_new nD, upd_same⟩ (fun i H' _ z => SqL.of (z.1 _ _ hL)) ?_ ?_
    · rintro i x H' hi' ⟨sm, hD⟩
      obtain ⟨y, ey, rfl⟩ := strs_at hi'
      have hm := List.mem_of_getElem? ey
      refine ⟨rfl, _, rfl, _, rfl, _, rfl, y, lo, hi, rfl, cu.asc ha y hm, Nat.le_trans (cu.sub y hm).2 hl, _, hD, szl (by rw [List.length_map, List.length_map, List.length_take]; omega), same_but sm nD but_self, ?_⟩
      rw [upd_same, take_snoc ey, List.map_append, List.map_append]
      rfl
    rintro H2 ⟨s2, hD⟩
    rw [List.length_map, List.take_length, ← e0] at hD
    have S := s1.trans s2
    refine ⟨_, rfl, D, _, rfl, .inl (SqL.of hD), rfl, ?_, _, rfl, ?_⟩
    · exact flat_oV _
    · rw [if_neg (by decide), inV_none]
      refine ite2 (fun e => ?_) (fun e => ?_)
      · exact q1 (allN_none (of_decide_eq_true e)) _ S
      · obtain ⟨is, a1, a2, a3⟩ := allN_some (l := numsV t lo hi) (fun z => e (decide_eq_true z))
        rw [a2] at hD
        exact ⟨_, rfl, q2 is a1 _ D S (s1.free nD) hD⟩
end
end My
namespace My
open PySem PySem.Spec PyProof.Rows L2
abbrev sLJo : Stmt := top 22 /-_law_joined-/
abbrev sLLine : Stmt := top 23 /-_law_line-/
/-! ### numbers within bounds, one by one -/
def okN (y : Str) (b : Int × Int) : Bool := isNumT y && inB (numI y, b)
theorem numV_ok (y : Str) (lo hi : Int) : numV y lo hi = if okN y (lo, hi) = true then some (numI y) else none := by
  unfold numV okN inB
  by_cases h : isNumT y = true ∧ lo ≤ numI y ∧ numI y ≤ hi
  · rw [if_pos h, if_pos]
    rw [h.1, decide_eq_true h.2.1, decide_eq_true h.2.2]
    rfl
  · rw [if_neg h, if_neg]
    rw [Bool.and_eq_true, Bool.and_eq_true, decide_eq_true_eq, decide_eq_true_eq]
    exact h
theorem nums_nil : numsOk [] [] = true := rfl
theorem nums_cons (w : Str) (ws : List Str) (b : Int × Int) (bs : List (Int × Int)) : numsOk (w :: ws) (b :: bs) = (okN w b && numsOk ws bs) := by
  unfold numsOk okN
  rw [List.map_cons, List.zip_cons_cons, List.all_cons, List.all_cons, List.length_cons, List.length_cons]
  have e : decide (ws.length + 1 = bs.length + 1) = decide (ws.length = bs.length) := by
    rw [Bool.eq_iff_iff, decide_eq_true_eq, decide_eq_true_eq]
    omega
  rw [e]
  cases decide (ws.length = bs.length) <;> cases isNumT w <;> cases ws.all isNumT <;> cases inB (numI w, b) <;> simp
theorem nums_ne {ws : List Str} {bs : List (Int × Int)} (h : ws.length ≠ bs.length) : numsOk ws bs = false := by
  unfold numsOk
  rw [decide_eq_false h]
  rfl
theorem okN_get {y : Str} {lo hi : Int} (h : okN y (lo, hi) = true) : lo ≤ numI y ∧ numI y ≤ hi := by
  unfold okN inB at h
  rw [Bool.and_eq_true, Bool.and_eq_true, decide_eq_true_eq, decide_eq_true_eq] at h
  exact h.2
theorem nat_int {y : Str} {hi : Int} (h : okN y (0, hi) = true) : numI y = (nat y : Int) := by
  have := (okN_get h).1
  unfold nat
  omega
section
variable {P : Program} {w : World} {K : PySem.W.Frag} {mg : Str → Option Value} {base : Heap}
/-! ### _law_joined -/
theorem scLJo : FnScope ["lines", "a", "b", "line"] ["lines", "a", "b"] (defScope sLJo) := ⟨rfl, rfl, rfl, by decide +kernel, rfl, by decide +kernel, by decide +kernel⟩
def spLJo (K : PySem.W.Frag) : Sp := fun vs H Q _ => ∃ (l : Addr) (ts : List Addr) (ls : List (Nat × Nat × Int)) (a b : Nat), vs = [.ref l, .int (a : Int), .int (b : Int)] ∧ H l = some (.lst (ts.map V.ref)) ∧ LinesAt K H ts ls ∧ Q (.bl (ls.any (hits a b))) H
theorem ok_ljo {f : Addr} {fd : FuncData} {k : Nat} (F : Fun K "_law_joined" "_law_joined" sLJo f fd) : FnOk P w K mg base CX0 (k + 1) f fd ["lines", "a", "b"] (spLJo K) := by
  refine F.ok scLJo (fun vs H Q E h => ?_) (fun cdv A outer s H vs Q E hr h => ?_)
  · obtain ⟨l, ts, ls, a, b, rfl, _⟩ := h
    rfl
  · obtain ⟨l, ts, ls, a, b, rfl, hl, hT, q⟩ := h
    have nd := scLJo.nd
    refine ⟨_, pss_cons (ps_for PassesOwn.never rfl (pi_list (pv 0)) (pg_name (i := 3) nd rfl (.inl rfl)) (pss_one (ps_if (PW.pt (pw_or (PW.pt (pw_and (pt_cmpR op_eq (pe_ix ix_tup (pv 3) pe_int (fun _ _ => rfl)) (pv 1) (nomark _)) (pw_and1 (pt_cmpR op_eq (pe_ix ix_tup (pv 3) pe_int (fun _ _ => rfl)) (pv 2) (nomark _))))) (pw_or1 (PW.pt (pw_and (pt_cmpR op_eq (pe_ix ix_tup (pv 3) pe_int (fun _ _ => rfl)) (pv 2) (nomark _)) (pw_and1 (pt_cmpR op_eq (pe_ix ix_tup (pv 3) pe_int (fun _ _ => rfl)) (pv 1) (nomark _)))))))) (pss_one (ps_ret pe_bl)) (pss_nil)))) <| pss_one (ps_ret pe_bl), ?_⟩
    have lt : ts.length = ls.length := hT.length
    refine ⟨_, rfl, l, rfl, ⟨_, SqL.of hl⟩, for_list (K := K) (a := l) (xs := ts.map V.ref) (fun i σ H' => ∃ v3 : Option V, σ = [some (.ref l), some (.int (a : Int)), some (.int (b : Int)), v3] ∧ H' = H ∧ ∀ x ∈ ls.take i, hits a b x = false) ⟨none, rfl, rfl, fun x h => absurd h (by rw [List.take_zero]; exact List.not_mem_nil)⟩ (fun i σ H' _ ⟨_, _, e, _⟩ => e ▸ SqL.of hl) ?_ ?_⟩
    · rintro i x σ H' hi ⟨v3, rfl, rfl, hn⟩
      obtain ⟨t, et, rfl⟩ := refs_at hi
      obtain ⟨z, ez, hz⟩ := Paired.at hT et
      have g0 : atI (lineV z) 0 = some (.int (z.1 : Int)) := rfl
      have g1 : atI (lineV z) 1 = some (.int (z.2.1 : Int)) := rfl
      refine or_read (a := decide (z.1 = a) && decide (z.2.1 = b)) (b := decide (z.1 = b) && decide (z.2.1 = a)) (fun Q h => ?_) (fun Q h => ?_) ?_
      · refine and_read (a := decide (z.1 = a)) (b := decide (z.2.1 = b)) (fun Q h => ?_) (fun _ Q h => ?_) h
        · exact ⟨_, rfl, t, _, _, _, rfl, rfl, hz, g0, _, rfl, rfl, _, rfl, by rw [dec_nat]; exact h⟩
        · exact ⟨_, rfl, t, _, _, _, rfl, rfl, hz, g1, _, rfl, rfl, _, rfl, by rw [dec_nat]; exact h⟩
      · refine and_read (a := decide (z.1 = b)) (b := decide (z.2.1 = a)) (fun Q h => ?_) (fun _ Q h => ?_) h
        · exact ⟨_, rfl, t, _, _, _, rfl, rfl, hz, g0, _, rfl, rfl, _, rfl, by rw [dec_nat]; exact h⟩
        · exact ⟨_, rfl, t, _, _, _, rfl, rfl, hz, g1, _, rfl, rfl, _, rfl, by rw [dec_nat]; exact h⟩
      · refine ite2 (fun e => ?_) (fun e => ⟨_, rfl, rfl, fun x hx => ?_⟩)
        · rw [show ls.any (hits a b) = true from List.any_eq_true.mpr ⟨z, List.mem_of_getElem? ez, e⟩] at q
          exact q
        · rw [take_snoc ez] at hx
          rcases List.mem_append.mp hx with h | h
          · exact hn x h
          · rw [List.mem_singleton.mp h]
            exact Bool.eq_false_iff.mpr e
    · rintro σ H' ⟨v3, rfl, rfl, hn⟩
      rw [List.length_map, lt, List.take_length] at hn
      rw [show ls.any (hits a b) = false from List.any_eq_false.mpr fun x hx => by rw [hn x hx]; decide] at q
      exact q
/-! ### _law_line -/
theorem scLLine : FnScope ["row", "kinds", "lines", "words", "a", "b", "ticks"] ["row", "kinds", "lines"] (defScope sLLine) := ⟨rfl, rfl, rfl, by decide +kernel, rfl, by decide +kernel, by decide +kernel⟩
def SN (N : NetD) : RdD := ⟨0, "", N, []⟩
def spLLine (K : PySem.W.Frag) : Sp := fun vs H Q _ => ∃ (row : Str) (lk ll : Addr) (ts : List Addr) (N : NetD), vs = [.str row, .ref lk, .ref ll] ∧ Asc row ∧ row.length ≤ 250 ∧ H lk = some (.lst (N.ks.map kindV)) ∧ H ll = some (.lst (ts.map V.ref)) ∧ LinesAt K H ts N.ls ∧
  (lineOk (SN N) (Txt.split row (" " : Str)) → ∀ (H' : Hp) (t : Addr), Same H H' → H' t = some (.tup (lineV (lnOf (Txt.split row (" " : Str))))) → Q (.ref t) H') ∧ (¬ lineOk (SN N) (Txt.split row (" " : Str)) → ∀ H', Same H H' → Q .non H')
theorem ok_lline {f fN fJ : Addr} {fd fdN fdJ : FuncData} {k : Nat} (F : Fun K "_law_line" "_law_line" sLLine f fd) (T : Blt mg) (GN : Callee P w K mg base 1 "_law_number" ["word", "low", "high"] spNumL fN fdN) (GJ : Callee P w K mg base 1 "_law_joined" ["lines", "a", "b"] (spLJo K) fJ fdJ) :
    FnOk P w K mg base CX0 (k + 2) f fd ["row", "kinds", "lines"] (spLLine K) := by
  refine F.ok scLLine (fun vs H Q E h => ?_) (fun cdv A outer s H vs Q E hr h => ?_)
  · obtain ⟨row, lk, ll, ts, N, rfl, _⟩ := h
    rfl
  · obtain ⟨row, lk, ll, ts, N, rfl, ha, hl, hk, hll, hT, q1, q2⟩ := h
    have nd := scLLine.nd
    have hr1 : Room 1 _ := hr.mono (by omega)
    refine ⟨_, pss_cons (ps_set (i := 3) nd rfl (.inl rfl) (pe_split (pv 0) pe_str)) <| pss_cons (ps_if (pt_cmpR op_ne (pe_callB call_len_seq (by rfl) T.len PySem.boot_len (pa_cons (pv 3) pa_nil)) pe_int (nomark _)) (pss_one (ps_ret pe_non)) (pss_nil)) <| pss_cons (ps_set (i := 4) nd rfl (.inl rfl) (pe_call GN.ok hr1 (by rfl) GN.mg GN.kp GN.b .nil pass0 (pa_cons (pe_ix ix_list (pv 3) pe_int (fun _ _ => rfl)) (pa_cons pe_int (pa_cons (pe_op op_sub (pe_callB call_len_seq (by rfl) T.len PySem.boot_len (pa_cons (pv 1) pa_nil)) pe_int) pa_nil))))) <| pss_cons (ps_set (i := 5) nd rfl (.inl rfl) (pe_call GN.ok hr1 (by rfl) GN.mg GN.kp GN.b .nil pass0 (pa_cons (pe_ix ix_list (pv 3) pe_int (fun _ _ => rfl)) (pa_cons pe_int (pa_cons (pe_op op_sub (pe_callB call_len_seq (by rfl) T.len PySem.boot_len (pa_cons (pv 1) pa_nil)) pe_int) pa_nil))))) <| pss_cons (ps_set (i := 6) nd rfl (.inl rfl) (pe_call GN.ok hr1 (by rfl) GN.mg GN.kp GN.b .nil pass0 (pa_cons (pe_ix ix_list (pv 3) pe_int (fun _ _ => rfl)) (pa_cons pe_int (pa_cons pe_int pa_nil))))) <| pss_cons (ps_if (PW.pt (pw_or (pt_cmpR op_isN (pv 4) pe_non (nomark _)) (pw_or (pt_cmpR op_isN (pv 5) pe_non (nomark _)) (pw_or (pt_cmpR op_isN (pv 6) pe_non (nomark _)) (pw_or (pt_cmpR op_eq (pv 4) (pv 5) (nomark _)) (pw_or1 (pt_val (pe_call GJ.ok hr1 (by rfl) GJ.mg GJ.kp GJ.b .nil pass0 (pa_cons (pv 2) (pa_cons (pv 4) (pa_cons (pv 5) pa_nil))))))))))) (pss_one (ps_ret pe_non)) (pss_nil)) <| pss_one (ps_ret (pe_tup (pa_cons (pv 4) (pa_cons (pv 5) (pa_cons (pv 6) pa_nil))))), ?_⟩
    have cu := cut_sp row
    refine ⟨_, rfl, ⟨_, rfl⟩, _, _, rfl, rfl, by decide +kernel, Nat.le_trans (Nat.add_le_add_right hl 2) (by decide), fun L nL => ?_⟩
    generalize Txt.split row (" " : Str) = ws at cu q1 q2 ⊢
    have s1 : Same H (upd H L (.lst (ws.map V.str))) := same_new nL
    have hL : (upd H L (.lst (ws.map V.str))) L = some (.lst (ws.map V.str)) := upd_same
    generalize upd H L (.lst (ws.map V.str)) = H1 at s1 hL ⊢
    have asc := cu.asc ha
    have wln : ∀ y ∈ ws, y.length ≤ 640 := fun y hy => Nat.le_trans (cu.sub y hy).2 (by omega)
    refine ⟨_, rfl, L, _, rfl, .inl (SqL.of hL), rfl, _, rfl, ite2 (fun e => ?_) (fun e => ?_)⟩
    · have nl : ws.length ≠ 4 := by
        rw [Bool.not_eq_true', decide_eq_false_iff_not, V.int.injEq, List.length_map] at e
        omega
      exact q2 (fun z => by
        have := z.1
        rw [nums_ne (by rw [List.length_drop]; show ¬ (ws.length - 1 = 3); omega)] at this
        cases this) _ s1
    have l4 : ws.length = 4 := by
      rw [Bool.not_eq_true', decide_eq_false_iff_not, Classical.not_not, V.int.injEq, List.length_map] at e
      omega
    match ws, l4, cu, q1, q2, s1, hL, asc, wln with
    | [w0, w1, w2, w3], _, cu, q1, q2, s1, hL, asc, wln =>
      have a1 := asc w1 (by simp)
      have a2 := asc w2 (by simp)
      have a3 := asc w3 (by simp)
      have z1 := wln w1 (by simp)
      have z2 := wln w2 (by simp)
      have z3 := wln w3 (by simp)
      have hk1 := s1 _ _ hk
      have ek : ((N.ks.map kindV).length : Int) = (N.ks.length : Int) := by rw [List.length_map]
      refine ⟨_, rfl, L, _, _, _, rfl, rfl, SqL.of hL, (rfl : atI _ _ = some (V.str w1)), _, rfl, lk, _, rfl, .inl (SqL.of hk1), _, _, rfl, rfl, w1, _, _, rfl, a1, z1, ?_⟩
      refine ⟨_, rfl, L, _, _, _, rfl, rfl, SqL.of hL, (rfl : atI _ _ = some (V.str w2)), _, rfl, lk, _, rfl, .inl (SqL.of hk1), _, _, rfl, rfl, w2, _, _, rfl, a2, z2, ?_⟩
      refine ⟨_, rfl, L, _, _, _, rfl, rfl, SqL.of hL, (rfl : atI _ _ = some (V.str w3)), w3, 0, 20, rfl, a3, z3, ?_⟩
      rw [ek]
      have en : numsOk ([w0, w1, w2, w3].drop 1) [nodeB (SN N).N, nodeB (SN N).N, (0, 20)] = (okN w1 (0, (N.ks.length : Int) - 1) && (okN w2 (0, (N.ks.length : Int) - 1) && okN w3 (0, 20))) := by
        show numsOk [w1, w2, w3] _ = _
        rw [nums_cons, nums_cons, nums_cons, nums_nil, Bool.and_true]
        rfl
      have bad : (okN w1 (0, (N.ks.length : Int) - 1) && (okN w2 (0, (N.ks.length : Int) - 1) && okN w3 (0, 20))) = false → Q .non H1 := fun z => q2 (fun y => by have y1 := y.1; rw [en, z] at y1; exact absurd y1 (by decide)) _ s1
      dsimp only [tNext]
      cases h1 : okN w1 (0, (N.ks.length : Int) - 1) with
      | false =>
        rw [show numV w1 0 ((N.ks.length : Int) - 1) = none by rw [numV_ok, h1]; rfl]
        exact ⟨_, rfl, rfl, _, rfl, iteT (iteT (bad (by rw [h1]; rfl)))⟩
      | true =>
      rw [show numV w1 0 ((N.ks.length : Int) - 1) = some (numI w1) by rw [numV_ok, h1]; rfl]
      refine ⟨_, rfl, rfl, _, rfl, iteF ?_⟩
      cases h2 : okN w2 (0, (N.ks.length : Int) - 1) with
      | false =>
        rw [show numV w2 0 ((N.ks.length : Int) - 1) = none by rw [numV_ok, h2]; rfl]
        exact ⟨_, rfl, rfl, _, rfl, iteT (iteT (bad (by rw [h1, h2]; rfl)))⟩
      | true =>
      rw [show numV w2 0 ((N.ks.length : Int) - 1) = some (numI w2) by rw [numV_ok, h2]; rfl]
      refine ⟨_, rfl, rfl, _, rfl, iteF ?_⟩
      cases h3 : okN w3 (0, 20) with
      | false =>
        rw [show numV w3 0 20 = none by rw [numV_ok, h3]; rfl]
        exact ⟨_, rfl, rfl, _, rfl, iteT (iteT (bad (by rw [h1, h2, h3]; rfl)))⟩
      | true =>
      rw [show numV w3 0 20 = some (numI w3) by rw [numV_ok, h3]; rfl]
      refine ⟨_, rfl, rfl, _, rfl, iteF ?_⟩
      have n1 := nat_int h1
      have n2 := nat_int h2
      have el : lnOf [w0, w1, w2, w3] = (nat w1, nat w2, numI w3) := rfl
      refine or_read (a := decide (nat w1 = nat w2)) (b := N.ls.any (hits (nat w1) (nat w2))) (fun Q h => ?_) (fun Q h => ?_) ?_
      · refine ⟨_, rfl, _, rfl, rfl, _, rfl, ?_⟩
        show Q (decide (V.int (numI w1) = V.int (numI w2))) H1
        rw [n1, n2, dec_nat]
        exact h
      · refine ⟨_, rfl, _, rfl, _, rfl, ll, ts, N.ls, nat w1, nat w2, ?_, s1 _ _ hll, hT.same s1, _, rfl, h⟩
        show [V.ref ll, V.int (numI w1), V.int (numI w2)] = _
        rw [n1, n2]
      · have jn : joined N (nat w1) (nat w2) = none ↔ N.ls.any (hits (nat w1) (nat w2)) = false := by
          have := joined_some N (nat w1) (nat w2)
          unfold adj at this
          rw [← this]
          cases joined N (nat w1) (nat w2) <;> simp
        have ok1 : numsOk ([w0, w1, w2, w3].drop 1) [nodeB (SN N).N, nodeB (SN N).N, (0, 20)] = true := by rw [en, h1, h2, h3]; rfl
        refine ite2 (fun e => ?_) (fun e => ?_)
        · refine q2 (fun y => ?_) _ s1
          rw [Bool.or_eq_true, decide_eq_true_eq] at e
          rcases e with e | e
          · exact y.2.1 e
          · have := jn.mp y.2.2
            rw [this] at e
            cases e
        · have e := Bool.eq_false_iff.mpr e
          rw [Bool.or_eq_false_iff, decide_eq_false_iff_not] at e
          refine ⟨_, rfl, _, rfl, _, rfl, by show 3 ≤ sizeLine; decide, fun t nt => ?_⟩
          refine q1 ⟨ok1, e.1, jn.mpr e.2⟩ _ t (s1.trans (same_new nt)) ?_
          rw [el]
          show (upd H1 t (.tup [V.int (numI w1), V.int (numI w2), V.int (numI w3)])) t = some (.tup [V.int (nat w1 : Int), V.int (nat w2 : Int), V.int (numI w3)])
          rw [n1, n2]
          exact upd_same
end
end My
namespace My
open PySem PySem.Spec PyProof.Rows L2
abbrev sLStr : Stmt := top 24 /-_law_stream-/
theorem all_nums (lo hi : Int) : ∀ W : List Str, allN (W.map fun y => numV y lo hi) = if W.all (fun y => okN y (lo, hi)) = true then some (W.map numI) else none
  | [] => rfl
  | y :: W => by
    rw [List.map_cons, List.all_cons, List.map_cons, numV_ok]
    cases h : okN y (lo, hi) with
    | false => rfl
    | true =>
      rw [if_pos rfl, Bool.true_and]
      show (allN (W.map fun y => numV y lo hi)).map (numI y :: ·) = _
      rw [all_nums lo hi W]
      cases W.all fun y => okN y (lo, hi) <;> rfl
theorem nums_rep (b : Int × Int) : ∀ (W : List Str) (n : Nat), numsOk W (List.replicate n b) = (decide (W.length = n) && W.all fun y => okN y b)
  | [], 0 => rfl
  | [], n + 1 => by
    rw [nums_ne (by simp), decide_eq_false (by simp)]
    rfl
  | y :: W, 0 => by
    rw [nums_ne (by simp), decide_eq_false (by simp)]
    rfl
  | y :: W, n + 1 => by
    rw [List.replicate_succ, nums_cons, nums_rep b W n, List.all_cons, List.length_cons]
    have e : decide (W.length + 1 = n + 1) = decide (W.length = n) := by
      rw [Bool.eq_iff_iff, decide_eq_true_eq, decide_eq_true_eq]
      omega
    rw [e]
    cases okN y b <;> cases decide (W.length = n) <;> simp
/-- one node of a path, as the law looks at it -/
def stepP (N : NetD) (r : List Nat) (k : Nat) : Prop := r.getD k 0 ∉ r.take k ∧ host N (r.getD k 0) = (decide (k = 0) || decide (k + 1 = r.length)) ∧ (0 < k → adj N (r.getD (k - 1) 0) (r.getD k 0) = true)
theorem isP_steps {N : NetD} {r : List Nat} : IsP N r ↔ 2 ≤ r.length ∧ ∀ k, k < r.length → stepP N r k := by
  have gd : ∀ {i : Nat} (h : i < r.length), r.getD i 0 = r[i] := fun {i} h => by rw [List.getD_eq_getElem?_getD, List.getElem?_eq_getElem h]; rfl
  constructor
  · intro h
    refine ⟨h.two, fun k hk => ⟨fun hm => ?_, h.hs k hk, fun h0 => ?_⟩⟩
    · obtain ⟨i, hi⟩ := List.getElem?_of_mem hm
      obtain ⟨il, e⟩ := List.getElem?_eq_some_iff.mp hi
      rw [List.length_take] at il
      rw [List.getElem_take, gd hk] at e
      exact List.pairwise_iff_getElem.mp h.nd i k (by omega) hk (by omega) e
    · have := h.ad (k - 1) (by omega)
      rw [show k - 1 + 1 = k by omega] at this
      exact this
  · rintro ⟨two, hs⟩
    refine ⟨two, ?_, fun k hk => (hs k hk).2.1, fun k hk => (hs (k + 1) hk).2.2 (by omega)⟩
    refine List.pairwise_iff_getElem.mpr fun i j hi hj hij e => (hs j hj).1 ?_
    rw [gd hj, ← e]
    refine List.mem_of_getElem? (i := i) ?_
    rw [List.getElem?_take, if_pos hij, List.getElem?_eq_getElem hi]
theorem inV_nats {r : List Nat} {n : Nat} : inV (V.int (n : Int)) ((r.map fun (x : Nat) => (x : Int)).map V.int) = decide (n ∈ r) := by
  induction r with
  | nil => rfl
  | cons a t ih =>
    show (eqV (V.int (a : Int)) (V.int (n : Int)) || inV (V.int (n : Int)) ((t.map fun (x : Nat) => (x : Int)).map V.int)) = _
    rw [ih]
    have e : eqV (V.int (a : Int)) (V.int (n : Int)) = decide (a = n) := by
      show ((a : Int) == (n : Int)) = _
      rw [Bool.eq_iff_iff, beq_iff_eq, decide_eq_true_eq]
      omega
    rw [e, Bool.eq_iff_iff, Bool.or_eq_true, decide_eq_true_eq, decide_eq_true_eq, decide_eq_true_eq, List.mem_cons]
    constructor
    · rintro (h | h)
      · exact .inl h.symm
      · exact .inr h
    · rintro (h | h)
      · exact .inl h.symm
      · exact .inr h
theorem flat_nats (r : List Nat) : ((r.map fun (x : Nat) => (x : Int)).map V.int).all flatV = true := List.all_eq_true.mpr fun v h => by
  obtain ⟨a, _, rfl⟩ := List.mem_map.mp h
  rfl
theorem kind_host (b : Bool) : decide (kindV b = V.str "host") = b := by cases b <;> decide +kernel
/-- a stream's line as the law looks at it -/
theorem str_iff {N : NetD} {w0 w1 w2 w3 w4 w5 : Str} : strOk (SN N) [w0, w1, w2, w3, w4, w5] ↔ okN w1 (1, 60) = true ∧ okN w2 (1, numI w1) = true ∧ okN w3 (1, 300) = true ∧
    ((Txt.split w4 ("," : Str)).all fun y => okN y (0, (N.ks.length : Int) - 1)) = true ∧ ((Txt.split w5 ("," : Str)).all fun y => okN y (0, 500)) = true ∧ (Txt.split w5 ("," : Str)).length = (Txt.split w4 ("," : Str)).length - 1 ∧ IsP N ((Txt.split w4 ("," : Str)).map nat) := by
  have e3 : numsOk (([w0, w1, w2, w3, w4, w5].drop 1).take 3) [(1, 60), (1, 60), (1, 300)] = (okN w1 (1, 60) && (okN w2 (1, 60) && okN w3 (1, 300))) := by
    show numsOk [w1, w2, w3] _ = _
    rw [nums_cons, nums_cons, nums_cons, nums_nil, Bool.and_true]
  have e4 : numsOk (Txt.split w4 ("," : Str)) (List.replicate (Txt.split w4 ("," : Str)).length (nodeB N)) = (Txt.split w4 ("," : Str)).all fun y => okN y (0, (N.ks.length : Int) - 1) := by
    rw [nums_rep, decide_eq_true rfl, Bool.true_and]
    rfl
  have e5 : numsOk (Txt.split w5 ("," : Str)) (List.replicate (((Txt.split w4 ("," : Str)).map nat).length - 1) (0, 500)) = (decide ((Txt.split w5 ("," : Str)).length = (Txt.split w4 ("," : Str)).length - 1) && (Txt.split w5 ("," : Str)).all fun y => okN y (0, 500)) := by
    rw [nums_rep, List.length_map]
  have k2 : ∀ {hi : Int}, okN w2 (1, hi) = true ↔ isNumT w2 = true ∧ 1 ≤ numI w2 ∧ numI w2 ≤ hi := fun {hi} => by
    unfold okN inB
    rw [Bool.and_eq_true, Bool.and_eq_true, decide_eq_true_eq, decide_eq_true_eq]
  constructor
  · rintro ⟨_, h1, h2, h3, h4, h5⟩
    rw [e3, Bool.and_eq_true, Bool.and_eq_true] at h1
    have h3 : numsOk (Txt.split w4 ("," : Str)) (List.replicate (Txt.split w4 ("," : Str)).length (nodeB N)) = true := h3
    rw [e4] at h3
    have h5 : numsOk (Txt.split w5 ("," : Str)) (List.replicate (((Txt.split w4 ("," : Str)).map nat).length - 1) (0, 500)) = true := h5
    rw [e5, Bool.and_eq_true, decide_eq_true_eq] at h5
    have h2 : numI w2 ≤ numI w1 := h2
    have q := k2.mp h1.2.1
    exact ⟨h1.1, k2.mpr ⟨q.1, q.2.1, h2⟩, h1.2.2, h3, h5.2, h5.1, h4⟩
  · rintro ⟨h1, h2, h3, h4, h5, h6, h7⟩
    have q1 := okN_get h1
    have q := k2.mp h2
    refine ⟨rfl, by rw [e3, h1, k2.mpr ⟨q.1, q.2.1, by omega⟩, h3]; rfl, q.2.2, e4.trans h4, h7, ?_⟩
    refine e5.trans ?_
    rw [decide_eq_true h6, h5]
    rfl
end My
namespace My
open PySem PySem.Spec PyProof.Rows L2
def NumsRes (H0 H : Hp) (v : V) (l : Option (List Int)) : Prop := (v = .non ∧ l = none) ∨ ∃ (p : Addr) (is : List Int), v = .ref p ∧ l = some is ∧ H p = some (.lst (is.map V.int)) ∧ H0 p = none
theorem NumsRes.same {H0 H H' : Hp} {v : V} {l : Option (List Int)} (h : NumsRes H0 H v l) (s : Same H H') : NumsRes H0 H' v l := by
  rcases h with h | ⟨p, is, h1, h2, h3, h4⟩
  · exact .inl h
  · exact .inr ⟨p, is, h1, h2, s _ _ h3, h4⟩
def spNumsU : Sp := fun vs H Q _ => ∃ (t : Str) (lo hi : Int), vs = [.str t, .int lo, .int hi] ∧ Asc t ∧ t.length ≤ 640 ∧ ∀ (H' : Hp) (v : V), Same H H' → NumsRes H H' v (allN (numsV t lo hi)) → Q v H'
theorem numsU {P : Program} {w : World} {K : PySem.W.Frag} {mg : Str → Option Value} {base : Heap} {f : Addr} {fd : FuncData} (G : Callee P w K mg base 2 "_law_numbers" ["text", "low", "high"] spNumsL f fd) : Callee P w K mg base 2 "_law_numbers" ["text", "low", "high"] spNumsU f fd :=
  ⟨G.ok.imp fun vs H Q E h => by
    obtain ⟨t, lo, hi, e, ha, hl, q⟩ := h
    exact ⟨t, lo, hi, e, ha, hl, fun hn H' s => q H' .non s (.inl ⟨rfl, hn⟩), fun is hs H' p s np hp => q H' (.ref p) s (.inr ⟨p, is, rfl, hs, hp, np⟩)⟩, G.mg, G.kp, G.b⟩
theorem cutI_to {xs : List Int} {k : Nat} : cutV (xs.map V.int) none (some (k : Int)) = (xs.take k).map V.int := by
  unfold cutV
  rw [HT.sIx_nat, HT.sIx_none, List.drop_zero, Nat.sub_zero, ← List.map_take]
  congr 1
  rcases Nat.le_total k (xs.map V.int).length with c | c
  · rw [Nat.min_eq_left c]
  · rw [Nat.min_eq_right c, List.length_map, List.take_length, List.take_of_length_le]
    rw [List.length_map] at c
    exact c
section
variable {P : Program} {w : World} {K : PySem.W.Frag} {mg : Str → Option Value} {base : Heap}
theorem scLStr : FnScope ["row", "kinds", "lines", "words", "period", "length", "limit", "path", "offsets", "k"] ["row", "kinds", "lines"] (defScope sLStr) := ⟨rfl, rfl, rfl, by decide +kernel, rfl, by decide +kernel, by decide +kernel⟩
def okS (N : NetD) (ws : List Str) : Prop := strOk (SN N) ws ∧ wd ws 0 = ("stream" : Str)
def spLStr (K : PySem.W.Frag) (C2 : Addr) : Sp := fun vs H Q _ => ∃ (row : Str) (lk ll : Addr) (ts : List Addr) (N : NetD), vs = [.str row, .ref lk, .ref ll] ∧ Asc row ∧ row.length ≤ 250 ∧ H lk = some (.lst (N.ks.map kindV)) ∧ H ll = some (.lst (ts.map V.ref)) ∧ LinesAt K H ts N.ls ∧ 0 < N.ks.length ∧
  (okS N (Txt.split row (" " : Str)) → ∀ (H' : Hp) (t : Addr), Same H H' → (∀ L : List Addr, (∀ a ∈ L, H a ≠ none) → EntR C2 (hid L H') t (entOf (Txt.split row (" " : Str)))) → Q (.ref t) H') ∧ (¬ okS N (Txt.split row (" " : Str)) → ∀ H', Same H H' → Q .non H')
theorem ok_lstr {f fN fNs fJ C2 fS : Addr} {fd fdN fdNs fdJ fdS : FuncData} {k : Nat} (F : Fun K "_law_stream" "_law_stream" sLStr f fd) (T : Blt mg) (GN : Callee P w K mg base 1 "_law_number" ["word", "low", "high"] spNumL fN fdN) (GNs0 : Callee P w K mg base 2 "_law_numbers" ["text", "low", "high"] spNumsL fNs fdNs)
    (GJ : Callee P w K mg base 1 "_law_joined" ["lines", "a", "b"] (spLJo K) fJ fdJ) (GS : StrMk P w K mg base C2 fS fdS) : FnOk P w K mg base CX0 (k + 3) f fd ["row", "kinds", "lines"] (spLStr K C2) := by
  have GNs := numsU GNs0
  refine F.ok scLStr (fun vs H Q E h => ?_) (fun cdv A outer s H vs Q E hr h => ?_)
  · obtain ⟨row, lk, ll, ts, N, rfl, _⟩ := h
    rfl
  · obtain ⟨row, lk, ll, ts, N, rfl, ha, hl, hk, hll, hT, n0, q1, q2⟩ := h
    have nd := scLStr.nd
    have hr1 : Room 1 _ := hr.mono (by omega)
    have hr2 : Room 2 _ := hr.mono (by omega)
    refine ⟨_, pss_cons (ps_set (i := 3) nd rfl (.inl rfl) (pe_split (pv 0) pe_str)) <| pss_cons (ps_if (PW.pt (pw_or (pt_cmpR op_ne (pe_callB call_len_seq (by rfl) T.len PySem.boot_len (pa_cons (pv 3) pa_nil)) pe_int (nomark _)) (pw_or1 (pt_cmpR op_ne (pe_ix ix_list (pv 3) pe_int (fun _ _ => rfl)) pe_str (nomark _))))) (pss_one (ps_ret pe_non)) (pss_nil)) <| pss_cons (ps_set (i := 4) nd rfl (.inl rfl) (pe_call GN.ok hr1 (by rfl) GN.mg GN.kp GN.b .nil pass0 (pa_cons (pe_ix ix_list (pv 3) pe_int (fun _ _ => rfl)) (pa_cons pe_int (pa_cons pe_int pa_nil))))) <| pss_cons (ps_if (pt_cmpR op_isN (pv 4) pe_non (nomark _)) (pss_one (ps_ret pe_non)) (pss_nil)) <| pss_cons (ps_set (i := 5) nd rfl (.inl rfl) (pe_call GN.ok hr1 (by rfl) GN.mg GN.kp GN.b .nil pass0 (pa_cons (pe_ix ix_list (pv 3) pe_int (fun _ _ => rfl)) (pa_cons pe_int (pa_cons (pv 4) pa_nil))))) <| pss_cons (ps_set (i := 6) nd rfl (.inl rfl) (pe_call GN.ok hr1 (by rfl) GN.mg GN.kp GN.b .nil pass0 (pa_cons (pe_ix ix_list (pv 3) pe_int (fun _ _ => rfl)) (pa_cons pe_int (pa_cons pe_int pa_nil))))) <| pss_cons (ps_set (i := 7) nd rfl (.inl rfl) (pe_call GNs.ok hr2 (by rfl) GNs.mg GNs.kp GNs.b .nil pass0 (pa_cons (pe_ix ix_list (pv 3) pe_int (fun _ _ => rfl)) (pa_cons pe_int (pa_cons (pe_op op_sub (pe_callB call_len_seq (by rfl) T.len PySem.boot_len (pa_cons (pv 1) pa_nil)) pe_int) pa_nil))))) <| pss_cons (ps_set (i := 8) nd rfl (.inl rfl) (pe_call GNs.ok hr2 (by rfl) GNs.mg GNs.kp GNs.b .nil pass0 (pa_cons (pe_ix ix_list (pv 3) pe_int (fun _ _ => rfl)) (pa_cons pe_int (pa_cons pe_int pa_nil))))) <| pss_cons (ps_if (PW.pt (pw_or (pt_cmpR op_isN (pv 5) pe_non (nomark _)) (pw_or (pt_cmpR op_isN (pv 6) pe_non (nomark _)) (pw_or (pt_cmpR op_isN (pv 7) pe_non (nomark _)) (pw_or (pt_cmpR op_isN (pv 8) pe_non (nomark _)) (pw_or1 (pt_cmpR op_ne (pe_callB call_len_seq (by rfl) T.len PySem.boot_len (pa_cons (pv 8) pa_nil)) (pe_op op_sub (pe_callB call_len_seq (by rfl) T.len PySem.boot_len (pa_cons (pv 7) pa_nil)) pe_int) (nomark _)))))))) (pss_one (ps_ret pe_non)) (pss_nil)) <| pss_cons (ps_for PassesOwn.never rfl (pi_range1 (by rfl) T.range (pa_cons (pe_callB call_len_seq (by rfl) T.len PySem.boot_len (pa_cons (pv 7) pa_nil)) pa_nil)) (pg_name (i := 9) nd rfl (.inl rfl)) (pss_cons (ps_if (PW.pt (pw_or (pt_cmpR op_in_seq (pe_ix ix_list (pv 7) (pv 9) (fun _ _ => rfl)) (pe_slice sl_list (pv 7) po_none (po_some (pv 9))) rfl) (pw_or1 (pt_cmpR op_ne (pe_cmpR op_eq (pe_ix ix_list (pv 1) (pe_ix ix_list (pv 7) (pv 9) (fun _ _ => rfl)) (fun _ _ => rfl)) pe_str (nomark _)) (pe_or (pe_cmpR op_eq (pv 9) pe_int (nomark _)) (pe_one (pe_cmpR op_eq (pv 9) (pe_op op_sub (pe_callB call_len_seq (by rfl) T.len PySem.boot_len (pa_cons (pv 7) pa_nil)) pe_int) (nomark _)))) (nomark _))))) (pss_one (ps_ret pe_non)) (pss_nil)) <| pss_one (ps_if (PW.pt (pw_and (pt_cmpR op_gt (pv 9) pe_int (nomark _)) (pw_and1 (pt_not (pt_val (pe_call GJ.ok hr1 (by rfl) GJ.mg GJ.kp GJ.b .nil pass0 (pa_cons (pv 2) (pa_cons (pe_ix ix_list (pv 7) (pe_op op_sub (pv 9) pe_int) (fun _ _ => rfl)) (pa_cons (pe_ix ix_list (pv 7) (pv 9) (fun _ _ => rfl)) pa_nil))))))))) (pss_one (ps_ret pe_non)) (pss_nil)))) <| pss_cons (ps_if (pt_cmpR op_lt (pe_callB call_len_seq (by rfl) T.len PySem.boot_len (pa_cons (pv 7) pa_nil)) pe_int (nomark _)) (pss_one (ps_ret pe_non)) (pss_nil)) <| pss_one (ps_ret (pe_tup (pa_cons (pe_make GS.mkC GS.ok hr2 (by rfl) GS.mg GS.b .nil pass0 (pa_cons (pv 4) (pa_cons (pv 5) (pa_cons (pv 6) (pa_cons (pv 7) pa_nil))))) (pa_cons (pv 8) pa_nil)))), ?_⟩
    have cu := cut_sp row
    refine ⟨_, rfl, ⟨_, rfl⟩, _, _, rfl, rfl, by decide +kernel, Nat.le_trans (Nat.add_le_add_right hl 2) (by decide), fun L nL => ?_⟩
    generalize Txt.split row (" " : Str) = ws at cu q1 q2 ⊢
    have s1 : Same H (upd H L (.lst (ws.map V.str))) := same_new nL
    have hL : (upd H L (.lst (ws.map V.str))) L = some (.lst (ws.map V.str)) := upd_same
    generalize upd H L (.lst (ws.map V.str)) = H1 at s1 hL ⊢
    have asc := cu.asc ha
    have wln : ∀ y ∈ ws, y.length ≤ 250 := fun y hy => Nat.le_trans (cu.sub y hy).2 hl
    dsimp only [tNext]
    by_cases l6 : ws.length = 6
    case neg => exact ⟨_, rfl, L, _, rfl, .inl (SqL.of hL), rfl, _, rfl, ite2 (fun _ => iteT (q2 (fun z => l6 z.1.1) _ s1)) (fun e => by
      rw [Bool.not_eq_true', decide_eq_false_iff_not, V.int.injEq, List.length_map, Classical.not_not] at e
      omega)⟩
    obtain ⟨w0, w1, w2, w3, w4, w5, rfl⟩ := six l6
    refine ⟨_, rfl, L, _, rfl, .inl (SqL.of hL), rfl, _, rfl, iteF ?_⟩
    refine ⟨_, rfl, L, _, _, _, rfl, rfl, SqL.of hL, (rfl : atI _ _ = some (V.str w0)), rfl, _, rfl, ite2 (fun e => ?_) (fun e => ?_)⟩
    · refine q2 (fun z => ?_) _ s1
      have z : w0 = ("stream" : Str) := z.2
      rw [z] at e
      exact absurd e (by decide +kernel)
    have ew : w0 = ("stream" : Str) := by
      rw [Bool.not_eq_true', decide_eq_false_iff_not, V.str.injEq, Classical.not_not] at e
      exact e
    have a1 := asc w1 (by simp)
    have a2 := asc w2 (by simp)
    have a3 := asc w3 (by simp)
    have a4 := asc w4 (by simp)
    have a5 := asc w5 (by simp)
    have z1 := wln w1 (by simp)
    have z2 := wln w2 (by simp)
    have z3 := wln w3 (by simp)
    have z4 := wln w4 (by simp)
    have z5 := wln w5 (by simp)
    have hk1 := s1 _ _ hk
    have ek : ((N.ks.map kindV).length : Int) = (N.ks.length : Int) := by rw [List.length_map]
    have up : ∀ {n : Nat}, n ≤ 250 → n ≤ 640 := fun h => Nat.le_trans h (by decide)
    have bad : ∀ H', Same H H' → ¬ (okN w1 (1, 60) = true ∧ okN w2 (1, numI w1) = true ∧ okN w3 (1, 300) = true ∧
      ((Txt.split w4 ("," : Str)).all fun y => okN y (0, (N.ks.length : Int) - 1)) = true ∧ ((Txt.split w5 ("," : Str)).all fun y => okN y (0, 500)) = true ∧ (Txt.split w5 ("," : Str)).length = (Txt.split w4 ("," : Str)).length - 1 ∧ IsP N ((Txt.split w4 ("," : Str)).map nat)) → Q .non H' :=
      fun H' s z => q2 (fun y => z (str_iff.mp y.1)) _ s
    refine ⟨_, rfl, L, _, _, _, rfl, rfl, SqL.of hL, (rfl : atI _ _ = some (V.str w1)), w1, 1, 60, rfl, a1, up z1, ?_⟩
    cases h1 : okN w1 (1, 60) with
    | false =>
      rw [show numV w1 1 60 = none by rw [numV_ok, h1]; rfl]
      exact ⟨_, rfl, rfl, _, rfl, iteT (bad _ s1 fun z => by rw [h1] at z; exact absurd z.1 (by decide))⟩
    | true =>
    rw [show numV w1 1 60 = some (numI w1) by rw [numV_ok, h1]; rfl]
    refine ⟨_, rfl, rfl, _, rfl, iteF ?_⟩
    refine ⟨_, rfl, L, _, _, _, rfl, rfl, SqL.of hL, (rfl : atI _ _ = some (V.str w2)), _, rfl, w2, 1, numI w1, rfl, a2, up z2, ?_⟩
    refine ⟨_, rfl, L, _, _, _, rfl, rfl, SqL.of hL, (rfl : atI _ _ = some (V.str w3)), w3, 1, 300, rfl, a3, up z3, ?_⟩
    refine ⟨_, rfl, L, _, _, _, rfl, rfl, SqL.of hL, (rfl : atI _ _ = some (V.str w4)), _, rfl, lk, _, rfl, .inl (SqL.of hk1), _, _, rfl, rfl, w4, 0, _, rfl, a4, up z4, fun H2 v7 s2 r7 => ?_⟩
    rw [ek] at r7
    refine ⟨_, rfl, L, _, _, _, rfl, rfl, SqL.of (s2 _ _ hL), (rfl : atI _ _ = some (V.str w5)), w5, 0, 500, rfl, a5, up z5, fun H3 v8 s3 r8 => ?_⟩
    have r7 := r7.same s3
    have S3 := (s1.trans s2).trans s3
    dsimp only [tNext]
    cases h2 : okN w2 (1, numI w1) with
    | false =>
      rw [show numV w2 1 (numI w1) = none by rw [numV_ok, h2]; rfl]
      exact ⟨_, rfl, rfl, _, rfl, iteT (iteT (bad _ S3 fun z => by rw [h2] at z; exact absurd z.2.1 (by decide)))⟩
    | true =>
    rw [show numV w2 1 (numI w1) = some (numI w2) by rw [numV_ok, h2]; rfl]
    refine ⟨_, rfl, rfl, _, rfl, iteF ?_⟩
    cases h3 : okN w3 (1, 300) with
    | false =>
      rw [show numV w3 1 300 = none by rw [numV_ok, h3]; rfl]
      exact ⟨_, rfl, rfl, _, rfl, iteT (iteT (bad _ S3 fun z => by rw [h3] at z; exact absurd z.2.2.1 (by decide)))⟩
    | true =>
    rw [show numV w3 1 300 = some (numI w3) by rw [numV_ok, h3]; rfl]
    refine ⟨_, rfl, rfl, _, rfl, iteF ?_⟩
    have c4 := cut_co w4
    have c5 := cut_co w5
    unfold numsV at r7 r8
    rw [all_nums] at r7 r8
    generalize e4 : Txt.split w4 ("," : Str) = W4 at r7 bad c4
    generalize e5 : Txt.split w5 ("," : Str) = W5 at r8 bad c5
    rcases r7 with ⟨rfl, g4⟩ | ⟨p7, is7, rfl, g4, hp7, _⟩
    · refine ⟨_, rfl, rfl, _, rfl, iteT (iteT (bad _ S3 fun z => ?_))⟩
      rw [if_pos z.2.2.2.1] at g4
      cases g4
    refine ⟨_, rfl, rfl, _, rfl, iteF ?_⟩
    rcases r8 with ⟨rfl, g5⟩ | ⟨p8, is8, rfl, g5, hp8, np8⟩
    · refine ⟨_, rfl, rfl, _, rfl, iteT (iteT (bad _ S3 fun z => ?_))⟩
      rw [if_pos z.2.2.2.2.1] at g5
      cases g5
    refine ⟨_, rfl, rfl, _, rfl, iteF ?_⟩
    have h4 : (W4.all fun y => okN y (0, (N.ks.length : Int) - 1)) = true := by
      cases h : (W4.all fun y => okN y (0, (N.ks.length : Int) - 1)) with
      | true => rfl
      | false => rw [h, if_neg (by decide)] at g4; cases g4
    have h5 : (W5.all fun y => okN y (0, 500)) = true := by
      cases h : (W5.all fun y => okN y (0, 500)) with
      | true => rfl
      | false => rw [h, if_neg (by decide)] at g5; cases g5
    rw [if_pos h4, Option.some.injEq] at g4
    rw [if_pos h5, Option.some.injEq] at g5
    subst g4 g5
    have er : W4.map numI = (W4.map nat).map fun (x : Nat) => (x : Int) := by
      rw [List.map_map]
      exact List.map_congr_left fun y hy => nat_int (List.all_eq_true.mp h4 y hy)
    have hlt : ∀ x ∈ W4.map nat, x < N.ks.length := fun x hx => by
      obtain ⟨y, hy, rfl⟩ := List.mem_map.mp hx
      have o := List.all_eq_true.mp h4 y hy
      have := (okN_get o).2
      rw [nat_int o] at this
      omega
    have lr : (W4.map nat).length = W4.length := List.length_map ..
    have l4 : W4.length ≤ 260 := Nat.le_trans c4.cnt (by omega)
    have n4 : 0 < W4.length := List.length_pos_iff.mpr c4.ne
    rw [er] at hp7
    generalize er2 : W4.map nat = r at hp7 hlt lr bad
    have lp : ((r.map fun (x : Nat) => (x : Int)).map V.int).length = r.length := by rw [List.length_map, List.length_map]
    have l8 : ((W5.map numI).map V.int).length = W5.length := by rw [List.length_map, List.length_map]
    refine ⟨_, rfl, p8, _, rfl, .inl (SqL.of hp8), _, rfl, p7, _, rfl, .inl (SqL.of hp7), _, _, rfl, rfl, rfl, _, rfl, ite2 (fun e => bad _ S3 fun z => ?_) (fun e => ?_)⟩
    · rw [Bool.not_eq_true', decide_eq_false_iff_not, V.int.injEq, l8, lp] at e
      have := z.2.2.2.2.2.1
      omega
    have e6 : W5.length = W4.length - 1 := by
      rw [Bool.not_eq_true', decide_eq_false_iff_not, Classical.not_not, V.int.injEq, l8, lp] at e
      omega
    have atp : ∀ {H' : Hp} {j : Nat}, j < r.length → atI ((r.map fun (x : Nat) => (x : Int)).map V.int) (j : Int) = some (.int ((r.getD j 0 : Nat) : Int)) := fun {H' j} hj => by
      refine atI_nat ?_
      rw [List.getElem?_map, List.getElem?_map, getD_at 0 hj]
      rfl
    -- the nodes of the path, one by one
    refine ⟨_, rfl, p7, _, rfl, .inl (SqL.of hp7), _, rfl, by rw [lp]; omega, by rw [lp]; omega, ?_⟩
    rw [lp, Int.toNat_natCast]
    refine for_range (lo := 0) (n := r.length) (fun i σ H' => ∃ v9 : Option V, σ = [some (.str row), some (.ref lk), some (.ref ll), some (.ref L), some (.int (numI w1)), some (.int (numI w2)), some (.int (numI w3)), some (.ref p7), some (.ref p8), v9] ∧ Same H3 H' ∧ ∀ k, k < i → stepP N r k) ⟨none, rfl, Same.refl _, fun k hk => absurd hk (by omega)⟩ ?_ ?_
    · rintro i σ H' hi ⟨v9, rfl, sm, hs⟩
      rw [Int.zero_add]
      have SM := S3.trans sm
      have hp := sm _ _ hp7
      have hki := SM _ _ hk
      have hni := hlt _ (List.mem_of_getElem? (getD_at 0 hi))
      have bi : ∀ H', Same H H' → ¬ stepP N r i → Q .non H' := fun H' s z => bad H' s fun y => z ((isP_steps.mp y.2.2.2.2.2.2).2 i hi)
      refine or_read2 (a := decide (r.getD i 0 ∈ r.take i)) (b := !decide (host N (r.getD i 0) = (decide (i = 0) || decide (i + 1 = r.length)))) (fun Q h => ?_) (fun H4 s4 Q h => ?_) (fun H4 s4 => ?_)
      · refine ⟨_, rfl, _, rfl, p7, _, _, _, rfl, rfl, SqL.of hp, atp (H' := H') hi, _, rfl, _, rfl, _, rfl, p7, _, rfl, SqL.of hp, fun y ny => ?_⟩
        rw [cutI_to, ← List.map_take]
        refine ⟨y, _, rfl, .inl (SqL.of upd_same), rfl, flat_nats _, _, rfl, ?_⟩
        rw [if_neg (by decide), inV_nats]
        exact h _ (same_new ny)
      · refine ⟨_, rfl, _, rfl, _, rfl, p7, _, _, _, rfl, rfl, SqL.of (s4 _ _ hp), atp (H' := H') hi, lk, _, _, _, rfl, rfl, SqL.of (s4 _ _ hki), atI_kind rfl hni, rfl, ?_⟩
        rw [kind_host]
        refine orv (a := decide (i = 0)) (b := decide (i + 1 = r.length)) (fun Q h => ⟨_, rfl, rfl, ?_⟩) (fun _ Q h => ⟨_, rfl, _, rfl, p7, _, rfl, .inl (SqL.of (s4 _ _ hp)), _, _, rfl, rfl, rfl, ?_⟩) ⟨rfl, _, rfl, ?_⟩
        · rw [show decide (V.int (i : Int) = V.int 0) = decide (i = 0) from dec_nat i 0]
          exact h
        · rw [lp]
          have : decide (V.int (i : Int) = V.int ((r.length : Int) - 1)) = decide (i + 1 = r.length) := by
            rw [Bool.eq_iff_iff, decide_eq_true_eq, decide_eq_true_eq, V.int.injEq]
            omega
          rw [this]
          exact h
        · have e : decide (V.bl (host N (r.getD i 0)) = V.bl (decide (i = 0) || decide (i + 1 = r.length))) = decide (host N (r.getD i 0) = (decide (i = 0) || decide (i + 1 = r.length))) := by rw [Bool.eq_iff_iff, decide_eq_true_eq, decide_eq_true_eq, V.bl.injEq]
          rw [← e] at h
          exact h H4 (Same.refl _)
      · refine ite2 (fun e => ?_) (fun e => ?_)
        · refine bi _ (SM.trans s4) fun z => ?_
          rw [Bool.or_eq_true, decide_eq_true_eq, Bool.not_eq_true', decide_eq_false_iff_not] at e
          rcases e with e | e
          · exact z.1 e
          · exact e z.2.1
        · have e := Bool.eq_false_iff.mpr e
          rw [Bool.or_eq_false_iff, decide_eq_false_iff_not, Bool.not_eq_false', decide_eq_true_eq] at e
          dsimp only [tNext]
          refine and_read (a := decide (0 < i)) (b := !(N.ls.any (hits (r.getD (i - 1) 0) (r.getD i 0)))) (fun Q h => ⟨_, rfl, _, _, rfl, rfl, _, rfl, ?_⟩) (fun e0 Q h => ?_) ?_
          · rw [show decide ((i : Int) > 0) = decide (0 < i) by rw [Bool.eq_iff_iff, decide_eq_true_eq, decide_eq_true_eq]; omega]
            exact h
          · have i0 := of_decide_eq_true e0
            have at1 : atI ((r.map fun (x : Nat) => (x : Int)).map V.int) ((i : Int) - 1) = some (.int ((r.getD (i - 1) 0 : Nat) : Int)) := by
              rw [show (i : Int) - 1 = ((i - 1 : Nat) : Int) by omega]
              exact atp (H' := H') (by omega)
            exact ⟨_, rfl, _, rfl, _, rfl, _, _, rfl, rfl, p7, _, _, _, rfl, rfl, SqL.of (s4 _ _ hp), at1, _, rfl, _, rfl, p7, _, _, _, rfl, rfl, SqL.of (s4 _ _ hp), atp (H' := H') hi, ll, ts, N.ls, _, _, rfl, (SM.trans s4) _ _ hll, hT.same (SM.trans s4), _, rfl, h⟩
          · refine ite2 (fun e2 => ?_) (fun e2 => ?_)
            · rw [Bool.and_eq_true, decide_eq_true_eq, Bool.not_eq_true'] at e2
              refine bi _ (SM.trans s4) fun z => ?_
              have y : N.ls.any (hits (r.getD (i - 1) 0) (r.getD i 0)) = true := z.2.2 e2.1
              rw [y] at e2
              exact absurd e2.2 (by decide)
            · refine ⟨_, rfl, sm.trans s4, fun k hk' => ?_⟩
              by_cases ki : k = i
              · rw [ki]
                refine ⟨e.1, e.2, fun i0 => ?_⟩
                rw [Bool.and_eq_true, decide_eq_true_eq, Bool.not_eq_true', not_and, Bool.not_eq_false] at e2
                exact e2 i0
              · exact hs k (by omega)
    · rintro σ H' ⟨v9, rfl, sm, hs⟩
      have SM := S3.trans sm
      have hp := sm _ _ hp7
      refine ⟨_, rfl, p7, _, rfl, .inl (SqL.of hp), _, _, rfl, rfl, _, rfl, ite2 (fun e => bad _ SM fun z => ?_) (fun e => ?_)⟩
      · rw [lp, decide_eq_true_eq] at e
        have := z.2.2.2.2.2.2.two
        omega
      rw [lp, decide_eq_true_eq] at e
      have isp : IsP N r := isP_steps.mpr ⟨by omega, hs⟩
      rw [← natsV_ints] at hp
      refine ⟨_, rfl, _, rfl, _, rfl, _, rfl, fun x dy nx ndy ne => ?_⟩
      have sm0 := same_make0 (o1 := .own x) (o2 := .ins C2 dy []) nx ndy
      refine ⟨x, dy, p7, ⟨numI w1, numI w2, numI w3, r⟩, rfl, upd_same, SqL.of (sm0 _ _ hp), fun H19 kb hSt => ⟨rfl, ?_⟩⟩
      have s19 := same_make nx ndy kb
      have S19 := SM.trans s19
      refine ⟨_, rfl, by show 2 ≤ sizeLine; decide, fun t nt => ?_⟩
      have s20 := same_new (o := .tup [V.ref x, V.ref p8]) nt
      have ok : okS N [w0, w1, w2, w3, w4, w5] := ⟨str_iff.mpr (by rw [e4, e5, er2]; exact ⟨h1, h2, h3, h4, h5, e6, isp⟩), ew⟩
      obtain ⟨dq, lq, st1, st2, nlq⟩ := hSt
      have out : ∀ {L : List Addr} {a : Addr}, (∀ a ∈ L, H a ≠ none) → H a = none → a ∉ L := fun {L a} h n z => h a z n
      refine q1 ok _ t (S19.trans s20) fun L hL => ⟨x, p8, ?_, ⟨dq, lq, ?_, ?_⟩, ?_⟩
      · rw [hid_out (out hL (S19.free nt))]
        exact upd_same
      · rw [hid_out (out hL (SM.free nx))]
        exact s20 _ _ st1
      · have : (entOf [w0, w1, w2, w3, w4, w5]).s.path = r := by
          show (Txt.split w4 ("," : Str)).map nat = r
          rw [e4, er2]
        rw [this, hid_out (out hL (SM.free (sm0.free nlq)))]
        exact s20 _ _ st2
      · have : (entOf [w0, w1, w2, w3, w4, w5]).os = W5.map numI := by
          show (Txt.split w5 ("," : Str)).map numI = _
          rw [e5]
        rw [this, hid_out (out hL ((s1.trans s2).free np8))]
        exact s20 _ _ (s19 _ _ (sm _ _ hp8))
end
end My
namespace My
open PySem PySem.Spec PyProof.Rows L2
theorem spl_one1 {s : Nat} : ∀ (l acc : List Nat), (TL.spl [s] 0 acc l).length = 1 → TL.spl [s] 0 acc l = [acc ++ l]
  | [], acc, _ => by rw [TL.spl_nil, List.append_nil]
  | c :: r, acc, h => by
    by_cases e : c = s
    · rw [TL.spl_hit (by rw [pre_one]; exact decide_eq_true e)] at h
      have n : TL.spl [s] 0 [] r ≠ [] := (spl_cnt r []).2
      have h : (TL.spl [s] 0 [] r).length + 1 = 1 := h
      exact absurd (List.length_eq_zero_iff.mp (by omega)) n
    · rw [TL.spl_miss (by rw [pre_one]; exact decide_eq_false e)] at h ⊢
      rw [spl_one1 r _ h, List.append_assoc]
      rfl
/-- a row of one word is that word -/
theorem one_word {l : Str} (h : (Txt.split l (" " : Str)).length = 1) : Txt.split l (" " : Str) = [l] := by
  have ey : TL.tl (" " : Str) = [32] := by decide +kernel
  have e := TL.split_spl l (" " : Str) (by rw [ey]; simp) (TL.kind_ok (by decide +kernel))
  rw [ey] at e
  have hl : (TL.spl [32] 0 [] (TL.tl l)).length = 1 := by rw [← e, List.length_map]; exact h
  rw [spl_one1 _ _ hl, List.nil_append] at e
  obtain ⟨a, ea⟩ := List.length_eq_one_iff.mp h
  rw [ea] at e ⊢
  have : TL.tl a = TL.tl l := by simpa using e
  rw [TL.ext_tl this]
theorem kd_split (b : Bool) : Txt.split (kdT b) (" " : Str) = [kdT b] := by cases b <;> decide +kernel
/-- where the law stands -/
def Stage (S : RdD) (st : Int) : Prop := (st = 0 ∧ ((S.pv = ("net" : Str) ∧ S.N.ks = []) ∨ ((S.pv = ("host" : Str) ∨ S.pv = ("switch" : Str)) ∧ S.N.ks ≠ []))) ∨ (st = 1 ∧ S.pv = ("line" : Str) ∧ S.N.ks ≠ []) ∨ (st = 2 ∧ S.pv = ("stream" : Str) ∧ S.N.ks ≠ [])
theorem kd_word (b : Bool) : wd (Txt.split (kdT b) (" " : Str)) 0 = kdT b := by rw [kd_split]; rfl
theorem reads_node {S : RdD} {b : Bool} (h : Stage S 0) (n : S.N.ks.length < 12) : Reads S (kdT b) ⟨S.pl + 1, kdT b, ⟨S.N.ks ++ [b], S.N.ls, S.N.pr, S.N.er⟩, S.es⟩ := by
  refine .node b ?_ (kd_word b) (by rw [kd_split]; rfl) n
  rw [kd_word]
  rcases h with ⟨_, ⟨h, _⟩ | ⟨h | h, _⟩⟩ | ⟨h, _⟩ | ⟨h, _⟩
  · rw [h]; cases b <;> decide +kernel
  · rw [h]; cases b <;> decide +kernel
  · rw [h]; cases b <;> decide +kernel
  · exact absurd h (by decide)
  · exact absurd h (by decide)
theorem stage_node {S : RdD} {b : Bool} : Stage ⟨S.pl + 1, kdT b, ⟨S.N.ks ++ [b], S.N.ls, S.N.pr, S.N.er⟩, S.es⟩ 0 := .inl ⟨rfl, .inr ⟨by cases b; exact .inr rfl; exact .inl rfl, by show S.N.ks ++ [b] ≠ []; simp⟩⟩
/-- at a kind of nodes there is a word of one sort only -/
theorem not_node {S : RdD} {l : Str} {st : Int} (h : Stage S st) (n : ¬ (st = 0 ∧ (l = ("host" : Str) ∨ l = ("switch" : Str)))) (b : Bool) (k : wd (Txt.split l (" " : Str)) 0 = kdT b) (o : (Txt.split l (" " : Str)).length = 1) : okPlace (kdT b) S.pv = false := by
  have el : l = kdT b := by
    rw [one_word o] at k
    exact k
  have hs : l = ("host" : Str) ∨ l = ("switch" : Str) := by rw [el]; cases b; exact .inr rfl; exact .inl rfl
  rcases h with ⟨h, _⟩ | ⟨_, h, _⟩ | ⟨_, h, _⟩
  · exact absurd ⟨h, hs⟩ n
  · rw [h]; cases b <;> decide +kernel
  · rw [h]; cases b <;> decide +kernel
theorem no_net {S : RdD} {st : Int} (h : Stage S st) : okPlace ("net" : Str) S.pv = false := by
  rcases h with ⟨_, ⟨h, _⟩ | ⟨h | h, _⟩⟩ | ⟨_, h, _⟩ | ⟨_, h, _⟩ <;> (rw [h]; decide +kernel)
theorem place_line {S : RdD} {st : Int} (h : Stage S st) (k : S.N.ks ≠ []) : okPlace ("line" : Str) S.pv = decide (st ≤ 1) := by
  rcases h with ⟨e, ⟨h, n⟩ | ⟨h | h, _⟩⟩ | ⟨e, h, _⟩ | ⟨e, h, _⟩
  · exact absurd n k
  all_goals rw [h, e]; decide +kernel
theorem place_stream {S : RdD} {st : Int} (h : Stage S st) (k : S.N.ks ≠ []) : okPlace ("stream" : Str) S.pv = true := by
  rcases h with ⟨e, ⟨h, n⟩ | ⟨h | h, _⟩⟩ | ⟨e, h, _⟩ | ⟨e, h, _⟩
  · exact absurd n k
  all_goals rw [h]; decide +kernel
/-- no node as yet: nothing but a node may stand here -/
theorem bad_empty {S : RdD} {l : Str} {st : Int} (h : Stage S st) (n : ¬ (st = 0 ∧ (l = ("host" : Str) ∨ l = ("switch" : Str)))) (k : S.N.ks = []) : ∀ S', ¬ Reads S l S' := fun S' g => by
  have hp : S.pv = ("net" : Str) := by
    rcases h with ⟨_, ⟨h, _⟩ | ⟨_, z⟩⟩ | ⟨_, _, z⟩ | ⟨_, _, z⟩
    · exact h
    all_goals exact absurd k z
  cases g with
  | net a e => rw [e, no_net h] at a; cases a
  | line a e => rw [e, hp] at a; exact absurd a (by decide +kernel)
  | stream a e => rw [e, hp] at a; exact absurd a (by decide +kernel)
  | node b a e o => rw [e, not_node h n b e o] at a; cases a
theorem reads_line {S : RdD} {l : Str} {st : Int} (h : Stage S st) (k : S.N.ks ≠ []) (s1 : st ≤ 1) (e : wd (Txt.split l (" " : Str)) 0 = ("line" : Str)) (o : lineOk (SN S.N) (Txt.split l (" " : Str))) :
    Reads S l ⟨S.pl + 1, "line", ⟨S.N.ks, S.N.ls ++ [lnOf (Txt.split l (" " : Str))], S.N.pr, S.N.er⟩, S.es⟩ := .line (by rw [e, place_line h k]; exact decide_eq_true s1) e o
theorem bad_line {S : RdD} {l : Str} (e : wd (Txt.split l (" " : Str)) 0 = ("line" : Str)) (o : ¬ lineOk (SN S.N) (Txt.split l (" " : Str))) : ∀ S', ¬ Reads S l S' := fun S' g => by
  cases g with
  | net a z => exact absurd (e.symm.trans z).symm nl_ne
  | line a z y => exact o y
  | stream a z => exact absurd (e.symm.trans z) ls_ne
  | node b a z => exact absurd (z.symm.trans e) (kd_ne b).2.1
theorem reads_stream {S : RdD} {l : Str} {st : Int} (h : Stage S st) (k : S.N.ks ≠ []) (o : okS S.N (Txt.split l (" " : Str))) :
    Reads S l ⟨S.pl + 1, "stream", S.N, S.es ++ [entOf (Txt.split l (" " : Str))]⟩ := .stream (by rw [o.2, place_stream h k]) o.2 o.1
theorem bad_stream {S : RdD} {l : Str} {st : Int} (h : Stage S st) (k : S.N.ks ≠ []) (n : ¬ (st = 0 ∧ (l = ("host" : Str) ∨ l = ("switch" : Str)))) (m : ¬ (st ≤ 1 ∧ wd (Txt.split l (" " : Str)) 0 = ("line" : Str))) (o : ¬ okS S.N (Txt.split l (" " : Str))) : ∀ S', ¬ Reads S l S' := fun S' g => by
  cases g with
  | net a z => rw [z, no_net h] at a; cases a
  | line a z => rw [z, place_line h k] at a; exact m ⟨of_decide_eq_true a, z⟩
  | stream a z y => exact o ⟨y, z⟩
  | node b a z y => rw [z, not_node h n b z y] at a; cases a
/-- the first line -/
theorem reads_first {l : Str} {S' : RdD} : Reads S0 l S' ↔ wd (Txt.split l (" " : Str)) 0 = ("net" : Str) ∧ numsOk ((Txt.split l (" " : Str)).drop 1) [(0, 10), (0, 5)] = true ∧ S' = ⟨1, "net", ⟨[], [], numI (wd (Txt.split l (" " : Str)) 1), numI (wd (Txt.split l (" " : Str)) 2)⟩, []⟩ := by
  constructor
  · intro g
    cases g with
    | net a z o => exact ⟨z, o, rfl⟩
    | line a z => rw [z] at a; exact absurd a (by decide +kernel)
    | stream a z => rw [z] at a; exact absurd a (by decide +kernel)
    | node b a z => rw [z] at a; cases b <;> exact absurd a (by decide +kernel)
  · rintro ⟨z, o, rfl⟩
    exact .net (by rw [z]; decide +kernel) z o
theorem stage_first {a b : Int} : Stage ⟨1, "net", ⟨[], [], a, b⟩, []⟩ 0 := .inl ⟨rfl, .inl ⟨rfl, rfl⟩⟩
theorem refsI : ∀ {a b : List Addr}, a.map V.ref = b.map V.ref → a = b
  | [], [], _ => rfl
  | [], _ :: _, h => by cases h
  | _ :: _, [], h => by cases h
  | x :: a, y :: b, h => by
    rw [List.map_cons, List.map_cons] at h
    injection h with h1 h2
    injection h1 with h1
    rw [h1, refsI h2]
/-! ### what the law has gathered, in the heap -/
structure DuAt (K : PySem.W.Frag) (C2 : Addr) (H : Hp) (lk ll le : Addr) (S : RdD) : Prop where
  ks : H lk = some (.lst (S.N.ks.map kindV))
  ls : ∃ ts : List Addr, H ll = some (.lst (ts.map V.ref)) ∧ LinesAt K (hid [lk, ll, le] H) ts S.N.ls
  es : ∃ us : List Addr, H le = some (.lst (us.map V.ref)) ∧ EntsR C2 (hid [lk, ll, le] H) us S.es
  n1 : lk ≠ ll
  n2 : lk ≠ le
  n3 : ll ≠ le
theorem DuAt.same {K : PySem.W.Frag} {C2 : Addr} {H H' : Hp} {lk ll le : Addr} {S : RdD} (h : DuAt K C2 H lk ll le S) (e : Same H H') : DuAt K C2 H' lk ll le S := by
  obtain ⟨h2, ⟨ts, h3, h4⟩, ⟨us, h5, h6⟩, n1, n2, n3⟩ := h
  exact ⟨e _ _ h2, ⟨ts, e _ _ h3, h4.same (hid_keep (hid_of e))⟩, ⟨us, e _ _ h5, h6.same (hid_keep (hid_of e))⟩, n1, n2, n3⟩
theorem DuAt.some {K : PySem.W.Frag} {C2 : Addr} {H : Hp} {lk ll le : Addr} {S : RdD} (h : DuAt K C2 H lk ll le S) : ∀ a ∈ [lk, ll, le], H a ≠ none := fun a ha => by
  obtain ⟨ts, h3, _⟩ := h.ls
  obtain ⟨us, h5, _⟩ := h.es
  rcases List.mem_cons.mp ha with z | ha
  · rw [z, h.ks]; simp
  rcases List.mem_cons.mp ha with z | ha
  · rw [z, h3]; simp
  · rw [List.mem_singleton.mp ha, h5]; simp
/-- a node more -/
theorem DuAt.node {K : PySem.W.Frag} {C2 : Addr} {H : Hp} {lk ll le : Addr} {S : RdD} {b : Bool} {n : Nat} {pv : Str} (h : DuAt K C2 H lk ll le S) :
    DuAt K C2 (upd H lk (.lst (S.N.ks.map kindV ++ [kindV b]))) lk ll le ⟨n, pv, ⟨S.N.ks ++ [b], S.N.ls, S.N.pr, S.N.er⟩, S.es⟩ := by
  obtain ⟨h2, ⟨ts, h3, h4⟩, ⟨us, h5, h6⟩, n1, n2, n3⟩ := h
  have k : Same (hid [lk, ll, le] H) (hid [lk, ll, le] (upd H lk (.lst (S.N.ks.map kindV ++ [kindV b])))) := hid_keep (hid_upd hid_same (by simp))
  exact ⟨by rw [upd_same, List.map_append]; rfl, ⟨ts, by rw [upd_ne n1.symm]; exact h3, h4.same k⟩, ⟨us, by rw [upd_ne n2.symm]; exact h5, h6.same k⟩, n1, n2, n3⟩
/-- a line more -/
theorem DuAt.line {K : PySem.W.Frag} {C2 : Addr} {H : Hp} {lk ll le t : Addr} {S : RdD} {l : Nat × Nat × Int} {n : Nat} {pv : Str} {ts : List Addr} (h : DuAt K C2 H lk ll le S) (h3 : H ll = Option.some (.lst (ts.map V.ref))) (ht : H t = Option.some (.tup (lineV l))) :
    DuAt K C2 (upd H ll (.lst (ts.map V.ref ++ [V.ref t]))) lk ll le ⟨n, pv, ⟨S.N.ks, S.N.ls ++ [l], S.N.pr, S.N.er⟩, S.es⟩ := by
  obtain ⟨h2, ⟨ts', h3', h4⟩, ⟨us, h5, h6⟩, n1, n2, n3⟩ := h
  have et : ts' = ts := by
    rw [h3] at h3'
    injection h3' with h3'
    injection h3' with h3'
    exact (refsI h3').symm
  subst et
  have k : Same (hid [lk, ll, le] H) (hid [lk, ll, le] (upd H ll (.lst (ts'.map V.ref ++ [V.ref t])))) := hid_keep (hid_upd hid_same (by simp))
  have nt : t ∉ [lk, ll, le] := fun z => by
    rcases List.mem_cons.mp z with z | z
    · rw [z, h2] at ht; cases ht
    rcases List.mem_cons.mp z with z | z
    · rw [z, h3] at ht; cases ht
    · rw [List.mem_singleton.mp z, h5] at ht; cases ht
  refine ⟨by rw [upd_ne n1]; exact h2, ⟨ts' ++ [t], by rw [upd_same, List.map_append]; rfl, LinesAt.snoc (h4.same k) (SqT.of ?_)⟩, ⟨us, by rw [upd_ne n3.symm]; exact h5, h6.same k⟩, n1, n2, n3⟩
  rw [hid_out nt, upd_ne fun z => nt (by rw [z]; simp)]
  exact ht
/-- an entry more -/
theorem DuAt.entry {K : PySem.W.Frag} {C2 : Addr} {H : Hp} {lk ll le t : Addr} {S : RdD} {e : EntD} {n : Nat} {pv : Str} {us : List Addr} (h : DuAt K C2 H lk ll le S) (h5 : H le = Option.some (.lst (us.map V.ref))) (ht : EntR C2 (hid [lk, ll, le] H) t e) :
    DuAt K C2 (upd H le (.lst (us.map V.ref ++ [V.ref t]))) lk ll le ⟨n, pv, S.N, S.es ++ [e]⟩ := by
  obtain ⟨h2, ⟨ts, h3, h4⟩, ⟨us', h5', h6⟩, n1, n2, n3⟩ := h
  have et : us' = us := by
    rw [h5] at h5'
    injection h5' with h5'
    injection h5' with h5'
    exact (refsI h5').symm
  subst et
  have k : Same (hid [lk, ll, le] H) (hid [lk, ll, le] (upd H le (.lst (us'.map V.ref ++ [V.ref t])))) := hid_keep (hid_upd hid_same (by simp))
  exact ⟨by rw [upd_ne n2]; exact h2, ⟨ts, by rw [upd_ne n3]; exact h3, h4.same k⟩, ⟨us' ++ [t], by rw [upd_same, List.map_append]; rfl, Paired.snoc (ht.same k) (h6.same k)⟩, n1, n2, n3⟩
end My
namespace My
open PySem PySem.Spec PyProof.Rows L2
abbrev sDue : Stmt := top 25 /-_law_due-/
theorem Reads.pl {S A : RdD} {l : Str} (g : Reads S l A) : A.pl = S.pl + 1 := by cases g <;> rfl
theorem ReadsAll.plI {S A : RdD} {R : List Str} (h : ReadsAll S R (.inl A)) : A.pl = S.pl + R.length := by
  generalize he : (Sum.inl A : RdD ⊕ Nat) = e at h
  induction h with
  | done S => cases he; rfl
  | bad => cases he
  | step h t ih =>
    have := ih he
    rw [h.pl] at this
    rw [List.length_cons]
    omega
theorem ReadsAll.plE {S : RdD} {n : Nat} {R : List Str} (h : ReadsAll S R (.inr n)) : S.pl ≤ n ∧ n < S.pl + R.length := by
  generalize he : (Sum.inr n : RdD ⊕ Nat) = e at h
  induction h with
  | done S => cases he
  | bad => cases he; rw [List.length_cons]; omega
  | step h t ih =>
    have := ih he
    rw [h.pl] at this
    rw [List.length_cons]
    omega
/-- what the law says of the rows -/
def DueRes (K : PySem.W.Frag) (C2 : Addr) (H : Hp) (t : Addr) (R : List Str) : Prop :=
  (∃ n : Nat, ReadsAll S0 R (.inr n) ∧ H t = some (.tup [.int (n : Int), .non])) ∨ ∃ S : RdD, ReadsAll S0 R (.inl S) ∧
    ((S.N.ks = [] ∧ H t = some (.tup [.int (S.pl : Int), .non])) ∨ (S.N.ks ≠ [] ∧ ∃ d lk ll le : Addr, H t = some (.tup [.non, .ref d]) ∧ H d = some (.tup [.int S.N.pr, .int S.N.er, .ref lk, .ref ll, .ref le]) ∧ DuAt K C2 H lk ll le S))
theorem head_drop : ∀ {R : List Str}, 0 < R.length → R = wd R 0 :: R.drop 1
  | [], h => absurd h (by decide)
  | _ :: _, _ => rfl
theorem in_hs (l : Str) : inV (V.str l) [V.str "host", V.str "switch"] = decide (l = ("host" : Str) ∨ l = ("switch" : Str)) := by
  show (eqV (V.str "host") (V.str l) || (eqV (V.str "switch") (V.str l) || false)) = _
  have e : ∀ a : Str, eqV (V.str a) (V.str l) = decide (l = a) := fun a => by
    show (a == l) = _
    rw [Bool.eq_iff_iff, beq_iff_eq, decide_eq_true_eq]
    exact ⟨Eq.symm, Eq.symm⟩
  rw [e, e, Bool.or_false, Bool.eq_iff_iff, Bool.or_eq_true, decide_eq_true_eq, decide_eq_true_eq, decide_eq_true_eq]
section
variable {P : Program} {w : World} {K : PySem.W.Frag} {mg : Str → Option Value} {base : Heap}
theorem scDue : FnScope ["rows", "words", "ticks", "bound", "kinds", "lines", "plan", "stage", "at", "word", "line", "entry"] ["rows"] (defScope sDue) := ⟨rfl, rfl, rfl, by decide +kernel, rfl, by decide +kernel, by decide +kernel⟩
def spDue (K : PySem.W.Frag) (C2 : Addr) : Sp := fun vs H Q _ => ∃ (a : Addr) (R : List Str), vs = [.ref a] ∧ H a = some (.lst (R.map V.str)) ∧ R.length ≤ 12 ∧ Rws 250 R ∧ ∀ (H' : Hp) (t : Addr), Same H H' → DueRes K C2 H' t R → Q (.ref t) H'
theorem ok_due {f fN fL fS C2 : Addr} {fd fdN fdL fdS : FuncData} {k : Nat} (F : Fun K "_law_due" "_law_due" sDue f fd) (T : Blt mg) (GN : Callee P w K mg base 1 "_law_number" ["word", "low", "high"] spNumL fN fdN) (GL : Callee P w K mg base 2 "_law_line" ["row", "kinds", "lines"] (spLLine K) fL fdL)
    (GS : Callee P w K mg base 3 "_law_stream" ["row", "kinds", "lines"] (spLStr K C2) fS fdS) : FnOk P w K mg base CX0 (k + 4) f fd ["rows"] (spDue K C2) := by
  refine F.ok scDue (fun vs H Q E h => ?_) (fun cdv A outer s H vs Q E hr h => ?_)
  · obtain ⟨a, R, rfl, _⟩ := h
    rfl
  · obtain ⟨a, R, rfl, ha, lR, hR, q⟩ := h
    have nd := scDue.nd
    have hr1 : Room 1 _ := hr.mono (by omega)
    have hr2 : Room 2 _ := hr.mono (by omega)
    have hr3 : Room 3 _ := hr.mono (by omega)
    refine ⟨_, pss_cons (ps_if (pt_cmpR op_eq (pe_callB call_len_seq (by rfl) T.len PySem.boot_len (pa_cons (pv 0) pa_nil)) pe_int (nomark _)) (pss_one (ps_ret (pe_tup (pa_cons pe_int (pa_cons pe_non pa_nil))))) (pss_nil)) <| pss_cons (ps_set (i := 1) nd rfl (.inl rfl) (pe_split (pe_ix ix_list (pv 0) pe_int (fun _ _ => rfl)) pe_str)) <| pss_cons (ps_if (PW.pt (pw_or (pt_cmpR op_ne (pe_callB call_len_seq (by rfl) T.len PySem.boot_len (pa_cons (pv 1) pa_nil)) pe_int (nomark _)) (pw_or1 (pt_cmpR op_ne (pe_ix ix_list (pv 1) pe_int (fun _ _ => rfl)) pe_str (nomark _))))) (pss_one (ps_ret (pe_tup (pa_cons pe_int (pa_cons pe_non pa_nil))))) (pss_nil)) <| pss_cons (ps_set (i := 2) nd rfl (.inl rfl) (pe_call GN.ok hr1 (by rfl) GN.mg GN.kp GN.b .nil pass0 (pa_cons (pe_ix ix_list (pv 1) pe_int (fun _ _ => rfl)) (pa_cons pe_int (pa_cons pe_int pa_nil))))) <| pss_cons (ps_set (i := 3) nd rfl (.inl rfl) (pe_call GN.ok hr1 (by rfl) GN.mg GN.kp GN.b .nil pass0 (pa_cons (pe_ix ix_list (pv 1) pe_int (fun _ _ => rfl)) (pa_cons pe_int (pa_cons pe_int pa_nil))))) <| pss_cons (ps_if (PW.pt (pw_or (pt_cmpR op_isN (pv 2) pe_non (nomark _)) (pw_or1 (pt_cmpR op_isN (pv 3) pe_non (nomark _))))) (pss_one (ps_ret (pe_tup (pa_cons pe_int (pa_cons pe_non pa_nil))))) (pss_nil)) <| pss_cons (ps_set (i := 4) nd rfl (.inl rfl) (pe_lst pa_nil)) <| pss_cons (ps_set (i := 5) nd rfl (.inl rfl) (pe_lst pa_nil)) <| pss_cons (ps_set (i := 6) nd rfl (.inl rfl) (pe_lst pa_nil)) <| pss_cons (ps_set (i := 7) nd rfl (.inl rfl) pe_int) <| pss_cons (ps_for PassesOwn.never rfl (pi_range2 (by rfl) T.range (pa_cons pe_int (pa_cons (pe_callB call_len_seq (by rfl) T.len PySem.boot_len (pa_cons (pv 0) pa_nil)) pa_nil))) (pg_name (i := 8) nd rfl (.inl rfl)) (pss_cons (ps_set (i := 9) nd rfl (.inl rfl) (pe_ix ix_list (pe_split (pe_ix ix_list (pv 0) (pv 8) (fun _ _ => rfl)) pe_str) pe_int (fun _ _ => rfl))) <| pss_one (ps_if (PW.pt (pw_and (pt_cmpR op_eq (pv 7) pe_int (nomark _)) (pw_and1 (pt_cmpR op_in_seq (pe_ix ix_list (pv 0) (pv 8) (fun _ _ => rfl)) (pe_lst (pa_cons pe_str (pa_cons pe_str pa_nil))) rfl)))) (pss_one (ps_expr (pe_bm PySem.F.plainAttrs_list PySem.F.slot_list_append PySem.F.type_list_append mt_append (pv 4) (pa_cons (pe_ix ix_list (pv 0) (pv 8) (fun _ _ => rfl)) pa_nil)))) (pss_one (ps_if (pt_cmpR op_eq (pe_callB call_len_seq (by rfl) T.len PySem.boot_len (pa_cons (pv 4) pa_nil)) pe_int (nomark _)) (pss_one (ps_ret (pe_tup (pa_cons (pv 8) (pa_cons pe_non pa_nil))))) (pss_one (ps_if (PW.pt (pw_and (pt_cmpR op_le (pv 7) pe_int (nomark _)) (pw_and1 (pt_cmpR op_eq (pv 9) pe_str (nomark _))))) (pss_cons (ps_set (i := 7) nd rfl (.inl rfl) pe_int) <| pss_cons (ps_set (i := 10) nd rfl (.inl rfl) (pe_call GL.ok hr2 (by rfl) GL.mg GL.kp GL.b .nil pass0 (pa_cons (pe_ix ix_list (pv 0) (pv 8) (fun _ _ => rfl)) (pa_cons (pv 4) (pa_cons (pv 5) pa_nil))))) <| pss_cons (ps_if (pt_cmpR op_isN (pv 10) pe_non (nomark _)) (pss_one (ps_ret (pe_tup (pa_cons (pv 8) (pa_cons pe_non pa_nil))))) (pss_nil)) <| pss_one (ps_expr (pe_bm PySem.F.plainAttrs_list PySem.F.slot_list_append PySem.F.type_list_append mt_append (pv 5) (pa_cons (pv 10) pa_nil)))) (pss_cons (ps_set (i := 7) nd rfl (.inl rfl) pe_int) <| pss_cons (ps_set (i := 11) nd rfl (.inl rfl) (pe_call GS.ok hr3 (by rfl) GS.mg GS.kp GS.b .nil pass0 (pa_cons (pe_ix ix_list (pv 0) (pv 8) (fun _ _ => rfl)) (pa_cons (pv 4) (pa_cons (pv 5) pa_nil))))) <| pss_cons (ps_if (pt_cmpR op_isN (pv 11) pe_non (nomark _)) (pss_one (ps_ret (pe_tup (pa_cons (pv 8) (pa_cons pe_non pa_nil))))) (pss_nil)) <| pss_one (ps_expr (pe_bm PySem.F.plainAttrs_list PySem.F.slot_list_append PySem.F.type_list_append mt_append (pv 6) (pa_cons (pv 11) pa_nil))))))))))) <| pss_cons (ps_if (pt_cmpR op_eq (pe_callB call_len_seq (by rfl) T.len PySem.boot_len (pa_cons (pv 4) pa_nil)) pe_int (nomark _)) (pss_one (ps_ret (pe_tup (pa_cons pe_int (pa_cons pe_non pa_nil))))) (pss_nil)) <| pss_one (ps_ret (pe_tup (pa_cons pe_non (pa_cons (pe_tup (pa_cons (pv 2) (pa_cons (pv 3) (pa_cons (pv 4) (pa_cons (pv 5) (pa_cons (pv 6) pa_nil)))))) pa_nil)))), ?_⟩
    have eR : (R.map V.str).length = R.length := List.length_map ..
    have ret : ∀ {H' : Hp} (n : Nat), Same H H' → ReadsAll S0 R (.inr n) → ∀ t, H' t = none → Q (.ref t) (upd H' t (.tup [.int (n : Int), .non])) := fun {H'} n s g t nt => q _ t (s.trans (same_new nt)) (.inl ⟨n, g, upd_same⟩)
    refine ⟨_, rfl, a, _, rfl, .inl (SqL.of ha), rfl, _, rfl, ite2 (fun e => ?_) (fun e => ?_)⟩
    · have e0 : R = [] := by
        rw [decide_eq_true_eq, V.int.injEq, eR] at e
        exact List.length_eq_zero_iff.mp (by omega)
      refine ⟨by show 2 ≤ sizeLine; decide, fun t nt => q _ t (same_new nt) (.inr ⟨S0, by rw [e0]; exact .done _, .inl ⟨rfl, upd_same⟩⟩)⟩
    have l0 : 0 < R.length := by
      rw [decide_eq_true_eq, V.int.injEq, eR] at e
      omega
    have hr0 := hR _ (wd_mem l0)
    have cu := cut_sp (wd R 0)
    have eRR : R = wd R 0 :: R.drop 1 := head_drop l0
    refine ⟨_, rfl, a, _, _, _, rfl, rfl, SqL.of ha, atI_str l0, ⟨_, rfl⟩, _, _, rfl, rfl, by decide +kernel, Nat.le_trans (Nat.add_le_add_right hr0.ln 2) (by decide), fun L nL => ?_⟩
    have rf : ∀ {S'}, Reads S0 (wd R 0) S' ↔ _ := fun {S'} => reads_first (l := wd R 0) (S' := S')
    have hg : ∀ A, ReadsAll S0 [wd R 0] (.inl A) → ReadsAll S0 (R.take 1) (.inl A) := fun A h => by
      rw [eRR]
      exact h
    have bad0 : (∀ S', ¬ Reads S0 (wd R 0) S') → ReadsAll S0 R (.inr 0) := fun h => by
      rw [eRR]
      exact .bad h
    generalize Txt.split (wd R 0) (" " : Str) = W at cu rf ⊢
    have s1 : Same H (upd H L (.lst (W.map V.str))) := same_new nL
    have hL : (upd H L (.lst (W.map V.str))) L = some (.lst (W.map V.str)) := upd_same
    generalize upd H L (.lst (W.map V.str)) = H1 at s1 hL ⊢
    have eW : (W.map V.str).length = W.length := List.length_map ..
    have asc := cu.asc hr0.as
    have wln : ∀ y ∈ W, y.length ≤ 640 := fun y hy => Nat.le_trans (cu.sub y hy).2 (Nat.le_trans hr0.ln (by decide))
    dsimp only [tNext]
    by_cases l3 : W.length = 3
    case neg =>
      refine ⟨_, rfl, L, _, rfl, .inl (SqL.of hL), rfl, _, rfl, ite2 (fun _ => iteT ⟨by show 2 ≤ sizeLine; decide, ret 0 s1 (bad0 fun S' g => ?_)⟩) (fun e => ?_)⟩
      · have := (rf.mp g).2.1
        rw [nums_ne (by rw [List.length_drop]; show ¬ (W.length - 1 = 2); omega)] at this
        cases this
      · rw [Bool.not_eq_true', decide_eq_false_iff_not, V.int.injEq, eW, Classical.not_not] at e
        omega
    obtain ⟨w0, w1, w2, rfl⟩ := three l3
    refine ⟨_, rfl, L, _, rfl, .inl (SqL.of hL), rfl, _, rfl, iteF ?_⟩
    refine ⟨_, rfl, L, _, _, _, rfl, rfl, SqL.of hL, (rfl : atI _ _ = some (V.str w0)), rfl, _, rfl, ite2 (fun e => ⟨by show 2 ≤ sizeLine; decide, ret 0 s1 (bad0 fun S' g => ?_)⟩) (fun e => ?_)⟩
    · have z : w0 = ("net" : Str) := (rf.mp g).1
      rw [z] at e
      exact absurd e (by decide +kernel)
    have ew : w0 = ("net" : Str) := by
      rw [Bool.not_eq_true', decide_eq_false_iff_not, V.str.injEq, Classical.not_not] at e
      exact e
    have en : numsOk ([w0, w1, w2].drop 1) [(0, 10), (0, 5)] = (okN w1 (0, 10) && okN w2 (0, 5)) := by
      show numsOk [w1, w2] _ = _
      rw [nums_cons, nums_cons, nums_nil, Bool.and_true]
    have bad1 : (okN w1 (0, 10) && okN w2 (0, 5)) = false → ReadsAll S0 R (.inr 0) := fun z => bad0 fun S' g => by
      have := (rf.mp g).2.1
      rw [en, z] at this
      cases this
    refine ⟨_, rfl, L, _, _, _, rfl, rfl, SqL.of hL, (rfl : atI _ _ = some (V.str w1)), w1, 0, 10, rfl, asc w1 (by simp), wln w1 (by simp), ?_⟩
    refine ⟨_, rfl, L, _, _, _, rfl, rfl, SqL.of hL, (rfl : atI _ _ = some (V.str w2)), w2, 0, 5, rfl, asc w2 (by simp), wln w2 (by simp), ?_⟩
    dsimp only [tNext]
    cases h1 : okN w1 (0, 10) with
    | false =>
      rw [show numV w1 0 10 = none by rw [numV_ok, h1]; rfl]
      exact ⟨_, rfl, rfl, _, rfl, iteT (iteT ⟨by show 2 ≤ sizeLine; decide, ret 0 s1 (bad1 (by rw [h1]; rfl))⟩)⟩
    | true =>
    rw [show numV w1 0 10 = some (numI w1) by rw [numV_ok, h1]; rfl]
    refine ⟨_, rfl, rfl, _, rfl, iteF ?_⟩
    cases h2 : okN w2 (0, 5) with
    | false =>
      rw [show numV w2 0 5 = none by rw [numV_ok, h2]; rfl]
      exact ⟨_, rfl, rfl, _, rfl, iteT ⟨by show 2 ≤ sizeLine; decide, ret 0 s1 (bad1 (by rw [h1, h2]; rfl))⟩⟩
    | true =>
    rw [show numV w2 0 5 = some (numI w2) by rw [numV_ok, h2]; rfl]
    refine ⟨_, rfl, rfl, _, rfl, iteF ?_⟩
    have first : ReadsAll S0 (R.take 1) (.inl ⟨1, "net", ⟨[], [], numI w1, numI w2⟩, []⟩) := hg _ (.step (rf.mpr ⟨ew, by rw [en, h1, h2]; rfl, rfl⟩) (.done _))
    refine ⟨Nat.zero_le _, fun lk nlk => ?_⟩
    have sk := same_new (o := .lst []) nlk
    have hk2 := upd_same (H := H1) (a := lk) (o := .lst [])
    generalize upd H1 lk (.lst []) = H2 at sk hk2 ⊢
    refine ⟨Nat.zero_le _, fun ll nll => ?_⟩
    have sl := same_new (o := .lst []) nll
    have hl3 := upd_same (H := H2) (a := ll) (o := .lst [])
    generalize upd H2 ll (.lst []) = H3 at sl hl3 ⊢
    refine ⟨Nat.zero_le _, fun le nle => ?_⟩
    have se := same_new (o := .lst []) nle
    have he4 := upd_same (H := H3) (a := le) (o := .lst [])
    generalize upd H3 le (.lst []) = H4 at se he4 ⊢
    have nkH : H lk = none := s1.free nlk
    have nlH : H ll = none := (s1.trans sk).free nll
    have neH : H le = none := ((s1.trans sk).trans sl).free nle
    have S4 := ((s1.trans sk).trans sl).trans se
    have D0 : DuAt K C2 H4 lk ll le ⟨1, "net", ⟨[], [], numI w1, numI w2⟩, []⟩ :=
      ⟨se _ _ (sl _ _ hk2), ⟨[], se _ _ hl3, .nil⟩, ⟨[], he4, .nil⟩, ne_of_none hk2 nll, ne_of_none (sl _ _ hk2) nle, ne_of_none hl3 nle⟩
    -- the lines behind the first
    refine ⟨_, rfl, a, _, rfl, .inl (SqL.of (S4 _ _ ha)), 1, _, rfl, ⟨by decide, by decide, by rw [eR]; omega, by rw [eR]; omega⟩, ?_⟩
    rw [eR, show ((R.length : Int) - 1).toNat = R.length - 1 by omega]
    refine for_range (lo := 1) (n := R.length - 1) (fun i σ H' => ∃ (S : RdD) (st : Int) (v8 v9 v10 v11 : Option V), σ = [some (.ref a), some (.ref L), some (.int (numI w1)), some (.int (numI w2)), some (.ref lk), some (.ref ll), some (.ref le), some (.int st), v8, v9, v10, v11] ∧
      Same H H' ∧ DuAt K C2 H' lk ll le S ∧ ReadsAll S0 (R.take (1 + i)) (.inl S) ∧ Stage S st ∧ (S.N.ks = [] → i = 0) ∧ S.N.ks.length ≤ i ∧ S.N.ls.length ≤ i ∧ S.es.length ≤ i ∧ S.N.pr = numI w1 ∧ S.N.er = numI w2)
      ⟨_, 0, none, none, none, none, rfl, S4, D0, first, stage_first, fun _ => rfl, Nat.le_refl _, Nat.le_refl _, Nat.le_refl _, rfl, rfl⟩ ?_ ?_
    · rintro i σ H' hi ⟨S, st, v8, v9, v10, v11, rfl, sm, D, rd, sg, ke, kl, lL, lE, e1, e2⟩
      have i1 : 1 + i < R.length := by omega
      rw [show (1 : Int) + (i : Int) = ((1 + i : Nat) : Int) by omega]
      have hl := hR _ (wd_mem i1)
      have haH := sm _ _ ha
      have pl : S.pl = 1 + i := by
        have := rd.plI
        rw [List.length_take] at this
        have : S.pl = 0 + min (1 + i) R.length := this
        omega
      have tk : R.take (1 + (i + 1)) = R.take (1 + i) ++ [wd R (1 + i)] := by
        rw [show 1 + (i + 1) = (1 + i) + 1 by omega]
        exact take_snoc (getD_at Str.empty i1)
      have stop : (∀ B, ¬ Reads S (wd R (1 + i)) B) → ReadsAll S0 R (.inr (1 + i)) := fun h => by
        have := rd.stop h (R.drop (1 + i + 1))
        rw [pl] at this
        have e : R.take (1 + i) ++ wd R (1 + i) :: R.drop (1 + i + 1) = R := by
          have e := List.drop_eq_getElem_cons i1
          have g : R[1 + i] = wd R (1 + i) := by
            unfold wd
            rw [List.getD_eq_getElem?_getD, List.getElem?_eq_getElem i1]
            rfl
          rw [← g, ← e, List.take_append_drop]
        rw [e] at this
        exact this
      have cl := cut_sp (wd R (1 + i))
      refine ⟨_, rfl, _, rfl, a, _, _, _, rfl, rfl, SqL.of haH, atI_str i1, ⟨_, rfl⟩, _, _, rfl, rfl, by decide +kernel, Nat.le_trans (Nat.add_le_add_right hl.ln 2) (by decide), fun u nu => ?_⟩
      have su := same_new (o := .lst ((Txt.split (wd R (1 + i)) (" " : Str)).map V.str)) nu
      refine ⟨u, _, _, _, rfl, rfl, SqL.of upd_same, atI_str (j := 0) (List.length_pos_iff.mpr cl.ne), ?_⟩
      generalize upd H' u (.lst ((Txt.split (wd R (1 + i)) (" " : Str)).map V.str)) = H5 at su ⊢
      have sm5 := sm.trans su
      have D5 := D.same su
      have szk : S.N.ks.length < 12 := by omega
      dsimp only [gName]
      refine and_read2 (a := decide (st = 0)) (b := decide (wd R (1 + i) = ("host" : Str) ∨ wd R (1 + i) = ("switch" : Str))) (fun Q h => ⟨_, rfl, rfl, _, rfl, ?_⟩) (fun _ H6 s6 Q h => ?_) (fun H6 s6 => ?_)
      · rw [show decide (V.int st = V.int 0) = decide (st = 0) by rw [Bool.eq_iff_iff, decide_eq_true_eq, decide_eq_true_eq, V.int.injEq]]
        exact h _ (Same.refl _)
      · refine ⟨_, rfl, _, rfl, a, _, _, _, rfl, rfl, SqL.of ((sm5.trans s6) _ _ ha), atI_str i1, by show 2 ≤ sizeLine; decide, fun y ny => ⟨y, _, rfl, .inl (SqL.of upd_same), rfl, rfl, _, rfl, ?_⟩⟩
        rw [if_neg (by decide), in_hs]
        exact h _ (same_new ny)
      have sm6 := sm5.trans s6
      have D6 := D5.same s6
      have ha6 := sm6 _ _ ha
      have eLk : ((S.N.ks.map kindV).length : Int) = (S.N.ks.length : Int) := by rw [List.length_map]
      refine ite2 (fun e => ?_) (fun e => ?_)
      · -- a node
        rw [Bool.and_eq_true, decide_eq_true_eq, decide_eq_true_eq] at e
        obtain ⟨rfl, e⟩ := e
        obtain ⟨b, eb⟩ : ∃ b, wd R (1 + i) = kdT b := e.elim (fun z => ⟨true, z⟩) fun z => ⟨false, z⟩
        refine ⟨_, rfl, .inl ⟨rfl, _, SqL.of D6.ks⟩, _, rfl, _, rfl, a, _, _, _, rfl, rfl, SqL.of ha6, atI_str i1, lk, _, _, rfl, rfl, D6.ks, szl (by rw [List.length_map]; omega), ?_⟩
        rw [eb] at tk ⊢
        exact ⟨_, 0, _, _, _, _, rfl, same_but sm6 nkH but_self, D6.node (b := b), by rw [tk]; exact rd.snoc (reads_node sg szk), stage_node, fun z => absurd z (by show S.N.ks ++ [b] ≠ []; simp), by show (S.N.ks ++ [b]).length ≤ i + 1; rw [List.length_append, List.length_singleton]; omega, by show S.N.ls.length ≤ i + 1; omega, by show S.es.length ≤ i + 1; omega, e1, e2⟩
      have nn : ¬ (st = 0 ∧ (wd R (1 + i) = ("host" : Str) ∨ wd R (1 + i) = ("switch" : Str))) := by
        rw [Bool.and_eq_true, decide_eq_true_eq, decide_eq_true_eq] at e
        exact e
      refine ⟨_, rfl, lk, _, rfl, .inl (SqL.of D6.ks), rfl, _, rfl, ite2 (fun e => ?_) (fun e => ?_)⟩
      · have k0 : S.N.ks = [] := by
          rw [decide_eq_true_eq, V.int.injEq, eLk] at e
          exact List.length_eq_zero_iff.mp (by omega)
        exact ⟨_, rfl, by show 2 ≤ sizeLine; decide, ret (1 + i) sm6 (stop (bad_empty sg nn k0))⟩
      have k0 : S.N.ks ≠ [] := fun z => by
        rw [decide_eq_true_eq, V.int.injEq, eLk, z] at e
        exact e rfl
      obtain ⟨ts, hll, hT⟩ := D6.ls
      obtain ⟨us, hle, hE⟩ := D6.es
      have lts : ts.length = S.N.ls.length := hT.length
      have lus : us.length = S.es.length := hE.length
      refine and_read (a := decide (st ≤ 1)) (b := decide (wd (Txt.split (wd R (1 + i)) (" " : Str)) 0 = ("line" : Str))) (fun Q h => ⟨_, rfl, _, _, rfl, rfl, _, rfl, h⟩) (fun _ Q h => ⟨_, rfl, rfl, _, rfl, ?_⟩) ?_
      · rw [dec_str]
        exact h
      refine ite2 (fun e => ?_) (fun e => ?_)
      · -- a line
        rw [Bool.and_eq_true, decide_eq_true_eq, decide_eq_true_eq] at e
        refine ⟨_, rfl, _, rfl, a, _, _, _, rfl, rfl, SqL.of ha6, atI_str i1, _, rfl, _, rfl, wd R (1 + i), lk, ll, ts, S.N, rfl, hl.as, hl.ln, D6.ks, hll, hT.same hid_same, fun o H7 t s7 ht => ?_, fun o H7 s7 => ?_⟩
        · dsimp only [tNext]
          refine ⟨_, rfl, rfl, _, rfl, iteF ?_⟩
          have D7 := D6.same s7
          refine ⟨_, rfl, .inl ⟨rfl, _, SqL.of (s7 _ _ hll)⟩, _, rfl, ll, _, _, rfl, rfl, s7 _ _ hll, szl (by rw [List.length_map]; omega), ?_⟩
          exact ⟨_, 1, _, _, _, _, rfl, same_but (sm6.trans s7) nlH but_self, D7.line (s7 _ _ hll) ht, by rw [tk]; exact rd.snoc (reads_line sg k0 e.1 e.2 o), .inr (.inl ⟨rfl, rfl, k0⟩), fun z => absurd z k0, by show S.N.ks.length ≤ i + 1; omega, by show (S.N.ls ++ [_]).length ≤ i + 1; rw [List.length_append, List.length_singleton]; omega, by show S.es.length ≤ i + 1; omega, e1, e2⟩
        · dsimp only [tNext]
          exact ⟨_, rfl, rfl, _, rfl, iteT ⟨_, rfl, by show 2 ≤ sizeLine; decide, ret (1 + i) (sm6.trans s7) (stop (bad_line e.2 o))⟩⟩
      · -- a stream
        have mm : ¬ (st ≤ 1 ∧ wd (Txt.split (wd R (1 + i)) (" " : Str)) 0 = ("line" : Str)) := by
          rw [Bool.and_eq_true, decide_eq_true_eq, decide_eq_true_eq] at e
          exact e
        refine ⟨_, rfl, _, rfl, a, _, _, _, rfl, rfl, SqL.of ha6, atI_str i1, _, rfl, _, rfl, wd R (1 + i), lk, ll, ts, S.N, rfl, hl.as, hl.ln, D6.ks, hll, hT.same hid_same, List.length_pos_iff.mpr k0, fun o H7 t s7 ht => ?_, fun o H7 s7 => ?_⟩
        · dsimp only [tNext]
          refine ⟨_, rfl, rfl, _, rfl, iteF ?_⟩
          have D7 := D6.same s7
          refine ⟨_, rfl, .inl ⟨rfl, _, SqL.of (s7 _ _ hle)⟩, _, rfl, le, _, _, rfl, rfl, s7 _ _ hle, szl (by rw [List.length_map]; omega), ?_⟩
          exact ⟨_, 2, _, _, _, _, rfl, same_but (sm6.trans s7) neH but_self, D7.entry (s7 _ _ hle) (ht _ D6.some), by rw [tk]; exact rd.snoc (reads_stream sg k0 o), .inr (.inr ⟨rfl, rfl, k0⟩), fun z => absurd z k0, by show S.N.ks.length ≤ i + 1; omega, by show S.N.ls.length ≤ i + 1; omega, by show (S.es ++ [_]).length ≤ i + 1; rw [List.length_append, List.length_singleton]; omega, e1, e2⟩
        · dsimp only [tNext]
          exact ⟨_, rfl, rfl, _, rfl, iteT ⟨_, rfl, by show 2 ≤ sizeLine; decide, ret (1 + i) (sm6.trans s7) (stop (bad_stream sg k0 nn mm o))⟩⟩
    · rintro σ H' ⟨S, st, v8, v9, v10, v11, rfl, sm, D, rd, sg, ke, kl, lL, lE, e1, e2⟩
      rw [show 1 + (R.length - 1) = R.length by omega, List.take_length] at rd
      have pl : S.pl = R.length := by
        have := rd.plI
        have : S.pl = 0 + R.length := this
        omega
      have eLk : ((S.N.ks.map kindV).length : Int) = (S.N.ks.length : Int) := by rw [List.length_map]
      refine ⟨_, rfl, lk, _, rfl, .inl (SqL.of D.ks), rfl, _, rfl, ite2 (fun e => ?_) (fun e => ?_)⟩
      · have k0 : S.N.ks = [] := by
          rw [decide_eq_true_eq, V.int.injEq, eLk] at e
          exact List.length_eq_zero_iff.mp (by omega)
        have := ke k0
        refine ⟨by show 2 ≤ sizeLine; decide, fun t nt => q _ t (sm.trans (same_new nt)) (.inr ⟨S, rd, .inl ⟨k0, ?_⟩⟩)⟩
        rw [show S.pl = 1 by omega]
        exact upd_same
      have k0 : S.N.ks ≠ [] := fun z => by
        rw [decide_eq_true_eq, V.int.injEq, eLk, z] at e
        exact e rfl
      refine ⟨_, rfl, _, rfl, _, rfl, _, rfl, _, rfl, by show 5 ≤ sizeLine; decide, fun d nd' => ⟨by show 2 ≤ sizeLine; decide, fun t nt => ?_⟩⟩
      have sd := same_new (o := .tup [.int (numI w1), .int (numI w2), .ref lk, .ref ll, .ref le]) nd'
      have st' := same_new (o := .tup [V.non, .ref d]) nt
      refine q _ t (sm.trans (sd.trans st')) (.inr ⟨S, rd, .inr ⟨k0, d, lk, ll, le, upd_same, ?_, D.same (sd.trans st')⟩⟩)
      rw [e1, e2]
      exact st' _ _ upd_same
end
end My
namespace My
open PySem PySem.Spec PyProof.Rows L2
/-! ### isinstance of a caught error that has its dict -/
def rIsED (K : PySem.W.Frag) (D a : Addr) (cls : Value) (d : Option Addr) : List V → Hp → VK → Prop := fun xs H Q => ∃ (c : V) (cv : Value) (b : Bool) (dd : Addr) (fs : List (Str × V)), xs = [.ref a, c] ∧ (∀ u, RelV c u → u = cv) ∧ PySem.W.kitOne K (.ref D) cv = some b ∧ cls = .ref D ∧ d = some dd ∧ H dd = some (.xd fs) ∧ Q (.bl b) H
theorem call_isED {X : Cx} {a D : Addr} {oe : Obj} {cls : Value} {d : Option Addr} {pn : List (Addr × Obj)} (C : L2.ExcC X.K D) (hz : Zc cls d oe) (hf : ∃ vs, oe.data = .fields vs) : CallR (X.suite a ((a, oe) :: pn)) (.builtin "isinstance") (rIsED X.K D a cls d) := by
  intro pins s σ H xs us Q I r h
  obtain ⟨c, cv, b, dd, fs, rfl, hcv, e, ec, ed, hdd, q⟩ := h
  cases r with
  | cons rx rr =>
    cases rr with
    | cons rt rr =>
      cases rr
      cases rx
      have ec' := hcv _ rt
      subst ec'
      subst ec ed
      obtain ⟨hget, _⟩ := I.pin (a, oe) (List.mem_append.mpr (.inl List.mem_cons_self))
      obtain ⟨vs, hv⟩ := hf
      have hx : ObjOk X.prog X.w H s.heap dd (.xd fs) := I.hok dd _ hdd
      obtain ⟨mA, hns, hr⟩ := hx
      obtain ⟨od, es, ep, ho, _, _⟩ := hns
      have J : PySem.W.InstAt s.heap a oe D (some od) := ⟨hget, hz.1, by unfold PySem.W.notCls; rw [hv] <;> rfl, by rw [hz.2]; exact ho⟩
      have hcl : (PySem.W.clsIn X.K D).isSome = true := by obtain ⟨cd, hc, _⟩ := PySem.W.any_some C.hd; rw [hc]; rfl
      exact PySem.W.kia_one (PySem.W.kitx_exc hcl C.hg C.hk C.hs C.ha C.hn C.ht C.hm) I.kIn J e (fun z => nomatch z) fun tk => ⟨.bl b, H, I.kept (t' := tk) fun _ _ z => z, rfl, q⟩
/-! ### texts with and without the last line feed -/
def glue2 (R : List Str) : Str := Txt.join "" (R.map fun r => r ++ ("\n" : Str))
theorem glue2_eq (R : List Str) : glue2 R = glueT R := by
  unfold glue2 glueT
  congr 1
  refine List.map_congr_left fun r _ => TL.ext_tl ?_
  rw [tl_js, TL.tl_append]
  simp
theorem joinL_snoc (s : List Nat) : ∀ (ps : List (List Nat)) (q : List Nat), TL.joinL s (ps ++ [q]) = (ps.map fun p => p ++ s).flatten ++ q
  | [], q => rfl
  | [p], q => by
    show p ++ (s ++ q) = (p ++ s) ++ [] ++ q
    rw [List.append_nil, List.append_assoc]
  | p :: a :: r, q => by
    have := joinL_snoc s (a :: r) q
    show p ++ (s ++ TL.joinL s ((a :: r) ++ [q])) = _
    rw [this]
    simp only [List.map_cons, List.flatten_cons, List.append_assoc]
theorem cut_last (R : List Str) (l : Str) : cutS (glueT (R ++ [l])) none (some (((glueT (R ++ [l])).length : Int) - 1)) = Txt.join ("\n" : Str) (R ++ [l]) := by
  have en : TL.tl ("\n" : Str) = [10] := by decide +kernel
  have e : TL.tl (glueT (R ++ [l])) = TL.joinL [10] ((R ++ [l]).map TL.tl) ++ [10] := by
    rw [glue_snoc, TL.tl_append, TL.tl_append, tl_glue, en, List.map_append, List.map_cons, List.map_nil, joinL_snoc, List.map_map]
    rfl
  have ln : (glueT (R ++ [l])).length = (TL.joinL [10] ((R ++ [l]).map TL.tl)).length + 1 := by rw [TL.len_tl, e, List.length_append]; rfl
  refine TL.ext_tl ?_
  rw [TL.join_eq, TL.tl_join, en]
  unfold cutS
  show (List.take _ (List.drop _ (TL.tl (glueT (R ++ [l]))))) = _
  rw [ln, show (((TL.joinL [10] ((R ++ [l]).map TL.tl)).length + 1 : Nat) : Int) - 1 = ((TL.joinL [10] ((R ++ [l]).map TL.tl)).length : Int) by omega, HT.sIx_none, HT.sIx_nat, Nat.sub_zero, List.drop_zero, e, Nat.min_eq_left (by omega), List.take_left']
  rfl
theorem split_last {R : List Str} {l : Str} (h : ∀ r ∈ R ++ [l], 10 ∉ TL.tl r) : Txt.split (Txt.join ("\n" : Str) (R ++ [l])) ("\n" : Str) = R ++ [l] :=
  TL.split_join (s := 10) (S := []) (by decide +kernel) (by decide +kernel) (by simp) h
/-! ### what is due, of a whole text -/
def PD (K : PySem.W.Frag) (C2 : Addr) (H : Hp) (R : List Str) (pv dv : V) : Prop :=
  (∃ n : Nat, ReadsAll S0 R (.inr n) ∧ pv = .int (n : Int) ∧ dv = .non) ∨ ∃ S : RdD, ReadsAll S0 R (.inl S) ∧
    ((S.N.ks = [] ∧ pv = .int (S.pl : Int) ∧ dv = .non) ∨ (S.N.ks ≠ [] ∧ pv = .non ∧ ∃ d lk ll le : Addr, dv = .ref d ∧ H d = some (.tup [.int S.N.pr, .int S.N.er, .ref lk, .ref ll, .ref le]) ∧ DuAt K C2 H lk ll le S))
theorem DueRes.pd {K : PySem.W.Frag} {C2 : Addr} {H : Hp} {t : Addr} {R : List Str} (h : DueRes K C2 H t R) : ∃ pv dv, H t = some (.tup [pv, dv]) ∧ PD K C2 H R pv dv := by
  rcases h with ⟨n, h1, h2⟩ | ⟨S, h1, ⟨k, h2⟩ | ⟨k, d, lk, ll, le, h2, h3, h4⟩⟩
  · exact ⟨_, _, h2, .inl ⟨n, h1, rfl, rfl⟩⟩
  · exact ⟨_, _, h2, .inr ⟨S, h1, .inl ⟨k, rfl, rfl⟩⟩⟩
  · exact ⟨_, _, h2, .inr ⟨S, h1, .inr ⟨k, rfl, d, lk, ll, le, rfl, h3, h4⟩⟩⟩
theorem PD.same {K : PySem.W.Frag} {C2 : Addr} {H H' : Hp} {R : List Str} {pv dv : V} (h : PD K C2 H R pv dv) (s : Same H H') : PD K C2 H' R pv dv := by
  rcases h with h | ⟨S, h1, h | ⟨k, h2, d, lk, ll, le, h3, h4, h5⟩⟩
  · exact .inl h
  · exact .inr ⟨S, h1, .inl h⟩
  · exact .inr ⟨S, h1, .inr ⟨k, h2, d, lk, ll, le, h3, s _ _ h4, h5.same s⟩⟩
def FD (K : PySem.W.Frag) (C2 : Addr) (H : Hp) (rows : List Str) (last : Str) (pv dv : V) : Prop :=
  (∃ n : Nat, ReadsText rows last (.inr n) ∧ n ≤ 20 ∧ pv = .int (n : Int) ∧ dv = .non) ∨ ∃ S : RdD, ReadsText rows last (.inl S) ∧ ∃ d lk ll le : Addr, dv = .ref d ∧ H d = some (.tup [.int S.N.pr, .int S.N.er, .ref lk, .ref ll, .ref le]) ∧ DuAt K C2 H lk ll le S
theorem PD.fd {K : PySem.W.Frag} {C2 : Addr} {H : Hp} {R : List Str} {pv dv : V} (h : PD K C2 H R pv dv) (l : R.length ≤ 12) : FD K C2 H R "" pv dv := by
  rcases h with ⟨n, h1, h2, h3⟩ | ⟨S, h1, ⟨k, h2, h3⟩ | ⟨k, h2, d, lk, ll, le, h3, h4, h5⟩⟩
  · exact .inl ⟨n, .bad h1, by have := h1.plE.2; have : n < 0 + R.length := this; omega, h2, h3⟩
  · exact .inl ⟨S.pl, .short h1 fun z => z.2 k, by have := h1.plI; have : S.pl = 0 + R.length := this; omega, h2, h3⟩
  · exact .inr ⟨S, .good h1 rfl k, d, lk, ll, le, h3, h4, h5⟩
theorem ReadsAll.front {S : RdD} {e : RdD ⊕ Nat} {R : List Str} {l : Str} (h : ReadsAll S (R ++ [l]) e) : (∃ n, e = .inr n ∧ ReadsAll S R (.inr n)) ∨ ∃ A, ReadsAll S R (.inl A) := by
  induction R generalizing S with
  | nil => exact .inr ⟨S, .done S⟩
  | cons a r ih =>
    cases h with
    | bad h => exact .inl ⟨_, rfl, .bad h⟩
    | step h t =>
      rcases ih t with ⟨n, e, g⟩ | ⟨A, g⟩
      · exact .inl ⟨n, e, .step h g⟩
      · exact .inr ⟨A, .step h g⟩
/-- the last line feed is cut off -/
theorem cut_fd {K : PySem.W.Frag} {C2 : Addr} {H : Hp} {R : List Str} {l : Str} {pv dv : V} (h : PD K C2 H (R ++ [l]) pv dv) (nl : l ≠ ("" : Str)) (ln : R.length ≤ 12) :
    ReadsText R l (.inr R.length) ∧ (pv = .non ∨ ∃ n : Nat, pv = .int (n : Int) ∧ dv = .non ∧ (R.length < n ∨ n ≤ R.length ∧ ReadsText R l (.inr n))) ∨ (∃ n : Nat, pv = .int (n : Int) ∧ dv = .non ∧ n ≤ R.length ∧ ReadsText R l (.inr n)) := by
  have sh : ∀ {A : RdD}, ReadsAll S0 R (.inl A) → ReadsText R l (.inr R.length) := fun {A} g => by
    have e := g.plI
    have e : A.pl = 0 + R.length := e
    have := ReadsText.short (last := l) g fun z => nl z.1
    rw [e, Nat.zero_add] at this
    exact this
  rcases h with ⟨n, h1, h2, h3⟩ | ⟨S, h1, hh⟩
  · rcases h1.front with ⟨m, e, g⟩ | ⟨A, g⟩
    · cases e
      right
      exact ⟨n, h2, h3, by have := g.plE.2; have : n < 0 + R.length := this; omega, .bad g⟩
    · left
      have ne : ∀ B, ¬ Reads A l B := fun B z => by
        have := (g.snoc z).det h1
        cases this
      have e := (g.stop ne []).det h1
      have e : A.pl = n := by injection e
      have ep : A.pl = 0 + R.length := g.plI
      refine ⟨sh g, .inr ⟨n, h2, h3, .inr ⟨by omega, ?_⟩⟩⟩
      rw [show n = R.length by omega]
      exact sh g
  · rcases h1.front with ⟨m, e, g⟩ | ⟨A, g⟩
    · cases e
    · left
      refine ⟨sh g, ?_⟩
      rcases hh with ⟨k, h2, h3⟩ | ⟨k, h2, _⟩
      · refine .inr ⟨S.pl, h2, h3, .inl ?_⟩
        have : S.pl = 0 + (R ++ [l]).length := h1.plI
        rw [List.length_append, List.length_singleton] at this
        omega
      · exact .inl h2
end My
namespace My
open PySem PySem.Spec PyProof.Rows L2
abbrev sLaw : Stmt := top 26 /-law-/
/-- what the law asks of the classes of errors -/
structure LawE (K : PySem.W.Frag) (mg : Str → Option Value) (CE D : Addr) : Prop where
  gM : mg "MetronetError" = some (.ref D)
  gI : mg "InvalidText" = some (.ref CE)
  ex : PySem.W.exmOne K (.ref CE) (.ref D) = some true
  eC : L2.ExcC K CE
  xC : XfC K CE
  nopl : PySem.W.findIn K (.ref CE) "place" = some none
  nonm : PySem.W.findIn K (.ref CE) "name" = some none
theorem sum_rows {n : Nat} : ∀ {R : List Str}, Rws n R → ((R.map fun r => r ++ ("\n" : Str)).map (·.length)).sum ≤ (n + 10) * R.length
  | [], _ => Nat.zero_le _
  | r :: R, h => by
    have h1 := sum_rows (n := n) (R := R) fun x hx => h x (List.mem_cons_of_mem _ hx)
    have h2 := (h r List.mem_cons_self).ln
    have h3 := My.l5
    rw [List.map_cons, List.map_cons, List.sum_cons, Str.length_append, List.length_cons, Nat.mul_succ]
    omega
theorem cutS_len_le' (z : Str) (lo hi : Option Int) : (cutS z lo hi).length ≤ z.length := by
  rw [TL.len_tl, TL.len_tl]
  show (List.take _ (List.drop _ z.cps.toList)).length ≤ z.cps.toList.length
  rw [List.length_take, List.length_drop]
  omega
theorem all_fed {R : List Str} (h : R ≠ []) : ∃ A l, R = A ++ [l] := ⟨R.dropLast, R.getLast h, (List.dropLast_concat_getLast h).symm⟩
section
variable {P : Program} {w : World} {K : PySem.W.Frag} {mg : Str → Option Value} {base : Heap}
theorem scLaw : FnScope ["script", "rows", "numbers", "text", "place", "due", "net", "plan", "error", "row"] ["script"] (defScope sLaw) := ⟨rfl, rfl, rfl, by decide +kernel, rfl, by decide +kernel, by decide +kernel⟩
def spLaw (K : PySem.W.Frag) : Sp := fun vs H Q _ => ∃ (a : Addr) (ns : List Int), vs = [.ref a] ∧ SqL K H a (ns.map V.int) ∧ ns.length ≤ 63 ∧ ∀ H', Q (.bl true) H'
theorem ok_law {f C C2 CE D fRw fD fCe fSp fDu fR fSe : Addr} {fd fdRw fdD fdCe fdSp fdDu fdR fdSe : FuncData} {k : Nat} (F : Fun K "law" "law" sLaw f fd) (T : Blt mg) (hisi : mg "isinstance" = none) (c : NetC K C) (le : LawE K mg CE D)
    (GRw : Callee P w K mg base 1 "_law_rows" ["numbers"] spRows fRw fdRw) (GD : Callee P w K mg base 1 "_law_draw" ["cell", "many", "bound"] spDraw fD fdD) (GC : Callee P w K mg base 1 "_law_cell" ["script", "k"] (spCell K) fCe fdCe)
    (GSp : Callee P w K mg base 2 "_law_spoilt" ["rows", "numbers"] spSpoilt fSp fdSp) (GDu : Callee P w K mg base 4 "_law_due" ["rows"] (spDue K C2) fDu fdDu) (GR : CalleeX P w K mg base 7 "read_text" ["text"] (spRText K C C2 true CE) fR fdR) (GSe : TwMk P w K mg base C2 fSe fdSe) :
    FnOk P w K mg base CX0 (k + 8) f fd ["script"] (spLaw K) := by
  refine F.ok scLaw (fun vs H Q E h => ?_) (fun cdv A0 outer s0 H vs Q E hr h => ?_)
  · obtain ⟨a, ns, rfl, _⟩ := h
    rfl
  · obtain ⟨a, ns, rfl, hS, hlen, q⟩ := h
    have nd := scLaw.nd
    have hr1 : Room 1 _ := hr.mono (by omega)
    have hr2 : Room 2 _ := hr.mono (by omega)
    have hr3 : Room 3 _ := hr.mono (by omega)
    have hr4 : Room 4 _ := hr.mono (by omega)
    have hr7 : Room 7 _ := hr.mono (by omega)
    refine ⟨_, pss_cons (ps_set (i := 1) nd rfl (.inl rfl) (pe_call GRw.ok hr1 (by rfl) GRw.mg GRw.kp GRw.b .nil pass0 (pa_cons (pe_call GD.ok hr1 (by rfl) GD.mg GD.kp GD.b .nil pass0 (pa_cons (pe_call GC.ok hr1 (by rfl) GC.mg GC.kp GC.b .nil pass0 (pa_cons (pv 0) (pa_cons pe_int pa_nil))) (pa_cons pe_int (pa_cons (pe_op op_shl pe_int pe_int) pa_nil)))) pa_nil))) <| pss_cons (ps_set (i := 2) nd rfl (.inl rfl) (pe_call GD.ok hr1 (by rfl) GD.mg GD.kp GD.b .nil pass0 (pa_cons (pe_call GC.ok hr1 (by rfl) GC.mg GC.kp GC.b .nil pass0 (pa_cons (pv 0) (pa_cons pe_int pa_nil))) (pa_cons pe_int (pa_cons (pe_op op_shl pe_int pe_int) pa_nil))))) <| pss_cons (ps_set (i := 1) nd rfl (.inl rfl) (pe_call GSp.ok hr2 (by rfl) GSp.mg GSp.kp GSp.b .nil pass0 (pa_cons (pv 1) (pa_cons (pv 2) pa_nil)))) <| C8.pss_cut (ps_if (PW.pt (pw_and (pt_cmpR op_eq (pe_op op_mod (pe_op op_fdiv (pe_ix ix_list (pv 2) pe_int (fun _ _ => rfl)) pe_int) pe_int) pe_int (nomark _)) (pw_and1 (pt_cmpR op_gt (pe_callB call_len_seq (by rfl) T.len PySem.boot_len (pa_cons (pv 1) pa_nil)) pe_int (nomark _))))) (pss_one (ps_set (i := 1) nd rfl (.inl rfl) (pe_call GSp.ok hr2 (by rfl) GSp.mg GSp.kp GSp.b .nil pass0 (pa_cons (pv 1) (pa_cons (pe_call GD.ok hr1 (by rfl) GD.mg GD.kp GD.b .nil pass0 (pa_cons (pe_call GC.ok hr1 (by rfl) GC.mg GC.kp GC.b .nil pass0 (pa_cons (pv 0) (pa_cons pe_int pa_nil))) (pa_cons pe_int (pa_cons (pe_op op_shl pe_int pe_int) pa_nil)))) pa_nil))))) (pss_nil)) <| pss_cons (ps_set (i := 3) nd rfl (.inl rfl) (pe_join pe_str (pe_lc (own := [("row", 9)]) (g := gName 9) (tt := tYes) rfl nd (pi_list (pv 1)) (blkOk_by (own := [("row", 9)]) (N := ["script", "rows", "numbers", "text", "place", "due", "net", "plan", "error", "row"]) (sc := defScope sLaw) (by decide +kernel)) (fun _ _ _ _ _ => pg_name (i := 9) nd rfl (Or.inl rfl)) (fun _ _ _ _ _ => pts_nil) (fun _ _ _ _ _ => (pe_op op_add_str (pv 9) pe_str))))) <| pss_cons (ps_asg (pe_call GDu.ok hr4 (by rfl) GDu.mg GDu.kp GDu.b .nil pass0 (pa_cons (pv 1) pa_nil)) (pg_tup rfl (pgs_cons (pg_name (i := 4) nd rfl (.inl rfl)) (pgs_cons (pg_name (i := 5) nd rfl (.inl rfl)) pgs_nil)))) <| C8.pss_cut (ps_if (PW.pt (pw_and (pt_cmpR op_eq (pe_op op_mod (pe_op op_fdiv (pe_ix ix_list (pv 2) pe_int (fun _ _ => rfl)) pe_int) pe_int) pe_int (nomark _)) (pw_and (pt_cmpR op_gt (pe_callB call_len_str (by rfl) T.len PySem.boot_len (pa_cons (pv 3) pa_nil)) pe_int (nomark _)) (pw_and1 (pt_cmpR op_gt (pe_callB call_len_str (by rfl) T.len PySem.boot_len (pa_cons (pe_ix ix_list (pv 1) (pe_op op_sub (pe_callB call_len_seq (by rfl) T.len PySem.boot_len (pa_cons (pv 1) pa_nil)) pe_int) (fun _ _ => rfl)) pa_nil)) pe_int (nomark _)))))) (pss_cons (ps_set (i := 3) nd rfl (.inl rfl) (pe_slice sl_str (pv 3) po_none (po_some (pe_op op_sub (pe_callB call_len_str (by rfl) T.len PySem.boot_len (pa_cons (pv 3) pa_nil)) pe_int)))) <| pss_one (ps_if (PW.pt (pw_or (pt_cmpR op_isN (pv 4) pe_non (nomark _)) (pw_or1 (pt_cmpR op_gt (pv 4) (pe_op op_sub (pe_callB call_len_seq (by rfl) T.len PySem.boot_len (pa_cons (pv 1) pa_nil)) pe_int) (nomark _))))) (pss_cons (ps_set (i := 4) nd rfl (.inl rfl) (pe_op op_sub (pe_callB call_len_seq (by rfl) T.len PySem.boot_len (pa_cons (pv 1) pa_nil)) pe_int)) <| pss_one (ps_set (i := 5) nd rfl (.inl rfl) pe_non)) (pss_nil))) (pss_nil)) <| pss_cons ((ps_try_as (i := 8) rfl rfl nd rfl rfl ⟨rfl, by decide, .inl le.gM⟩ takes0 (fun W pn xe tk _ => pss_one (ps_asg (pe_callS GR.ok hr7 (by rfl) GR.mg GR.kp GR.b (fun σ => passAt tk σ) (pa_cons (pv 3) pa_nil)) (pg_tupK (K := K) (n := 2) rfl (pgs_cons (pg_name (i := 6) nd rfl (.inl rfl)) (pgs_cons (pg_name (i := 7) nd rfl (.inl rfl)) pgs_nil))))) (fun a oe cls d pn hz hf => pss_one (ps_ret (pe_and (pe_callB (call_isED le.eC hz hf) (by rfl) hisi PyProof.Rows.boot_isinstance (pa_cons (pv 8) (pa_cons (pe_glob (v := .ref CE) (by rfl) le.gI rfl (by decide)) pa_nil))) (pe_and (pe_cmpR op_eq (pe_xf le.xC le.nonm hz hf (pv 8)) pe_str (nomark _)) (pe_one (pe_cmpR op_eq (pe_xf le.xC le.nopl hz hf (pv 8)) (pv 4) (nomark _))))))))) <| pss_cons (ps_if (PW.pt (pw_or (pt_cmpR op_isN (pv 5) pe_non (nomark _)) (pw_or (pt_cmpR op_ne (pe_fld (pv 6) rfl) (pe_ix ix_tup (pv 5) pe_int (fun _ _ => rfl)) (nomark _)) (pw_or (pt_cmpR op_ne (pe_fld (pv 6) rfl) (pe_ix ix_tup (pv 5) pe_int (fun _ _ => rfl)) (nomark _)) (pw_or (pt_cmpR (op_neD hr.units) (pe_fld (pv 6) rfl) (pe_ix ix_tup (pv 5) pe_int (fun _ _ => rfl)) (nomark _)) (pw_or1 (pt_cmpR (op_neD hr.units) (pe_fld (pv 6) rfl) (pe_ix ix_tup (pv 5) pe_int (fun _ _ => rfl)) (nomark _)))))))) (pss_one (ps_ret pe_bl)) (pss_nil)) <| pss_one (ps_ret (pe_cmpR (op_eqG (rcG_list mon_ent (eqG_ent GSe)) hr3) (pv 7) (pe_ix ix_tup (pv 5) pe_int (fun _ _ => rfl)) (nomark _))), ?_⟩
    have z5 : (5 : Nat) ≤ 1000 := by decide
    -- rows
    refine ⟨_, rfl, a, ns, 0, rfl, hS, _, _, rfl, rfl, ⟨by decide, by decide, by decide⟩, _, _, 5, rfl, by decide, by decide, by decide, fun H1 p1 n1 s1 np1 h1 l1 b1 => ?_⟩
    refine ⟨p1, n1, rfl, h1, l1, fun H2 pr R s2 npr hr' ne lR rR => ?_⟩
    have S2 := s1.trans s2
    -- numbers
    refine ⟨_, rfl, a, ns, 1, rfl, S2.seq hS, _, _, rfl, rfl, ⟨by decide, by decide, by decide⟩, _, _, 4, rfl, by decide, by decide, by decide, fun H3 pn m s3 npn hn lm bm => ?_⟩
    have S3 := S2.trans s3
    refine ⟨_, rfl, _, rfl, pr, pn, R, m, 40, rfl, s3 _ _ hr', hn, lm, ne, by omega, by decide, rR, fun H4 p4 R4 s4 np4 h4 l4 r4 => ?_⟩
    have S4 := S3.trans s4
    have hn4 := s4 _ _ hn
    clear hr' ne rR
    have r4 : Rws 92 R4 := r4
    -- once more
    refine ⟨fun σ' H' => ∃ (p5 : Addr) (R5 : List Str), σ' = [some (.ref a), some (.ref p5), some (.ref pn), none, none, none, none, none, none, none] ∧ Same H4 H' ∧ H' p5 = some (.lst (R5.map V.str)) ∧ R5.length ≤ 12 ∧ Rws 196 R5, ?_, ?_⟩
    · have e4 : (R4.map V.str).length = R4.length := List.length_map ..
      refine and_read (a := decide (m.getD 0 0 / 11 % 4 = 0)) (b := decide (0 < R4.length)) (fun Q h => ?_) (fun _ Q h => ?_) ?_
      · refine ⟨_, rfl, pn, _, _, _, rfl, rfl, SqL.of hn4, atI_ints (j := 0) rfl (by omega), _, _, rfl, rfl, ⟨by decide, by decide⟩, _, _, rfl, rfl, (by show (0 : Int) < 4; decide), rfl, _, rfl, ?_⟩
        show Q (decide (V.int (m.getD 0 0 / 11 % 4) = V.int 0)) H4
        rw [show decide (V.int (m.getD 0 0 / 11 % 4) = V.int 0) = decide (m.getD 0 0 / 11 % 4 = 0) by rw [Bool.eq_iff_iff, decide_eq_true_eq, decide_eq_true_eq, V.int.injEq]]
        exact h
      · refine ⟨_, rfl, p4, _, rfl, .inl (SqL.of h4), _, _, rfl, rfl, _, rfl, ?_⟩
        rw [e4, show decide ((R4.length : Int) > 0) = decide (0 < R4.length) by rw [Bool.eq_iff_iff, decide_eq_true_eq, decide_eq_true_eq]; omega]
        exact h
      refine ite2 (fun e => ?_) (fun _ => ⟨p4, R4, rfl, Same.refl _, h4, by omega, fun r h => (r4 r h).mono (by decide)⟩)
      rw [Bool.and_eq_true, decide_eq_true_eq, decide_eq_true_eq] at e
      refine ⟨_, rfl, _, rfl, a, ns, 2, rfl, S4.seq hS, _, _, rfl, rfl, ⟨by decide, by decide, by decide⟩, _, _, 4, rfl, by decide, by decide, by decide, fun H5 pn2 m2 s5 npn2 hn2 lm2 bm2 => ?_⟩
      exact ⟨p4, pn2, R4, m2, 92, rfl, s5 _ _ h4, hn2, lm2, List.length_pos_iff.mp e.2, by omega, by decide, r4, fun H6 p6 R6 s6 np6 h6 l6 r6 => ⟨p6, R6, rfl, s5.trans s6, h6, by omega, r6⟩⟩
    rintro σ' H5 ⟨p5, R5, rfl, s5, h5, l5, r5⟩
    have S5 := S4.trans s5
    have hn5 := s5 _ _ hn4
    clear h4 r4 l4
    -- text
    refine ⟨⟨_, rfl⟩, _, rfl, p5, rfl, ⟨_, SqL.of h5⟩, fun D nD => ?_⟩
    refine lc_list (K := K) (a := p5) (xs := R5.map V.str) (fun i H' => Same H5 H' ∧ H' D = some (.lst (((R5.take i).map fun r => r ++ ("\n" : Str)).map V.str))) ⟨same_new nD, upd_same⟩ (fun i H' _ z => SqL.of (z.1 _ _ h5)) ?_ ?_
    · rintro i x H' hi' ⟨sm, hD⟩
      obtain ⟨y, ey, rfl⟩ := strs_at hi'
      have hy := r5 y (List.mem_of_getElem? ey)
      refine ⟨rfl, _, rfl, y, _, rfl, rfl, sz (Nat.le_trans (Nat.add_le_add hy.ln My.l5) (by decide)), _, hD, szl (by rw [List.length_map, List.length_map, List.length_take]; omega), same_but sm nD but_self, ?_⟩
      rw [upd_same, take_snoc ey, List.map_append, List.map_append]
      rfl
    rintro H6 ⟨s6, hD⟩
    rw [List.length_map, List.take_length] at hD
    have S6 := S5.trans s6
    have h6 := s6 _ _ h5
    have hn6 := s6 _ _ hn5
    refine ⟨_, D, R5.map fun r => r ++ ("\n" : Str), rfl, rfl, .inl (SqL.of hD), ?_, ?_⟩
    · rw [show ("" : Str).length = 0 by decide +kernel, Nat.mul_zero, Nat.add_zero]
      exact Nat.le_trans (sum_rows r5) (by omega)
    have eg : Txt.join "" (R5.map fun r => r ++ ("\n" : Str)) = glueT R5 := glue2_eq R5
    rw [eg]
    have gl : (glueT R5).length ≤ 3010 * R5.length := glue_len fun r hr => Nat.le_trans (r5 r hr).ln (by decide)
    -- what is due
    refine ⟨_, rfl, p5, R5, rfl, h6, l5, fun r hr => (r5 r hr).mono (by decide), fun H7 t s7 hdue => ?_⟩
    obtain ⟨pv, dv, ht, pd⟩ := hdue.pd
    refine ⟨t, _, rfl, SqT.of ht, rfl, _, _, rfl, _, _, rfl, rfl, ?_⟩
    have S7 := S6.trans s7
    have h7 := s7 _ _ h6
    have hn7 := s7 _ _ hn6
    -- the last line feed
    refine ⟨fun σ' H' => ∃ (x : Str) (pv dv : V) (rows : List Str) (last : Str), σ' = [some (.ref a), some (.ref p5), some (.ref pn), some (.str x), some pv, some dv, none, none, none, none] ∧ Same H7 H' ∧ Txt.split x ("\n" : Str) = rows ++ [last] ∧ x.length ≤ 1000000 ∧ rows.length ≤ 12 ∧ Rws 196 rows ∧ last.length ≤ 196 ∧ FD K C2 H' rows last pv dv, ?_, ?_⟩
    · have sl : (glueT R5).length ≤ sizeLine := sz (by omega)
      have e5 : (R5.map V.str).length = R5.length := List.length_map ..
      refine and_read (a := decide (m.getD 0 0 / 44 % 6 = 0)) (b := decide (0 < (glueT R5).length) && decide (0 < (wd R5 (R5.length - 1)).length)) (fun Q h => ?_) (fun _ Q h => ?_) ?_
      · refine ⟨_, rfl, pn, _, _, _, rfl, rfl, SqL.of hn7, atI_ints (j := 0) rfl (by omega), _, _, rfl, rfl, ⟨by decide, by decide⟩, _, _, rfl, rfl, (by show (0 : Int) < 6; decide), rfl, _, rfl, ?_⟩
        show Q (decide (V.int (m.getD 0 0 / 44 % 6) = V.int 0)) H7
        rw [show decide (V.int (m.getD 0 0 / 44 % 6) = V.int 0) = decide (m.getD 0 0 / 44 % 6 = 0) by rw [Bool.eq_iff_iff, decide_eq_true_eq, decide_eq_true_eq, V.int.injEq]]
        exact h
      · refine and_read (a := decide (0 < (glueT R5).length)) (b := decide (0 < (wd R5 (R5.length - 1)).length)) (fun Q h => ?_) (fun e Q h => ?_) h
        · refine ⟨_, rfl, glueT R5, rfl, sl, _, _, rfl, rfl, _, rfl, ?_⟩
          rw [show decide (((glueT R5).length : Int) > 0) = decide (0 < (glueT R5).length) by rw [Bool.eq_iff_iff, decide_eq_true_eq, decide_eq_true_eq]; omega]
          exact h
        · have lp : 0 < R5.length := by
            have := of_decide_eq_true e
            omega
          refine ⟨_, rfl, _, rfl, p5, _, rfl, .inl (SqL.of h7), _, _, rfl, rfl, p5, _, _, _, rfl, rfl, SqL.of h7, ?_, wd R5 (R5.length - 1), rfl, sz (by have := (r5 _ (wd_mem (R := R5) (j := R5.length - 1) (by omega))).ln; omega), _, _, rfl, rfl, _, rfl, ?_⟩
          · rw [e5, show (R5.length : Int) - 1 = ((R5.length - 1 : Nat) : Int) by omega]
            exact atI_str (by omega)
          · rw [show decide (((wd R5 (R5.length - 1)).length : Int) > 0) = decide (0 < (wd R5 (R5.length - 1)).length) by rw [Bool.eq_iff_iff, decide_eq_true_eq, decide_eq_true_eq]; omega]
            exact h
      refine ite2 (fun e => ?_) (fun _ => ⟨glueT R5, pv, dv, R5, "", rfl, Same.refl _, split_glue fun r hr => (r5 r hr).nl, by omega, l5, r5, by decide +kernel, pd.fd l5⟩)
      rw [Bool.and_eq_true, Bool.and_eq_true, decide_eq_true_eq, decide_eq_true_eq, decide_eq_true_eq] at e
      have nR : R5 ≠ [] := fun z => by
        rw [z] at e
        exact absurd e.2.1 (by decide +kernel)
      obtain ⟨A, l, rfl⟩ := all_fed nR
      have eL : (A ++ [l]).length = A.length + 1 := by rw [List.length_append]; rfl
      have el : wd (A ++ [l]) ((A ++ [l]).length - 1) = l := by
        rw [eL]
        unfold wd
        rw [List.getD_eq_getElem?_getD, show A.length + 1 - 1 = A.length by omega, List.getElem?_append_right (Nat.le_refl _), Nat.sub_self]
        rfl
      rw [el] at e
      have nl : l ≠ ("" : Str) := fun z => by
        rw [z] at e
        exact absurd e.2.2 (by decide +kernel)
      have lA : A.length ≤ 11 := by omega
      have rA : Rws 196 A := fun r hr => r5 r (List.mem_append_left _ hr)
      have rl := r5 l (List.mem_append_right _ (List.mem_singleton.mpr rfl))
      refine ⟨_, rfl, _, rfl, glueT (A ++ [l]), rfl, sl, _, _, rfl, rfl, _, rfl, glueT (A ++ [l]), rfl, sl, ?_⟩
      rw [cut_last]
      have lj : (Txt.join ("\n" : Str) (A ++ [l])).length ≤ 1000000 := by
        rw [← cut_last]
        exact Nat.le_trans (cutS_len_le' _ _ _) (by omega)
      have fin : ∀ (n : Nat), ReadsText A l (.inr n) → n ≤ 20 → ∀ v : V, v = .int (n : Int) → FD K C2 H7 A l v .non := fun n g b v ev => .inl ⟨n, g, b, ev, rfl⟩
      have esp : Txt.split (Txt.join ("\n" : Str) (A ++ [l])) ("\n" : Str) = A ++ [l] := split_last fun r hr => (r5 r hr).nl
      have ei : (((A ++ [l]).map V.str).length : Int) - 1 = (A.length : Int) := by rw [List.length_map, eL]; omega
      dsimp only [tNext]
      have small : ∀ {n : Nat}, n ≤ A.length → ReadsText A l (.inr n) → ∃ (x : Str) (pv' dv' : V) (rows : List Str) (last : Str), ([some (.ref a), some (.ref p5), some (.ref pn), some (.str (Txt.join ("\n" : Str) (A ++ [l]))), some (.int (n : Int)), some V.non, none, none, none, none] : L2.St) = [some (.ref a), some (.ref p5), some (.ref pn), some (.str x), some pv', some dv', none, none, none, none] ∧ Same H7 H7 ∧ Txt.split x ("\n" : Str) = rows ++ [last] ∧ x.length ≤ 1000000 ∧ rows.length ≤ 12 ∧ Rws 196 rows ∧ last.length ≤ 196 ∧ FD K C2 H7 rows last pv' dv' := fun {n} nA g =>
        ⟨_, _, _, A, l, rfl, Same.refl _, esp, lj, by omega, rA, rl.ln, fin n g (by omega) _ rfl⟩
      rcases cut_fd pd nl (by omega) with ⟨g, hp⟩ | ⟨n, rfl, rfl, nA, g⟩
      · rcases hp with rfl | ⟨n, rfl, rfl, hn⟩
        · refine ⟨_, rfl, rfl, _, rfl, iteT (iteT ?_)⟩
          refine ⟨_, rfl, p5, _, rfl, .inl (SqL.of h7), _, _, rfl, rfl, ?_⟩
          dsimp only
          rw [ei]
          exact small (Nat.le_refl _) g
        · refine ⟨_, rfl, rfl, _, rfl, iteF ⟨_, rfl, _, rfl, p5, _, rfl, .inl (SqL.of h7), _, _, rfl, rfl, _, _, rfl, rfl, _, rfl, ite2 (fun e' => ?_) (fun e' => ?_)⟩⟩
          · refine ⟨_, rfl, p5, _, rfl, .inl (SqL.of h7), _, _, rfl, rfl, ?_⟩
            dsimp only
            rw [ei]
            exact small (Nat.le_refl _) g
          · rw [ei, decide_eq_true_eq] at e'
            rcases hn with hn | ⟨hn, g'⟩
            · omega
            · exact small hn g'
      · refine ⟨_, rfl, rfl, _, rfl, iteF ⟨_, rfl, _, rfl, p5, _, rfl, .inl (SqL.of h7), _, _, rfl, rfl, _, _, rfl, rfl, _, rfl, ite2 (fun e' => ?_) (fun _ => small nA g)⟩⟩
        rw [ei, decide_eq_true_eq] at e'
        omega
    rintro σ' H8 ⟨x, pv', dv', rows, last, rfl, s8, esp, lx, lrows, rrows, llast, fd⟩
    refine ⟨_, rfl, x, rows, last, rfl, esp, lx, by omega, by omega, fun r hr => ⟨(rrows r hr).as, Nat.le_trans (rrows r hr).ln (by decide)⟩, fun S hR H9 t9 np l9 us s9 ht9 hN hl9 hE => ?_, fun n hR => ?_⟩
    · -- read
      rcases fd with ⟨n, g, _⟩ | ⟨S', g, d, lk, ll, l8, rfl, hd, hD⟩
      · exact absurd (hR.det g) (by simp)
      have eS := hR.det g
      cases eS
      refine ⟨t9, _, rfl, SqT.of ht9, rfl, _, _, rfl, _, _, rfl, rfl, ?_⟩
      have hd9 := s9 _ _ hd
      have hD9 := hD.same s9
      obtain ⟨dx, mk, ml, md, tl1, e1, e2, e3, e4, e5⟩ := hN
      obtain ⟨tl2, d3, d4⟩ := hD9.ls
      obtain ⟨us2, d5, d6⟩ := hD9.es
      have hu := hr.units
      dsimp only [tNext]
      refine ⟨_, rfl, rfl, _, rfl, iteF ?_⟩
      refine ⟨_, rfl, np, C, dx, _, _, rfl, e1, c.cl, c.n3, g3, _, rfl, d, _, _, _, rfl, rfl, SqT.of hd9, (rfl : atI _ _ = some (V.int S.N.pr)), rfl, _, rfl, ite2 (fun z => absurd z (by simp)) (fun _ => ?_)⟩
      refine ⟨_, rfl, np, C, dx, _, _, rfl, e1, c.cl, c.n4, g4, _, rfl, d, _, _, _, rfl, rfl, SqT.of hd9, (rfl : atI _ _ = some (V.int S.N.er)), rfl, _, rfl, ite2 (fun z => absurd z (by simp)) (fun _ => ?_)⟩
      refine ⟨_, rfl, np, C, dx, _, _, rfl, e1, c.cl, c.n1, g1, _, rfl, d, _, _, _, rfl, rfl, SqT.of hd9, (rfl : atI _ _ = some (V.ref lk)), dKinds S.N.ks, dKinds S.N.ks, dp_kinds (SqL.of e2), dp_kinds (SqL.of hD9.ks), (shp_kinds _).shaped, (shp_kinds _).shaped, _, rfl, ?_⟩
      rw [eqv_kinds, decide_eq_true rfl]
      refine iteF ?_
      refine ⟨_, rfl, np, C, dx, _, _, rfl, e1, c.cl, c.n2, g2, _, rfl, d, _, _, _, rfl, rfl, SqT.of hd9, (rfl : atI _ _ = some (V.ref ll)), dLines S.N.ls, dLines S.N.ls, dp_lines (SqL.of e3) e4, dp_lines (SqL.of d3) (d4.same hid_same), (shp_lines _).shaped, (shp_lines _).shaped, _, rfl, ?_⟩
      rw [eqv_lines, decide_eq_true rfl]
      refine iteF ?_
      exact ⟨_, rfl, _, rfl, d, _, _, _, rfl, rfl, SqT.of hd9, (rfl : atI _ _ = some (V.ref l8)), ⟨l9, l8, _, _, rfl, rfl, hl9, d5, dents hE (d6.same hid_same)⟩, fun H' _ => q H'⟩
    · -- told
      rcases fd with ⟨n', g, n20, rfl, rfl⟩ | ⟨S', g, _⟩
      · have en := hR.det g
        cases en
        refine ⟨rfl, by omega, fun H9 d fs hd hn hp => ⟨true, le.ex, fun _ e9 ne9 => ?_, fun z => by cases z⟩⟩
        dsimp only [tRet]
        refine andv (a := true) (b := true) (fun Q h => ?_) (fun _ Q h => ?_) (q _)
        · exact ⟨_, rfl, .ref CE, .ref CE, true, d, fs, rfl, fun u h => h, by unfold PySem.W.kitOne; rw [if_pos (by simp)], rfl, rfl, hd, h⟩
        · refine andv (a := true) (b := true) (fun Q h => ?_) (fun _ Q h => ?_) h
          · refine ⟨_, rfl, rfl, rfl, d, fs, _, rfl, hd, hn, rfl, ?_⟩
            rw [decide_eq_true rfl]
            exact h
          · refine ⟨_, rfl, rfl, rfl, d, fs, _, rfl, hd, hp, _, rfl, rfl, ?_⟩
            rw [decide_eq_true rfl]
            exact h
      · exact absurd (hR.det g) (by simp)
end
end My
namespace My
open PySem PySem.Spec PyProof.Rows L2
/-! ### what the top has written, the head -/
theorem all_mk {l : PySem.W.OpenLaw} {w : World} {K : PySem.W.Frag} {h : Heap} {mg : Str → Option Value} {fa C fI fDl C2 fSi fSe C3 fRi fCh fRl fLn fSm fMn fNs fPo fIp fD fCe fRw fWd fSp fNu fNl fJ fLl fLs fDu fIn fRt fL : Addr} (X : K.In h) (G : h.Ns mainGlobals mg) (hfa : mg "law" = some (.ref fa))
    {PD a1 a2 a3 a4 a5 : Addr} {h1 h2 h3 h4 h5 : Int} {k1 k2 k3 k4 k5 j11 j21 j22 j23 j31 j32 j33 j41 j42 j43 j51 j52 j53 j54 : Tok} {n n1 n2 n3 n4 n5 : Nat} {d1 d2 d3 d4 d5 : Option Addr} {s1 s2 s3 s4 s5 : Array (Option Value)}
    {XC XD XN YN xf xcc xcd : Addr} {xnm xq ynm yq xn2 xfile : Str} {xtk xft : Tok} {xbs xbm ybs ybm xsub ysub : List Value} {xsn ysn : List Str} {xab yab : Bool} {xcol ycol : Option Bool} {xdd ydd xod xan zod vod : Option Addr} {x0 x1 x3 x5 y0 y1 y2 y3 y5 : Option Value} {xoc xkV xdc xpm xct zcl vcl : Value} {xsl zsl vsl : Array (Option Value)} {xvs : Array Value}
    {DK : Addr}
    {odI anI : Option Addr} {slI : Array (Option Value)} {ocI dcI pmI cdI ctI : Value}
    {tkC0 : Tok}
    {tkC1 : Tok}
    {odDl anDl : Option Addr} {slDl : Array (Option Value)} {ocDl kVDl dcDl pmDl cdDl ctDl : Value}
    {odSi anSi : Option Addr} {slSi : Array (Option Value)} {ocSi dcSi pmSi cdSi ctSi kVSi : Value}
    {odSe anSe : Option Addr} {slSe : Array (Option Value)} {ocSe kVSe dcSe pmSe cdSe ctSe : Value}
    {odRi anRi : Option Addr} {slRi : Array (Option Value)} {ocRi dcRi pmRi cdRi ctRi kVRi : Value}
    {odCh anCh : Option Addr} {slCh : Array (Option Value)} {ocCh kVCh dcCh pmCh cdCh ctCh : Value}
    {odRl anRl : Option Addr} {slRl : Array (Option Value)} {ocRl kVRl dcRl pmRl cdRl ctRl : Value}
    {odLn anLn : Option Addr} {slLn : Array (Option Value)} {ocLn kVLn dcLn pmLn cdLn ctLn : Value}
    {odSm anSm : Option Addr} {slSm : Array (Option Value)} {ocSm kVSm dcSm pmSm cdSm ctSm : Value}
    {odMn anMn : Option Addr} {slMn : Array (Option Value)} {ocMn kVMn dcMn pmMn cdMn ctMn : Value}
    {odNs anNs : Option Addr} {slNs : Array (Option Value)} {ocNs kVNs dcNs pmNs cdNs ctNs : Value}
    {odPo anPo : Option Addr} {slPo : Array (Option Value)} {ocPo kVPo dcPo pmPo cdPo ctPo : Value}
    {odIp anIp : Option Addr} {slIp : Array (Option Value)} {ocIp kVIp dcIp pmIp cdIp ctIp : Value}
    {odD anD : Option Addr} {slD : Array (Option Value)} {ocD kVD dcD pmD cdD ctD : Value}
    {odCe anCe : Option Addr} {slCe : Array (Option Value)} {ocCe kVCe dcCe pmCe cdCe ctCe : Value}
    {odRw anRw : Option Addr} {slRw : Array (Option Value)} {ocRw kVRw dcRw pmRw cdRw ctRw : Value}
    {odWd anWd : Option Addr} {slWd : Array (Option Value)} {ocWd kVWd dcWd pmWd cdWd ctWd : Value}
    {odSp anSp : Option Addr} {slSp : Array (Option Value)} {ocSp kVSp dcSp pmSp cdSp ctSp : Value}
    {odNu anNu : Option Addr} {slNu : Array (Option Value)} {ocNu kVNu dcNu pmNu cdNu ctNu : Value}
    {odNl anNl : Option Addr} {slNl : Array (Option Value)} {ocNl kVNl dcNl pmNl cdNl ctNl : Value}
    {odJ anJ : Option Addr} {slJ : Array (Option Value)} {ocJ kVJ dcJ pmJ cdJ ctJ : Value}
    {odLl anLl : Option Addr} {slLl : Array (Option Value)} {ocLl kVLl dcLl pmLl cdLl ctLl : Value}
    {odLs anLs : Option Addr} {slLs : Array (Option Value)} {ocLs kVLs dcLs pmLs cdLs ctLs : Value}
    {odDu anDu : Option Addr} {slDu : Array (Option Value)} {ocDu kVDu dcDu pmDu cdDu ctDu : Value}
    {odIn anIn : Option Addr} {slIn : Array (Option Value)} {ocIn kVIn dcIn pmIn cdIn ctIn : Value}
    {odRt anRt : Option Addr} {slRt : Array (Option Value)} {ocRt kVRt dcRt pmRt cdRt ctRt : Value}
    {odL anL : Option Addr} {slL : Array (Option Value)} {ocL kVL dcL pmL cdL ctL : Value}
    (aC : PySem.W.nsIn K mainGlobals "Net" = some (some (.ref C)))
    (aI : PySem.W.findIn K (.ref C) "__init__" = some (some (.ref fI)))
    (iI : PySem.W.isFn K (.ref fI) = true)
    (lI : K.lookup fI = some ⟨ocI, odI, .func (PySem.W.fnOf "__init__" "Net.__init__" (defArgs sInit) (defBody sInit) (defScope sInit) .none (.ref DK) dcI pmI anI cdI ctI), slI⟩)
    (cI : PySem.W.codeIn K cdI "Net.__init__" = true)
    (kI : PySem.W.keepIn K (.ref fI) = true)
    (kwC0 : PySem.W.nsIn K DK "processing" = some (some (.int 0 tkC0)))
    (kwC1 : PySem.W.nsIn K DK "error" = some (some (.int 0 tkC1)))
    (aDl : PySem.W.findIn K (.ref C) "delay" = some (some (.ref fDl)))
    (iDl : PySem.W.isFn K (.ref fDl) = true)
    (lDl : K.lookup fDl = some ⟨ocDl, odDl, .func (PySem.W.fnOf "delay" "Net.delay" (defArgs sDelay) (defBody sDelay) (defScope sDelay) .none kVDl dcDl pmDl anDl cdDl ctDl), slDl⟩)
    (cDl : PySem.W.codeIn K cdDl "Net.delay" = true)
    (kDl : PySem.W.keepIn K (.ref fDl) = true)
    (pgC : PySem.W.plainGet K C Str.empty = true)
    (hdC : PySem.W.hasDictIn K C = true)
    (poC : PySem.W.plainOver K C = true)
    (saC : PySem.W.findIn K (.ref C) "__setattr__" = some (some (.builtin "object.__setattr__")))
    (mkC : PySem.W.makesIn K C = true)
    (kcC : PySem.W.keepIn K (.ref C) = true)
    (nC1 : PySem.W.findIn K (.ref C) "kinds" = some none)
    (nC2 : PySem.W.findIn K (.ref C) "lines" = some none)
    (nC3 : PySem.W.findIn K (.ref C) "processing" = some none)
    (nC4 : PySem.W.findIn K (.ref C) "error" = some none)
    (nC5 : PySem.W.findIn K (.ref C) "_delays" = some none)
    (aC2 : PySem.W.nsIn K mainGlobals "Stream" = some (some (.ref C2)))
    (aSi : PySem.W.findIn K (.ref C2) "__init__" = some (some (.ref fSi)))
    (iSi : PySem.W.isFn K (.ref fSi) = true)
    (lSi : K.lookup fSi = some ⟨ocSi, odSi, .func (PySem.W.fnOf "__init__" "Stream.__init__" (defArgs sSInit) (defBody sSInit) (defScope sSInit) .none kVSi dcSi pmSi anSi cdSi ctSi), slSi⟩)
    (cSi : PySem.W.codeIn K cdSi "Stream.__init__" = true)
    (kSi : PySem.W.keepIn K (.ref fSi) = true)
    (aSe : PySem.W.findIn K (.ref C2) "__eq__" = some (some (.ref fSe)))
    (iSe : PySem.W.isFn K (.ref fSe) = true)
    (lSe : K.lookup fSe = some ⟨ocSe, odSe, .func (PySem.W.fnOf "__eq__" "Stream.__eq__" (defArgs sSEq) (defBody sSEq) (defScope sSEq) .none kVSe dcSe pmSe anSe cdSe ctSe), slSe⟩)
    (cSe : PySem.W.codeIn K cdSe "Stream.__eq__" = true)
    (kSe : PySem.W.keepIn K (.ref fSe) = true)
    (pgC2 : PySem.W.plainGet K C2 Str.empty = true)
    (hdC2 : PySem.W.hasDictIn K C2 = true)
    (poC2 : PySem.W.plainOver K C2 = true)
    (saC2 : PySem.W.findIn K (.ref C2) "__setattr__" = some (some (.builtin "object.__setattr__")))
    (mkC2 : PySem.W.makesIn K C2 = true)
    (kcC2 : PySem.W.keepIn K (.ref C2) = true)
    (nC21 : PySem.W.findIn K (.ref C2) "period" = some none)
    (nC22 : PySem.W.findIn K (.ref C2) "length" = some none)
    (nC23 : PySem.W.findIn K (.ref C2) "deadline" = some none)
    (nC24 : PySem.W.findIn K (.ref C2) "path" = some none)
    (aC3 : PySem.W.nsIn K mainGlobals "Reader" = some (some (.ref C3)))
    (aRi : PySem.W.findIn K (.ref C3) "__init__" = some (some (.ref fRi)))
    (iRi : PySem.W.isFn K (.ref fRi) = true)
    (lRi : K.lookup fRi = some ⟨ocRi, odRi, .func (PySem.W.fnOf "__init__" "Reader.__init__" (defArgs sRInit) (defBody sRInit) (defScope sRInit) .none kVRi dcRi pmRi anRi cdRi ctRi), slRi⟩)
    (cRi : PySem.W.codeIn K cdRi "Reader.__init__" = true)
    (kRi : PySem.W.keepIn K (.ref fRi) = true)
    (aCh : PySem.W.findIn K (.ref C3) "check" = some (some (.ref fCh)))
    (iCh : PySem.W.isFn K (.ref fCh) = true)
    (lCh : K.lookup fCh = some ⟨ocCh, odCh, .func (PySem.W.fnOf "check" "Reader.check" (defArgs sCheck) (defBody sCheck) (defScope sCheck) .none kVCh dcCh pmCh anCh cdCh ctCh), slCh⟩)
    (cCh : PySem.W.codeIn K cdCh "Reader.check" = true)
    (kCh : PySem.W.keepIn K (.ref fCh) = true)
    (aRl : PySem.W.findIn K (.ref C3) "read_line" = some (some (.ref fRl)))
    (iRl : PySem.W.isFn K (.ref fRl) = true)
    (lRl : K.lookup fRl = some ⟨ocRl, odRl, .func (PySem.W.fnOf "read_line" "Reader.read_line" (defArgs sRLine) (defBody sRLine) (defScope sRLine) .none kVRl dcRl pmRl anRl cdRl ctRl), slRl⟩)
    (cRl : PySem.W.codeIn K cdRl "Reader.read_line" = true)
    (kRl : PySem.W.keepIn K (.ref fRl) = true)
    (aLn : PySem.W.findIn K (.ref C3) "read_net_line" = some (some (.ref fLn)))
    (iLn : PySem.W.isFn K (.ref fLn) = true)
    (lLn : K.lookup fLn = some ⟨ocLn, odLn, .func (PySem.W.fnOf "read_net_line" "Reader.read_net_line" (defArgs sNLine) (defBody sNLine) (defScope sNLine) .none kVLn dcLn pmLn anLn cdLn ctLn), slLn⟩)
    (cLn : PySem.W.codeIn K cdLn "Reader.read_net_line" = true)
    (kLn : PySem.W.keepIn K (.ref fLn) = true)
    (aSm : PySem.W.findIn K (.ref C3) "read_stream" = some (some (.ref fSm)))
    (iSm : PySem.W.isFn K (.ref fSm) = true)
    (lSm : K.lookup fSm = some ⟨ocSm, odSm, .func (PySem.W.fnOf "read_stream" "Reader.read_stream" (defArgs sRStr) (defBody sRStr) (defScope sRStr) .none kVSm dcSm pmSm anSm cdSm ctSm), slSm⟩)
    (cSm : PySem.W.codeIn K cdSm "Reader.read_stream" = true)
    (kSm : PySem.W.keepIn K (.ref fSm) = true)
    (aMn : PySem.W.findIn K (.ref C3) "read_numbers" = some (some (.ref fMn)))
    (iMn : PySem.W.isFn K (.ref fMn) = true)
    (lMn : K.lookup fMn = some ⟨ocMn, odMn, .func (PySem.W.fnOf "read_numbers" "Reader.read_numbers" (defArgs sNums) (defBody sNums) (defScope sNums) .none kVMn dcMn pmMn anMn cdMn ctMn), slMn⟩)
    (cMn : PySem.W.codeIn K cdMn "Reader.read_numbers" = true)
    (kMn : PySem.W.keepIn K (.ref fMn) = true)
    (aNs : PySem.W.findIn K (.ref C3) "net_so_far" = some (some (.ref fNs)))
    (iNs : PySem.W.isFn K (.ref fNs) = true)
    (lNs : K.lookup fNs = some ⟨ocNs, odNs, .func (PySem.W.fnOf "net_so_far" "Reader.net_so_far" (defArgs sNsf) (defBody sNsf) (defScope sNsf) .none kVNs dcNs pmNs anNs cdNs ctNs), slNs⟩)
    (cNs : PySem.W.codeIn K cdNs "Reader.net_so_far" = true)
    (kNs : PySem.W.keepIn K (.ref fNs) = true)
    (pgC3 : PySem.W.plainGet K C3 Str.empty = true)
    (hdC3 : PySem.W.hasDictIn K C3 = true)
    (poC3 : PySem.W.plainOver K C3 = true)
    (saC3 : PySem.W.findIn K (.ref C3) "__setattr__" = some (some (.builtin "object.__setattr__")))
    (mkC3 : PySem.W.makesIn K C3 = true)
    (kcC3 : PySem.W.keepIn K (.ref C3) = true)
    (nC31 : PySem.W.findIn K (.ref C3) "place" = some none)
    (nC32 : PySem.W.findIn K (.ref C3) "previous" = some none)
    (nC33 : PySem.W.findIn K (.ref C3) "processing" = some none)
    (nC34 : PySem.W.findIn K (.ref C3) "error" = some none)
    (nC35 : PySem.W.findIn K (.ref C3) "kinds" = some none)
    (nC36 : PySem.W.findIn K (.ref C3) "lines" = some none)
    (nC37 : PySem.W.findIn K (.ref C3) "entries" = some none)
    (aPo : PySem.W.nsIn K mainGlobals "ports_of" = some (some (.ref fPo)))
    (lPo : K.lookup fPo = some ⟨ocPo, odPo, .func (PySem.W.fnOf "ports_of" "ports_of" (defArgs sPorts) (defBody sPorts) (defScope sPorts) .none kVPo dcPo pmPo anPo cdPo ctPo), slPo⟩)
    (cPo : PySem.W.codeIn K cdPo "ports_of" = true)
    (kPo : PySem.W.keepIn K (.ref fPo) = true)
    (aIp : PySem.W.nsIn K mainGlobals "is_path" = some (some (.ref fIp)))
    (lIp : K.lookup fIp = some ⟨ocIp, odIp, .func (PySem.W.fnOf "is_path" "is_path" (defArgs sIsP) (defBody sIsP) (defScope sIsP) .none kVIp dcIp pmIp anIp cdIp ctIp), slIp⟩)
    (cIp : PySem.W.codeIn K cdIp "is_path" = true)
    (kIp : PySem.W.keepIn K (.ref fIp) = true)
    (aD : PySem.W.nsIn K mainGlobals "_law_draw" = some (some (.ref fD)))
    (lD : K.lookup fD = some ⟨ocD, odD, .func (PySem.W.fnOf "_law_draw" "_law_draw" (defArgs sDraw) (defBody sDraw) (defScope sDraw) .none kVD dcD pmD anD cdD ctD), slD⟩)
    (cD : PySem.W.codeIn K cdD "_law_draw" = true)
    (kD : PySem.W.keepIn K (.ref fD) = true)
    (aCe : PySem.W.nsIn K mainGlobals "_law_cell" = some (some (.ref fCe)))
    (lCe : K.lookup fCe = some ⟨ocCe, odCe, .func (PySem.W.fnOf "_law_cell" "_law_cell" (defArgs sCell) (defBody sCell) (defScope sCell) .none kVCe dcCe pmCe anCe cdCe ctCe), slCe⟩)
    (cCe : PySem.W.codeIn K cdCe "_law_cell" = true)
    (kCe : PySem.W.keepIn K (.ref fCe) = true)
    (aRw : PySem.W.nsIn K mainGlobals "_law_rows" = some (some (.ref fRw)))
    (lRw : K.lookup fRw = some ⟨ocRw, odRw, .func (PySem.W.fnOf "_law_rows" "_law_rows" (defArgs sRows) (defBody sRows) (defScope sRows) .none kVRw dcRw pmRw anRw cdRw ctRw), slRw⟩)
    (cRw : PySem.W.codeIn K cdRw "_law_rows" = true)
    (kRw : PySem.W.keepIn K (.ref fRw) = true)
    (aWd : PySem.W.nsIn K mainGlobals "_law_word" = some (some (.ref fWd)))
    (lWd : K.lookup fWd = some ⟨ocWd, odWd, .func (PySem.W.fnOf "_law_word" "_law_word" (defArgs sWord) (defBody sWord) (defScope sWord) .none kVWd dcWd pmWd anWd cdWd ctWd), slWd⟩)
    (cWd : PySem.W.codeIn K cdWd "_law_word" = true)
    (kWd : PySem.W.keepIn K (.ref fWd) = true)
    (aSp : PySem.W.nsIn K mainGlobals "_law_spoilt" = some (some (.ref fSp)))
    (lSp : K.lookup fSp = some ⟨ocSp, odSp, .func (PySem.W.fnOf "_law_spoilt" "_law_spoilt" (defArgs sSpoilt) (defBody sSpoilt) (defScope sSpoilt) .none kVSp dcSp pmSp anSp cdSp ctSp), slSp⟩)
    (cSp : PySem.W.codeIn K cdSp "_law_spoilt" = true)
    (kSp : PySem.W.keepIn K (.ref fSp) = true)
    (aNu : PySem.W.nsIn K mainGlobals "_law_number" = some (some (.ref fNu)))
    (lNu : K.lookup fNu = some ⟨ocNu, odNu, .func (PySem.W.fnOf "_law_number" "_law_number" (defArgs sNumL) (defBody sNumL) (defScope sNumL) .none kVNu dcNu pmNu anNu cdNu ctNu), slNu⟩)
    (cNu : PySem.W.codeIn K cdNu "_law_number" = true)
    (kNu : PySem.W.keepIn K (.ref fNu) = true)
    (aNl : PySem.W.nsIn K mainGlobals "_law_numbers" = some (some (.ref fNl)))
    (lNl : K.lookup fNl = some ⟨ocNl, odNl, .func (PySem.W.fnOf "_law_numbers" "_law_numbers" (defArgs sNumsL) (defBody sNumsL) (defScope sNumsL) .none kVNl dcNl pmNl anNl cdNl ctNl), slNl⟩)
    (cNl : PySem.W.codeIn K cdNl "_law_numbers" = true)
    (kNl : PySem.W.keepIn K (.ref fNl) = true)
    (aJ : PySem.W.nsIn K mainGlobals "_law_joined" = some (some (.ref fJ)))
    (lJ : K.lookup fJ = some ⟨ocJ, odJ, .func (PySem.W.fnOf "_law_joined" "_law_joined" (defArgs sLJo) (defBody sLJo) (defScope sLJo) .none kVJ dcJ pmJ anJ cdJ ctJ), slJ⟩)
    (cJ : PySem.W.codeIn K cdJ "_law_joined" = true)
    (kJ : PySem.W.keepIn K (.ref fJ) = true)
    (aLl : PySem.W.nsIn K mainGlobals "_law_line" = some (some (.ref fLl)))
    (lLl : K.lookup fLl = some ⟨ocLl, odLl, .func (PySem.W.fnOf "_law_line" "_law_line" (defArgs sLLine) (defBody sLLine) (defScope sLLine) .none kVLl dcLl pmLl anLl cdLl ctLl), slLl⟩)
    (cLl : PySem.W.codeIn K cdLl "_law_line" = true)
    (kLl : PySem.W.keepIn K (.ref fLl) = true)
    (aLs : PySem.W.nsIn K mainGlobals "_law_stream" = some (some (.ref fLs)))
    (lLs : K.lookup fLs = some ⟨ocLs, odLs, .func (PySem.W.fnOf "_law_stream" "_law_stream" (defArgs sLStr) (defBody sLStr) (defScope sLStr) .none kVLs dcLs pmLs anLs cdLs ctLs), slLs⟩)
    (cLs : PySem.W.codeIn K cdLs "_law_stream" = true)
    (kLs : PySem.W.keepIn K (.ref fLs) = true)
    (aDu : PySem.W.nsIn K mainGlobals "_law_due" = some (some (.ref fDu)))
    (lDu : K.lookup fDu = some ⟨ocDu, odDu, .func (PySem.W.fnOf "_law_due" "_law_due" (defArgs sDue) (defBody sDue) (defScope sDue) .none kVDu dcDu pmDu anDu cdDu ctDu), slDu⟩)
    (cDu : PySem.W.codeIn K cdDu "_law_due" = true)
    (kDu : PySem.W.keepIn K (.ref fDu) = true)
    (aIn : PySem.W.nsIn K mainGlobals "is_number" = some (some (.ref fIn)))
    (lIn : K.lookup fIn = some ⟨ocIn, odIn, .func (PySem.W.fnOf "is_number" "is_number" (defArgs sIsNum) (defBody sIsNum) (defScope sIsNum) .none kVIn dcIn pmIn anIn cdIn ctIn), slIn⟩)
    (cIn : PySem.W.codeIn K cdIn "is_number" = true)
    (kIn : PySem.W.keepIn K (.ref fIn) = true)
    (aRt : PySem.W.nsIn K mainGlobals "read_text" = some (some (.ref fRt)))
    (lRt : K.lookup fRt = some ⟨ocRt, odRt, .func (PySem.W.fnOf "read_text" "read_text" (defArgs sRText) (defBody sRText) (defScope sRText) .none kVRt dcRt pmRt anRt cdRt ctRt), slRt⟩)
    (cRt : PySem.W.codeIn K cdRt "read_text" = true)
    (kRt : PySem.W.keepIn K (.ref fRt) = true)
    (aL : PySem.W.nsIn K mainGlobals "law" = some (some (.ref fL)))
    (lL : K.lookup fL = some ⟨ocL, odL, .func (PySem.W.fnOf "law" "law" (defArgs sLaw) (defBody sLaw) (defScope sLaw) .none kVL dcL pmL anL cdL ctL), slL⟩)
    (cL : PySem.W.codeIn K cdL "law" = true)
    (kL : PySem.W.keepIn K (.ref fL) = true)
    (z_range : PySem.W.nsIn K mainGlobals "range" = some none)
    (z_len : PySem.W.nsIn K mainGlobals "len" = some none)
    (z_int : PySem.W.nsIn K mainGlobals "int" = some none)
    (z_list : PySem.W.nsIn K mainGlobals "list" = some none)
    (z_enum : PySem.W.nsIn K mainGlobals "enumerate" = some none)
    (z_zip : PySem.W.nsIn K mainGlobals "zip" = some none)
    (z_max : PySem.W.nsIn K mainGlobals "max" = some none)
    (z_isi : PySem.W.nsIn K mainGlobals "isinstance" = some none)
    (z_set : PySem.W.nsIn K mainGlobals "set" = some none)
    (z_all : PySem.W.nsIn K mainGlobals "all" = some none)
    (z_str : PySem.W.nsIn K mainGlobals "str" = some none)
    (z_sup : PySem.W.nsIn K mainGlobals "super" = some none)
    (ha : PySem.W.findIn K (.ref C2) "__class__" = some (some (.builtin "object.__class__")))
    (haN : PySem.W.findIn K (.ref C) "__class__" = some (some (.builtin "object.__class__")))
    (hn : PySem.W.specialIn K (.builtin "object.__class__") "__get__" = some (some (.builtin "getset_descriptor.__get__")))
    (htk : PySem.W.takesIn K (.builtin "object.__class__") = some true)
    (hm : PySem.W.mroIn K C2 (.type "object") = some true)
    (hmN : PySem.W.mroIn K C (.type "object") = some true)
    (zPD : PySem.W.nsIn K mainGlobals "PLACES" = some (some (.ref PD)))
    (dPD : K.lookup PD = some ⟨.type "dict", none, .dict (plEs h1 h2 h3 h4 h5 k1 k2 k3 k4 k5 a1 a2 a3 a4 a5).toArray n, #[]⟩)
    (kyPD : PySem.W.KeysLit w.params (plEs h1 h2 h3 h4 h5 k1 k2 k3 k4 k5 a1 a2 a3 a4 a5))
    (loPD : (PD == sysModules) = false)
    (t1 : K.lookup a1 = some ⟨.type "tuple", d1, .seq #[.str "" j11] n1, s1⟩)
    (t2 : K.lookup a2 = some ⟨.type "tuple", d2, .seq #[.str "net" j21, .str "host" j22, .str "switch" j23] n2, s2⟩)
    (t3 : K.lookup a3 = some ⟨.type "tuple", d3, .seq #[.str "net" j31, .str "host" j32, .str "switch" j33] n3, s3⟩)
    (t4 : K.lookup a4 = some ⟨.type "tuple", d4, .seq #[.str "host" j41, .str "switch" j42, .str "line" j43] n4, s4⟩)
    (t5 : K.lookup a5 = some ⟨.type "tuple", d5, .seq #[.str "host" j51, .str "switch" j52, .str "line" j53, .str "stream" j54] n5, s5⟩)
    (aXC : PySem.W.nsIn K mainGlobals "InvalidText" = some (some (.ref XC)))
    (aXD : PySem.W.nsIn K mainGlobals "MetronetError" = some (some (.ref XD)))
    (lXC : K.lookup XC = some (excClassObj xnm xq XC XN xbs xbm true xsn xsub xab xcol xdd x0 x1 (some (.str xn2 xtk)) x3 x5 "ValueError.__new__"))
    (lXD : K.lookup XD = some (excClassObj ynm yq XD YN ybs ybm true ysn ysub yab ycol ydd y0 y1 y2 y3 y5 "ValueError.__new__"))
    (exn2 : xn2 = ("InvalidText" : Str))
    (bXC : PySem.HandSPX.refsVE xbm = true)
    (sXC : PySem.W.findIn K (.ref XC) "__setattr__" = some (some (.builtin "object.__setattr__")))
    (eXC : PySem.W.subIn K (.ref XC) (.type "BaseException") = some true)
    (tXC : PySem.W.typeIn K (.ref XC) = some (.type "type"))
    (kXC : PySem.W.keepIn K (.ref XC) = true)
    (gaXC : PySem.W.findIn K (.ref XC) "__getattribute__" = some (some (.builtin "BaseException.__getattribute__")))
    (ggXC : PySem.W.findIn K (.ref XC) "__getattr__" = some none)
    (hdXC : PySem.W.hasDictIn K XC = true)
    (clXC : PySem.W.findIn K (.ref XC) "__class__" = some (some (.builtin "object.__class__")))
    (moXC : PySem.W.mroIn K XC (.type "object") = some true)
    (noTP : PySem.W.nsIn K cStatics "thirdparty.any" = some none)
    (rdXC : PySem.W.findCls K (.ref XC) (.type "type") "__name__" = some (.get (.builtin "getset_descriptor.__get__") (.builtin "type.__name__") (.ref XC) (.type "type")))
    (npXC : PySem.W.findIn K (.ref XC) "place" = some none)
    (nnXC : PySem.W.findIn K (.ref XC) "name" = some none)
    (iXC : PySem.W.findIn K (.ref XC) "__init__" = some (some (.ref xf)))
    (tXf : PySem.W.typeIn K (.ref xf) = some (.type "function"))
    (lXf : K.lookup xf = some ⟨xoc, xod, .func (PySem.W.ksFn "__init__" "MetronetError.__init__" (defArgs sEInit) (defBody sEInit) (defScope sEInit) .none xkV xdc xpm xan (.ref xcd) xct xcc), xsl⟩)
    (cXf : PySem.W.codeIn K (.ref xcd) "MetronetError.__init__" = true)
    (lXcc : K.lookup xcc = some ⟨zcl, zod, .cell (some (.ref XD)), zsl⟩)
    (lXcd : K.lookup xcd = some ⟨vcl, vod, .fields xvs, vsl⟩)
    (vXcd : xvs[2]? = some (.str xfile xft))
    (fXcd : ((l.prog.main.file : Str) == xfile) = true)
    (sXD : PySem.W.mroIn K XC (.ref XD) = some true)
    (uXD : PySem.W.ks_superIn K XC XD "__init__" = some (some (.builtin "ValueError.__init__")))
    (veXC : PySem.W.subIn K (.ref XC) (.type "ValueError") = some true)
    (topS : (l.prog.main.scope.names.lookup ("super" : Str)).isSome = false)
    (eXD : PySem.W.subIn K (.ref XD) (.type "BaseException") = some true)
    (hXD : PySem.W.hasDictIn K XD = true)
    (tXD : PySem.W.typeIn K (.ref XD) = some (.type "type"))
    (pXD : PySem.W.subIn K (.ref XC) (.ref XD) = some true) :
    ∃ fd : FuncData, (∀ (s : Shared) (v : Value), BindsTo s fd ⟨[v], []⟩ [("script", v)]) ∧ ∀ base : Heap, K.In base → base.Ns mainGlobals mg → FnOk l.prog w K mg base CX0 8 fa fd ["script"] (spLaw K) := by
  have e := hfa.symm.trans (PySem.W.mg_of X G aL)
  cases e
  have T : Blt mg := ⟨PySem.W.mg_none_of X G z_range, PySem.W.mg_none_of X G z_len, PySem.W.mg_none_of X G z_int, PySem.W.mg_none_of X G z_list, PySem.W.mg_none_of X G z_enum⟩
  have hrange := PySem.W.mg_none_of X G z_range
  have hlen := PySem.W.mg_none_of X G z_len
  have hint := PySem.W.mg_none_of X G z_int
  have hlist := PySem.W.mg_none_of X G z_list
  have henum := PySem.W.mg_none_of X G z_enum
  have hzip := PySem.W.mg_none_of X G z_zip
  have hmax := PySem.W.mg_none_of X G z_max
  have hisi := PySem.W.mg_none_of X G z_isi
  have hset := PySem.W.mg_none_of X G z_set
  have hall := PySem.W.mg_none_of X G z_all
  have hstr := PySem.W.mg_none_of X G z_str
  have hsup := PySem.W.mg_none_of X G z_sup
  have cC : NetC K C := ⟨⟨pgC, hdC, poC, saC⟩, nC1, nC2, nC3, nC4, nC5⟩
  have gCC := PySem.W.mg_of X G aC
  have FI : FunInit K fI _ := ⟨⟨_, _, _, _, _, _, _, _, _, _, rfl, lI, cI, .inl ⟨rfl, rfl⟩, .inr ⟨DK, rfl, fun q hq => by
    rcases List.mem_cons.mp hq with rfl | hq
    · exact ⟨_, kwC0, ⟨_, rfl⟩⟩
    rw [List.mem_singleton.mp hq]
    exact ⟨_, kwC1, ⟨_, rfl⟩⟩⟩⟩, kI⟩
  have MIC : Mk K C fI := ⟨mkC, aI, iI, kcC⟩
  have FDl := fun_mk (st := sDelay) lDl cDl kDl
  have mDl : Meth K C "delay" fDl := ⟨aDl, iDl, kDl⟩
  have BDl : Binds K _ ["self", "a", "b"] [] := FDl.binds (ps := ["self", "a", "b"]) fun _ _ _ _ _ _ us hl => match us, hl with | [_, _, _], _ => rfl
  have cC2 : StrC K C2 := ⟨⟨pgC2, hdC2, poC2, saC2⟩, nC21, nC22, nC23, nC24⟩
  have gCC2 := PySem.W.mg_of X G aC2
  have FSi := fun_mk (st := sSInit) lSi cSi kSi
  have BSi : Binds K _ ["self", "period", "length", "deadline", "path"] [] := FSi.binds (ps := ["self", "period", "length", "deadline", "path"]) fun _ _ _ _ _ _ us hl => match us, hl with | [_, _, _, _, _], _ => rfl
  have MIC2 : Mk K C2 fSi := ⟨mkC2, aSi, iSi, kcC2⟩
  have FSe := fun_mk (st := sSEq) lSe cSe kSe
  have mSe : Meth K C2 "__eq__" fSe := ⟨aSe, iSe, kSe⟩
  have BSe : Binds K _ ["self", "other"] [] := FSe.binds (ps := ["self", "other"]) fun _ _ _ _ _ _ us hl => match us, hl with | [_, _], _ => rfl
  have cC3 : RdC K C3 := ⟨⟨pgC3, hdC3, poC3, saC3⟩, nC31, nC32, nC33, nC34, nC35, nC36, nC37⟩
  have gCC3 := PySem.W.mg_of X G aC3
  have FRi := fun_mk (st := sRInit) lRi cRi kRi
  have BRi : Binds K _ ["self"] [] := FRi.binds (ps := ["self"]) fun _ _ _ _ _ _ us hl => match us, hl with | [_], _ => rfl
  have MIC3 : Mk K C3 fRi := ⟨mkC3, aRi, iRi, kcC3⟩
  have FCh := fun_mk (st := sCheck) lCh cCh kCh
  have mCh : Meth K C3 "check" fCh := ⟨aCh, iCh, kCh⟩
  have BCh : Binds K _ ["self", "holds"] [] := FCh.binds (ps := ["self", "holds"]) fun _ _ _ _ _ _ us hl => match us, hl with | [_, _], _ => rfl
  have FRl := fun_mk (st := sRLine) lRl cRl kRl
  have mRl : Meth K C3 "read_line" fRl := ⟨aRl, iRl, kRl⟩
  have BRl : Binds K _ ["self", "line"] [] := FRl.binds (ps := ["self", "line"]) fun _ _ _ _ _ _ us hl => match us, hl with | [_, _], _ => rfl
  have FLn := fun_mk (st := sNLine) lLn cLn kLn
  have mLn : Meth K C3 "read_net_line" fLn := ⟨aLn, iLn, kLn⟩
  have BLn : Binds K _ ["self", "words"] [] := FLn.binds (ps := ["self", "words"]) fun _ _ _ _ _ _ us hl => match us, hl with | [_, _], _ => rfl
  have FSm := fun_mk (st := sRStr) lSm cSm kSm
  have mSm : Meth K C3 "read_stream" fSm := ⟨aSm, iSm, kSm⟩
  have BSm : Binds K _ ["self", "words"] [] := FSm.binds (ps := ["self", "words"]) fun _ _ _ _ _ _ us hl => match us, hl with | [_, _], _ => rfl
  have FMn := fun_mk (st := sNums) lMn cMn kMn
  have mMn : Meth K C3 "read_numbers" fMn := ⟨aMn, iMn, kMn⟩
  have BMn : Binds K _ ["self", "words", "bounds"] [] := FMn.binds (ps := ["self", "words", "bounds"]) fun _ _ _ _ _ _ us hl => match us, hl with | [_, _, _], _ => rfl
  have FNs := fun_mk (st := sNsf) lNs cNs kNs
  have mNs : Meth K C3 "net_so_far" fNs := ⟨aNs, iNs, kNs⟩
  have BNs : Binds K _ ["self"] [] := FNs.binds (ps := ["self"]) fun _ _ _ _ _ _ us hl => match us, hl with | [_], _ => rfl
  have FPo := fun_mk (st := sPorts) lPo cPo kPo
  have gPo := PySem.W.mg_of X G aPo
  have BPo : Binds K _ ["path"] [] := FPo.binds (ps := ["path"]) fun _ _ _ _ _ _ us hl => match us, hl with | [_], _ => rfl
  have FIp := fun_mk (st := sIsP) lIp cIp kIp
  have gIp := PySem.W.mg_of X G aIp
  have BIp : Binds K _ ["net", "nodes"] [] := FIp.binds (ps := ["net", "nodes"]) fun _ _ _ _ _ _ us hl => match us, hl with | [_, _], _ => rfl
  have FD := fun_mk (st := sDraw) lD cD kD
  have gD := PySem.W.mg_of X G aD
  have BD : Binds K _ ["cell", "many", "bound"] [] := FD.binds (ps := ["cell", "many", "bound"]) fun _ _ _ _ _ _ us hl => match us, hl with | [_, _, _], _ => rfl
  have FCe := fun_mk (st := sCell) lCe cCe kCe
  have gCe := PySem.W.mg_of X G aCe
  have BCe : Binds K _ ["script", "k"] [] := FCe.binds (ps := ["script", "k"]) fun _ _ _ _ _ _ us hl => match us, hl with | [_, _], _ => rfl
  have FRw := fun_mk (st := sRows) lRw cRw kRw
  have gRw := PySem.W.mg_of X G aRw
  have BRw : Binds K _ ["numbers"] [] := FRw.binds (ps := ["numbers"]) fun _ _ _ _ _ _ us hl => match us, hl with | [_], _ => rfl
  have FWd := fun_mk (st := sWord) lWd cWd kWd
  have gWd := PySem.W.mg_of X G aWd
  have BWd : Binds K _ ["numbers"] [] := FWd.binds (ps := ["numbers"]) fun _ _ _ _ _ _ us hl => match us, hl with | [_], _ => rfl
  have FSp := fun_mk (st := sSpoilt) lSp cSp kSp
  have gSp := PySem.W.mg_of X G aSp
  have BSp : Binds K _ ["rows", "numbers"] [] := FSp.binds (ps := ["rows", "numbers"]) fun _ _ _ _ _ _ us hl => match us, hl with | [_, _], _ => rfl
  have FNu := fun_mk (st := sNumL) lNu cNu kNu
  have gNu := PySem.W.mg_of X G aNu
  have BNu : Binds K _ ["word", "low", "high"] [] := FNu.binds (ps := ["word", "low", "high"]) fun _ _ _ _ _ _ us hl => match us, hl with | [_, _, _], _ => rfl
  have FNl := fun_mk (st := sNumsL) lNl cNl kNl
  have gNl := PySem.W.mg_of X G aNl
  have BNl : Binds K _ ["text", "low", "high"] [] := FNl.binds (ps := ["text", "low", "high"]) fun _ _ _ _ _ _ us hl => match us, hl with | [_, _, _], _ => rfl
  have FJ := fun_mk (st := sLJo) lJ cJ kJ
  have gJ := PySem.W.mg_of X G aJ
  have BJ : Binds K _ ["lines", "a", "b"] [] := FJ.binds (ps := ["lines", "a", "b"]) fun _ _ _ _ _ _ us hl => match us, hl with | [_, _, _], _ => rfl
  have FLl := fun_mk (st := sLLine) lLl cLl kLl
  have gLl := PySem.W.mg_of X G aLl
  have BLl : Binds K _ ["row", "kinds", "lines"] [] := FLl.binds (ps := ["row", "kinds", "lines"]) fun _ _ _ _ _ _ us hl => match us, hl with | [_, _, _], _ => rfl
  have FLs := fun_mk (st := sLStr) lLs cLs kLs
  have gLs := PySem.W.mg_of X G aLs
  have BLs : Binds K _ ["row", "kinds", "lines"] [] := FLs.binds (ps := ["row", "kinds", "lines"]) fun _ _ _ _ _ _ us hl => match us, hl with | [_, _, _], _ => rfl
  have FDu := fun_mk (st := sDue) lDu cDu kDu
  have gDu := PySem.W.mg_of X G aDu
  have BDu : Binds K _ ["rows"] [] := FDu.binds (ps := ["rows"]) fun _ _ _ _ _ _ us hl => match us, hl with | [_], _ => rfl
  have FIn := fun_mk (st := sIsNum) lIn cIn kIn
  have gIn := PySem.W.mg_of X G aIn
  have BIn : Binds K _ ["word"] [] := FIn.binds (ps := ["word"]) fun _ _ _ _ _ _ us hl => match us, hl with | [_], _ => rfl
  have FRt := fun_mk (st := sRText) lRt cRt kRt
  have gRt := PySem.W.mg_of X G aRt
  have BRt : Binds K _ ["text"] [] := FRt.binds (ps := ["text"]) fun _ _ _ _ _ _ us hl => match us, hl with | [_], _ => rfl
  have FL := fun_mk (st := sLaw) lL cL kL
  refine ⟨PySem.W.fnOf "law" "law" (defArgs sLaw) (defBody sLaw) (defScope sLaw) .none kVL dcL pmL anL cdL ctL, fun s v => .of_eq rfl, fun base _ _ => ?_⟩
  have oi : OwnJ K C2 := ⟨ha, hn, htk, hm, if_pos (beq_self_eq_true _)⟩
  have GI : NetMk l.prog w K mg base C fI _ := ⟨ok_init FI T cC, gCC, MIC, kb_net FI⟩
  have GSi : StrMk l.prog w K mg base C2 fSi _ := ⟨ok_sinit FSi T cC2, gCC2, MIC2, BSi, kcC2⟩
  have GSe : TwMk l.prog w K mg base C2 fSe _ := ⟨ok_twin FSe hisi cC2 oi gCC2, mSe.1, mSe.2, BSe⟩
  have GDl : MethOf l.prog w K mg base 1 ["self", "a", "b"] (spDelay K C) fDl _ := ⟨ok_delay FDl cC, BDl⟩
  have eOC : OexC K XC := ⟨⟨_, _, _, _, _, _, _, _, _, _, _, _, _, _, _, lXC, bXC⟩, sXC, eXC, tXC, kXC⟩
  have eEC : L2.ExcC K XC := ⟨gaXC, ggXC, eXC, hdXC, clXC, hn, htk, moXC⟩
  have eNC : NameC K XC "InvalidText" := ⟨tXC, noTP, rdXC, _, _, lXC, by rw [← exn2]; rfl⟩
  have eI : ExcI l.prog K mg XC XD xf xcc xcd _ := ⟨⟨_, _, _, _, _, _, _, _, rfl, lXf⟩, cXf, ⟨_, _, _, lXcc⟩, ⟨_, _, _, _, _, _, lXcd, vXcd, fXcd⟩, ⟨_, by unfold PySem.W.clsIn; rw [lXD] <;> rfl⟩, sXD, uXD, veXC, topS, hsup, eOC, eEC, eNC, npXC, nnXC⟩
  have gXC := PySem.W.mg_of X G aXC
  have gXD := PySem.W.mg_of X G aXD
  have GE : MkE l.prog w K mg base XC xf _ := ⟨ok_einit eI, eOC, iXC, tXf, .all fun us hl => match us, hl with | [_, _], _ => rfl, gXC⟩
  have eL : LawE K mg XC XD := ⟨gXD, gXC, PySem.W.exm_ref eXD hXD tXD pXD, eEC, ⟨gaXC, ggXC, eXC, hdXC⟩, npXC, nnXC⟩
  have GD : Callee l.prog w K mg base 1 "_law_draw" ["cell", "many", "bound"] spDraw fD _ := ⟨ok_draw FD T, gD, FD.kp, BD⟩
  have GCe : Callee l.prog w K mg base 1 "_law_cell" ["script", "k"] (spCell K) fCe _ := ⟨ok_cell FCe T, gCe, FCe.kp, BCe⟩
  have GRw : Callee l.prog w K mg base 1 "_law_rows" ["numbers"] spRows fRw _ := ⟨ok_rows FRw T hstr, gRw, FRw.kp, BRw⟩
  have GWd : Callee l.prog w K mg base 1 "_law_word" ["numbers"] spWord fWd _ := ⟨ok_word FWd T, gWd, FWd.kp, BWd⟩
  have GSp : Callee l.prog w K mg base 2 "_law_spoilt" ["rows", "numbers"] spSpoilt fSp _ := ⟨ok_spoilt FSp T GWd, gSp, FSp.kp, BSp⟩
  have GNu : Callee l.prog w K mg base 1 "_law_number" ["word", "low", "high"] spNumL fNu _ := ⟨ok_numL FNu T, gNu, FNu.kp, BNu⟩
  have GNl : Callee l.prog w K mg base 2 "_law_numbers" ["text", "low", "high"] spNumsL fNl _ := ⟨ok_numsL FNl T GNu, gNl, FNl.kp, BNl⟩
  have GJ : Callee l.prog w K mg base 1 "_law_joined" ["lines", "a", "b"] (spLJo K) fJ _ := ⟨ok_ljo FJ, gJ, FJ.kp, BJ⟩
  have GLl : Callee l.prog w K mg base 2 "_law_line" ["row", "kinds", "lines"] (spLLine K) fLl _ := ⟨ok_lline FLl T GNu GJ, gLl, FLl.kp, BLl⟩
  have GLs : Callee l.prog w K mg base 3 "_law_stream" ["row", "kinds", "lines"] (spLStr K C2) fLs _ := ⟨ok_lstr FLs T GNu GNl GJ GSi, gLs, FLs.kp, BLs⟩
  have GDu : Callee l.prog w K mg base 4 "_law_due" ["rows"] (spDue K C2) fDu _ := ⟨ok_due FDu T GNu GLl GLs, gDu, FDu.kp, BDu⟩
  have GPo : Callee l.prog w K mg base 1 "ports_of" ["path"] (spPo K) fPo _ := ⟨ok_ports FPo T hzip, gPo, FPo.kp, BPo⟩
  have GIp : Callee l.prog w K mg base 2 "is_path" ["net", "nodes"] (spIs K C) fIp _ := ⟨ok_is FIp T hset hall cC GPo mDl GDl, gIp, FIp.kp, BIp⟩
  have GIn : Callee l.prog w K mg base 1 "is_number" ["word"] spIsNum fIn _ := ⟨ok_isnum FIn T.len, gIn, FIn.kp, BIn⟩
  have pl := plc_mk (w := w) (mg := mg) (PySem.W.mg_of X G zPD) dPD kyPD loPD t1 t2 t3 t4 t5
  have GRi : RdMk l.prog w K mg base C3 fRi _ := ⟨ok_rinit FRi cC3, gCC3, MIC3, BRi⟩
  have GCh : MethX l.prog w K mg base 3 ["self", "holds"] (spCheck C3 true XC) fCh _ := ⟨ok_check1 (k := 0) FCh cC3 GE, BCh⟩
  have GMn : MethX l.prog w K mg base 4 ["self", "words", "bounds"] (spNums K C3 true XC) fMn _ := ⟨ok_nums FMn cC3 T hall hzip mCh GCh GIn, BMn⟩
  have GNs : MethOf l.prog w K mg base 3 ["self"] (spNsf K C3 C C2) fNs _ := ⟨ok_nsf FNs cC3 GI, BNs⟩
  have GLn : MethX l.prog w K mg base 5 ["self", "words"] (spNLine K C3 C C2 true XC) fLn _ := ⟨ok_nline FLn cC3 cC T mCh GCh mMn GMn mNs GNs mDl GDl, BLn⟩
  have GSm : MethX l.prog w K mg base 5 ["self", "words"] (spRStr K C3 C C2 true XC) fSm _ := ⟨ok_rstr FSm cC3 T mCh GCh mMn GMn mNs GNs GIp GSi, BSm⟩
  have GRl : MethX l.prog w K mg base 6 ["self", "line"] (spRLine K C3 C C2 true XC) fRl _ := ⟨ok_rline FRl cC3 T pl mCh GCh mMn GMn mLn GLn mSm GSm, BRl⟩
  have GRt : CalleeX l.prog w K mg base 7 "read_text" ["text"] (spRText K C C2 true XC) fRt _ := ⟨ok_rtext FRt cC3 T GRi mCh GCh mRl GRl mNs GNs, gRt, FRt.kp, BRt⟩
  exact ok_law FL T hisi cC eL GRw GD GCe GSp GDu GRt GSe
end My
open PySem PySem.W PyProof.Rows in
set_option maxHeartbeats 0 in
theorem PySem.Challenge.cw_metronet_k21_texts_that_are_refused_holds : PySem.Challenge.rw_metronet_k21_texts_that_are_refused.Holds := by
  w_on; o_law; k_head; (case hw => w_witness2)
  k_fill
  refine L2.walk_of (l := PySem.Challenge.rw_metronet_k21_texts_that_are_refused) (n := 63) (k := 8) (x := "script") (CX := fun _ => L2.CX0) (sp := fun w => My.spLaw _) rfl (by decide) rfl ⟨rfl, by decide, by decide⟩ (fun w h Y => PySem.W.kIn_of Y) ?F (fun _ _ a ns hl _ hS => ⟨a, ns, rfl, hS, hl, fun _ => rfl⟩) (fun _ _ _ _ _ h => h)
  case F =>
    intro w mg fa h KX G hmg
    refine' My.all_mk KX G hmg ?aC ?aI ?iI ?lI ?cI ?kI ?kwC0 ?kwC1 ?aDl ?iDl ?lDl ?cDl ?kDl ?pgC ?hdC ?poC ?saC ?mkC ?kcC ?nC1 ?nC2 ?nC3 ?nC4 ?nC5 ?aC2 ?aSi ?iSi ?lSi ?cSi ?kSi ?aSe ?iSe ?lSe ?cSe ?kSe ?pgC2 ?hdC2 ?poC2 ?saC2 ?mkC2 ?kcC2 ?nC21 ?nC22 ?nC23 ?nC24 ?aC3 ?aRi ?iRi ?lRi ?cRi ?kRi ?aCh ?iCh ?lCh ?cCh ?kCh ?aRl ?iRl ?lRl ?cRl ?kRl ?aLn ?iLn ?lLn ?cLn ?kLn ?aSm ?iSm ?lSm ?cSm ?kSm ?aMn ?iMn ?lMn ?cMn ?kMn ?aNs ?iNs ?lNs ?cNs ?kNs ?pgC3 ?hdC3 ?poC3 ?saC3 ?mkC3 ?kcC3 ?nC31 ?nC32 ?nC33 ?nC34 ?nC35 ?nC36 ?nC37 ?aPo ?lPo ?cPo ?kPo ?aIp ?lIp ?cIp ?kIp ?aD ?lD ?cD ?kD ?aCe ?lCe ?cCe ?kCe ?aRw ?lRw ?cRw ?kRw ?aWd ?lWd ?cWd ?kWd ?aSp ?lSp ?cSp ?kSp ?aNu ?lNu ?cNu ?kNu ?aNl ?lNl ?cNl ?kNl ?aJ ?lJ ?cJ ?kJ ?aLl ?lLl ?cLl ?kLl ?aLs ?lLs ?cLs ?kLs ?aDu ?lDu ?cDu ?kDu ?aIn ?lIn ?cIn ?kIn ?aRt ?lRt ?cRt ?kRt ?aL ?lL ?cL ?kL ?z_range ?z_len ?z_int ?z_list ?z_enum ?z_zip ?z_max ?z_isi ?z_set ?z_all ?z_str ?z_sup ?ha ?haN ?hn ?htk ?hm ?hmN ?zPD ?dPD ?kyPD ?loPD ?t1 ?t2 ?t3 ?t4 ?t5 ?aXC ?aXD ?lXC ?lXD ?exn2 ?bXC ?sXC ?eXC ?tXC ?kXC ?gaXC ?ggXC ?hdXC ?clXC ?moXC ?noTP ?rdXC ?npXC ?nnXC ?iXC ?tXf ?lXf ?cXf ?lXcc ?lXcd ?vXcd ?fXcd ?sXD ?uXD ?veXC ?topS ?eXD ?hXD ?tXD ?pXD
    (case aC => k_is)
    (case aI => k_is)
    (case iI => k_is)
    (case lI => k_is)
    (case cI => k_is)
    (case kI => k_is)
    (case kwC0 => k_is)
    (case kwC1 => k_is)
    (case aDl => k_is)
    (case iDl => k_is)
    (case lDl => k_is)
    (case cDl => k_is)
    (case kDl => k_is)
    (case pgC => k_is)
    (case hdC => k_is)
    (case poC => k_is)
    (case saC => k_is)
    (case mkC => k_is)
    (case kcC => k_is)
    (case nC1 => k_is)
    (case nC2 => k_is)
    (case nC3 => k_is)
    (case nC4 => k_is)
    (case nC5 => k_is)
    (case aC2 => k_is)
    (case aSi => k_is)
    (case iSi => k_is)
    (case lSi => k_is)
    (case cSi => k_is)
    (case kSi => k_is)
    (case aSe => k_is)
    (case iSe => k_is)
    (case lSe => k_is)
    (case cSe => k_is)
    (case kSe => k_is)
    (case pgC2 => k_is)
    (case hdC2 => k_is)
    (case poC2 => k_is)
    (case saC2 => k_is)
    (case mkC2 => k_is)
    (case kcC2 => k_is)
    (case nC21 => k_is)
    (case nC22 => k_is)
    (case nC23 => k_is)
    (case nC24 => k_is)
    (case aC3 => k_is)
    (case aRi => k_is)
    (case iRi => k_is)
    (case lRi => k_is)
    (case cRi => k_is)
    (case kRi => k_is)
    (case aCh => k_is)
    (case iCh => k_is)
    (case lCh => k_is)
    (case cCh => k_is)
    (case kCh => k_is)
    (case aRl => k_is)
    (case iRl => k_is)
    (case lRl => k_is)
    (case cRl => k_is)
    (case kRl => k_is)
    (case aLn => k_is)
    (case iLn => k_is)
    (case lLn => k_is)
    (case cLn => k_is)
    (case kLn => k_is)
    (case aSm => k_is)
    (case iSm => k_is)
    (case lSm => k_is)
    (case cSm => k_is)
    (case kSm => k_is)
    (case aMn => k_is)
    (case iMn => k_is)
    (case lMn => k_is)
    (case cMn => k_is)
    (case kMn => k_is)
    (case aNs => k_is)
    (case iNs => k_is)
    (case lNs => k_is)
    (case cNs => k_is)
    (case kNs => k_is)
    (case pgC3 => k_is)
    (case hdC3 => k_is)
    (case poC3 => k_is)
    (case saC3 => k_is)
    (case mkC3 => k_is)
    (case kcC3 => k_is)
    (case nC31 => k_is)
    (case nC32 => k_is)
    (case nC33 => k_is)
    (case nC34 => k_is)
    (case nC35 => k_is)
    (case nC36 => k_is)
    (case nC37 => k_is)
    (case aPo => k_is)
    (case lPo => k_is)
    (case cPo => k_is)
    (case kPo => k_is)
    (case aIp => k_is)
    (case lIp => k_is)
    (case cIp => k_is)
    (case kIp => k_is)
    (case aD => k_is)
    (case lD => k_is)
    (case cD => k_is)
    (case kD => k_is)
    (case aCe => k_is)
    (case lCe => k_is)
    (case cCe => k_is)
    (case kCe => k_is)
    (case aRw => k_is)
    (case lRw => k_is)
    (case cRw => k_is)
    (case kRw => k_is)
    (case aWd => k_is)
    (case lWd => k_is)
    (case cWd => k_is)
    (case kWd => k_is)
    (case aSp => k_is)
    (case lSp => k_is)
    (case cSp => k_is)
    (case kSp => k_is)
    (case aNu => k_is)
    (case lNu => k_is)
    (case cNu => k_is)
    (case kNu => k_is)
    (case aNl => k_is)
    (case lNl => k_is)
    (case cNl => k_is)
    (case kNl => k_is)
    (case aJ => k_is)
    (case lJ => k_is)
    (case cJ => k_is)
    (case kJ => k_is)
    (case aLl => k_is)
    (case lLl => k_is)
    (case cLl => k_is)
    (case kLl => k_is)
    (case aLs => k_is)
    (case lLs => k_is)
    (case cLs => k_is)
    (case kLs => k_is)
    (case aDu => k_is)
    (case lDu => k_is)
    (case cDu => k_is)
    (case kDu => k_is)
    (case aIn => k_is)
    (case lIn => k_is)
    (case cIn => k_is)
    (case kIn => k_is)
    (case aRt => k_is)
    (case lRt => k_is)
    (case cRt => k_is)
    (case kRt => k_is)
    (case aL => k_is)
    (case lL => k_is)
    (case cL => k_is)
    (case kL => k_is)
    (case z_range => k_is)
    (case z_len => k_is)
    (case z_int => k_is)
    (case z_list => k_is)
    (case z_enum => k_is)
    (case z_zip => k_is)
    (case z_max => k_is)
    (case z_isi => k_is)
    (case z_set => k_is)
    (case z_all => k_is)
    (case z_str => k_is)
    (case z_sup => k_is)
    (case ha => k_is)
    (case haN => k_is)
    (case hn => k_is)
    (case htk => k_is)
    (case hm => k_is)
    (case hmN => k_is)
    (case zPD => k_is)
    (case dPD => k_is)
    (case kyPD => k_keys)
    (case loPD => decide)
    (case t1 => k_is)
    (case t2 => k_is)
    (case t3 => k_is)
    (case t4 => k_is)
    (case t5 => k_is)
    (case aXC => k_is)
    (case aXD => k_is)
    (case lXC => k_is)
    (case lXD => k_is)
    (case exn2 => first | rfl | decide +kernel)
    (case bXC => first | rfl | decide +kernel)
    (case sXC => k_is)
    (case eXC => k_is)
    (case tXC => k_is)
    (case kXC => k_is)
    (case gaXC => k_is)
    (case ggXC => k_is)
    (case hdXC => k_is)
    (case clXC => k_is)
    (case moXC => k_is)
    (case noTP => k_is)
    (case rdXC => k_is)
    (case npXC => k_is)
    (case nnXC => k_is)
    (case iXC => k_is)
    (case tXf => k_is)
    (case lXf => k_is)
    (case cXf => k_is)
    (case lXcc => k_is)
    (case lXcd => k_is)
    (case vXcd => exact rfl)
    (case fXcd => first | rfl | decide +kernel)
    (case sXD => k_is)
    (case uXD => first | ks_is | kernel_rfl)
    (case veXC => k_is)
    (case topS => first | rfl | decide +kernel)
    (case eXD => k_is)
    (case hXD => k_is)
    (case tXD => k_is)
    (case pXD => k_is)
