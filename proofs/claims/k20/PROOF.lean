import PyProof.Rows.All
import Wide.All
import OpenK.AllK
import Wide.FinOn
import HandS.ForMost
import HandS.Wide
import HandS.Defaults
import HandS.MakeKwOnly
import HandS.Flow
import HandS.More
import HandS.Walk
import KE.LtData
import HandS.TupSets
import HandS.SortKw
import HandS.SetKeys
import KE.DataMinMax
import HandS.DictTup
import PyProof.DictMoreH
import HandS.SortRule
import KE.KItemsList
import KE.KDictZip
import KE.KTurns
import KE.KEqDict
import PyProof.DictFindH
import HandS.Gcd
import HandS.IsInst
import KE.KMathGC
import HandS.FStr
import HandS.Text
import HandS.Conv
import HandS.Exc
import HandS.ExcOwn
import HandS.WordsExc
import HandS.TryOnly
import KE.KAssignIn
import HandS.Iter
import HandS.Zip
import HandS.Deep
import HandS.SlotsOwn
import HandS.OwnEq
import HandS.Codes
import PySem.Challenge.RW_metronet_k20_texts_of_plans
set_option Elab.async false
set_option linter.all false
set_option maxRecDepth 100000
set_option maxHeartbeats 4000000
/-! What any law wants, without the row: heaps, loops, order of data. -/
namespace My
open PySem PySem.Spec PyProof.Rows L2

theorem same_new {H : Hp} {p : Addr} {o : HO} (h : H p = none) : Same H (upd H p o) := fun b x e => by
  rw [upd_ne (ne_of_none e h)]
  exact e
/-- an object that H does not know may change -/
theorem same_mut {H H' : Hp} {p : Addr} {o : HO} (e : Same H H') (h : H p = none) : Same H (upd H' p o) := fun a u ha => by
  rw [upd_ne (ne_of_none ha h)]
  exact e a u ha
theorem ne_new {H H' : Hp} {a p : Addr} (n : H p = none) (h : H' p ≠ none) (e : H' a = none) : p ≠ a := fun q => h (q ▸ e)
/-- a list of ints by place -/
theorem ints_at {ns : List Int} {i : Nat} {y : V} (h : (ns.map V.int)[i]? = some y) : ∃ n, ns[i]? = some n ∧ y = .int n := by
  rw [List.getElem?_map] at h
  cases e : ns[i]? with
  | none => rw [e] at h; cases h
  | some n => rw [e] at h; exact ⟨n, rfl, (Option.some.inj h).symm⟩
theorem int_at {ns : List Int} {i : Nat} {n : Int} (h : ns[i]? = some n) : (ns.map V.int)[i]? = some (.int n) := by
  rw [List.getElem?_map, h]; rfl
theorem atI_int {ns : List Int} {i : Nat} (h : i < ns.length) : atI (ns.map V.int) (i : Int) = some (.int ns[i]) := atI_nat (int_at (List.getElem?_eq_getElem h))
theorem sz {n : Nat} (h : n ≤ 100000) : n ≤ sizeLine := Nat.le_trans h (by decide)
theorem szl {n : Nat} (h : n < 100000) : n < sizeLine := Nat.lt_of_lt_of_le h (by decide)

theorem getD_lt {α : Type} {xs : List α} {j : Nat} (d : α) (h : j < xs.length) : xs.getD j d = xs[j] := by
  rw [List.getD_eq_getElem?_getD, List.getElem?_eq_getElem h]; rfl
theorem getD_at {α : Type} {xs : List α} {j : Nat} (d : α) (h : j < xs.length) : xs[j]? = some (xs.getD j d) := by
  rw [getD_lt d h, List.getElem?_eq_getElem h]
theorem atI_ints {ns : List Int} {z : Int} {j : Nat} (e : z = (j : Int)) (h : j < ns.length) : atI (ns.map V.int) z = some (.int (ns.getD j 0)) := by
  rw [e]
  exact atI_nat (int_at (getD_at 0 h))
theorem getD_mem {ns : List Int} {j : Nat} (h : j < ns.length) : ns.getD j 0 ∈ ns := by
  rw [getD_lt 0 h]; exact List.getElem_mem h
/-! ### tests that change nothing -/
theorem or_read {t u : TT} {σ : L2.St} {H : Hp} {Q : Bool → Hp → Prop} {a b : Bool} (ht : ∀ Q : Bool → Hp → Prop, Q a H → t σ H Q) (hu : ∀ Q : Bool → Hp → Prop, Q b H → u σ H Q) (h : Q (a || b) H) : tOr t u σ H Q := by
  refine ht _ ?_
  cases a with
  | true => exact iteT h
  | false => exact iteF (hu _ h)
theorem and_read {t u : TT} {σ : L2.St} {H : Hp} {Q : Bool → Hp → Prop} {a b : Bool} (ht : ∀ Q : Bool → Hp → Prop, Q a H → t σ H Q) (hu : a = true → ∀ Q : Bool → Hp → Prop, Q b H → u σ H Q) (h : Q (a && b) H) : tAnd t u σ H Q := by
  refine ht _ ?_
  cases a with
  | true => exact iteT (hu rfl _ h)
  | false => exact iteF h
/-! ### < of data -/
section
variable {X : Cx}
def rLtD (K : PySem.W.Frag) : R2 := fun x y H Q => ∃ d e, Dp K H x d ∧ Dp K H y e ∧ PySem.W.alike d e = true ∧ d ≠ .none ∧ min d.depth e.depth ≤ 64 ∧ Q (.bl (PySem.W.dataLt d e)) H
theorem op_ltD (hu : X.A.units + 64 < cLine) : OpR X (compareOp .Lt) (rLtD X.K) := by
  intro pins s σ H x y v u Q I rx ry h
  obtain ⟨d, e, hd, he, al, nn, dp, q⟩ := h
  obtain ⟨as, r1⟩ := Dp.reads I d x v hd rx
  obtain ⟨bs, r2⟩ := Dp.reads I e y u he ry
  have z : wpAny (model X.prog X.w) X.A (compareOp .Lt v u) (EP X pins σ Q) X.xe s := PySem.W.rcLt_alike d e X.A s v u as bs r1 r2 al nn (by omega) X.prog X.w X.xe (EP X pins σ Q) ⟨.bl _, H, I, rfl, q⟩
  exact z
end
/-! ### rules that name the written part, for a comprehension's block -/
section
variable {X : Cx} {K : PySem.W.Frag}
theorem pe_fldK {e : Expr} {f : Str} {pos : Pos} {ta : TE} (he : PE X e ta) (hK : X.K = K := by rfl) (hb : attributeBase e f X.env (eval e X.env) = eval e X.env := by rfl) : PE X (.Attribute e f pos) (tFld K ta f) := by
  subst hK
  exact pe_fld he hb
theorem ix_listK (hK : X.K = K := by rfl) : IxR X (rIxL K) := by
  subst hK
  exact ix_list
theorem ix_tupK (hK : X.K = K := by rfl) : IxR X (rIxT K) := by
  subst hK
  exact ix_tup
def rLenK (K : PySem.W.Frag) : List V → Hp → VK → Prop := fun xs H Q => ∃ p ys, xs = [.ref p] ∧ (SqL K H p ys ∨ SqT K H p ys) ∧ Q (.int ys.length) H
theorem call_lenK (hK : X.K = K := by rfl) : CallR X (.builtin "len") (rLenK K) := by
  subst hK
  exact call_len_seq
theorem pg_tupK {es : List Expr} {k : Nat} {t : TGs} {n : Nat} {pos : Pos} (hc : X.calm = true) (h : PGs X es t) (hK : X.K = K := by rfl)
    (hn : (assignEach es X.env).length = n := by rfl) (hst : (assignEach es X.env).findIdx? (·.1) = none := by rfl) : PG X (.Tuple es k pos) (gTup K n t) := by
  subst hK
  exact pg_tup hc h hn hst
end
end My
/-! min(d, default=..), max(d, default=..) over the int keys of a dict. No row. -/
namespace My
open PySem PySem.Spec PyProof.Rows L2
section
variable {X : Cx}
def rMinKD : List V → List V → Hp → VK → Prop := fun vs zs H Q => ∃ (a : Addr) (kvs : List (Key × V)) (is : List Int) (d : V), vs = [V.ref a] ∧ zs = [d] ∧ H a = some (.dK kvs) ∧ kvs.map (·.1) = is.map Sum.inl ∧ (is = [] → Q d H) ∧ (is ≠ [] → ∀ m, m ∈ is → (∀ j ∈ is, m ≤ j) → Q (.int m) H)
def rMaxKD : List V → List V → Hp → VK → Prop := fun vs zs H Q => ∃ (a : Addr) (kvs : List (Key × V)) (is : List Int) (d : V), vs = [V.ref a] ∧ zs = [d] ∧ H a = some (.dK kvs) ∧ kvs.map (·.1) = is.map Sum.inl ∧ (is = [] → Q d H) ∧ (is ≠ [] → ∀ m, m ∈ is → (∀ j ∈ is, j ≤ m) → Q (.int m) H)
theorem cr_minKD (hc : X.calm = true) : CallRK X (.builtin "min") ["default"] rMinKD := by
  intro pins s σ H vs zs us ws Q I r r2 h
  obtain ⟨a, kvs, is, d, rfl, rfl, ha, hv, q0, q⟩ := h
  rw [Vals.ref1 r]
  obtain ⟨dv, rd, rfl⟩ : ∃ dv, RelV d dv ∧ ws = [dv] := by
    cases r2 with
    | cons r t => cases t with
      | nil => exact ⟨_, r, rfl⟩
  obtain ⟨_, hsys, vs, rel, dof⟩ := dk_of I.hok ha
  obtain ⟨ep, dat⟩ := dof.dictAt
  obtain ⟨ob, es, ho, hex, hdat, hko, hpr, hnd⟩ := id dat
  have hlt : a < s.heap.objs.size := Heap.lt_size ho
  have hkeys : vs.map (·.1) = is.map Sum.inl := (KV.keys rel).symm.trans hv
  have hlv : vs.length = is.length := by
    have e1 := congrArg List.length hkeys
    rw [List.length_map, List.length_map] at e1
    exact e1
  have hval : ∀ (i : Nat) (v : Value), (∃ k x, vs[i]? = some (k, x) ∧ (mixKind X.prog X.w).is k v = true) → ∃ t, v = Value.int (is.getD i 0) t := fun i v ⟨k, x, hk, hkey⟩ => by
    have e1 : (vs.map (·.1))[i]? = some k := by rw [List.getElem?_map, hk] <;> rfl
    rw [hkeys, List.getElem?_map] at e1
    obtain ⟨j, hj, e2⟩ := Option.map_eq_some_iff.mp e1
    subst e2
    have hi : Value.isInt j v = true := hkey
    obtain ⟨t, e3⟩ := Value.isInt_shape (k := j) (v := v) hi
    refine ⟨t, ?_⟩
    rw [e3, List.getD_eq_getElem?_getD, hj] <;> rfl
  have hnew : ∀ b (u : Obj), s.heap.get? b = some u → b ∉ [s.heap.objs.size] := fun b u e hm => by
    have e1 : b = s.heap.objs.size := List.mem_singleton.mp hm
    have e2 := Heap.lt_size e
    rw [e1] at e2
    exact absurd e2 (Nat.lt_irrefl _)
  show wpAny _ _ (call (.builtin "min") [.ref a] [("default", dv)]) _ _ _
  refine call_min_walkD (wpAny_pyIter_dict (knd := mixKind X.prog X.w) hsys dat ?_)
  refine ⟨_, _, _, _, _, _, _, s.heap, _, rfl, (Walks.dictKeys (knd := mixKind X.prog X.w) (A := X.A.in1) (I.ok.hd hc) s.heap.objs.size a (Nat.ne_of_lt hlt) vs ep).toS,
    ⟨⟨_, Heap.get?_push_size _ rfl, rfl, rfl⟩, dat.keep fun b u e => Heap.get?_push_of_some _ e⟩, fun b hb => ?_, hnew, fun b o e => Heap.get?_push_of_some _ e, fun hz s' m => ?_, fun hp => ⟨fun i j vi vj s Q E _ => CmpOf.ints_lt (fun i => is.getD i 0) hval i j vi vj s Q E, fun v s' hP m => ?_⟩⟩
  · show b < (s.heap.push _).objs.size
    rw [Heap.size_push]
    rcases List.mem_cons.mp hb with e | hb
    · rw [e]
      exact Nat.lt_succ_self _
    · rw [List.mem_singleton.mp hb]
      exact Nat.lt_succ_of_lt hlt
  · obtain ⟨h', tk, rfl, hk'⟩ := PySem.W.moved_old (s := s) rfl rfl m
    exact ⟨d, H, I.kept (t' := tk) fun b u e => hk' b u e, rd, q0 (List.eq_nil_of_length_eq_zero (by omega))⟩
  · obtain ⟨h', tk, rfl, hk'⟩ := PySem.W.moved_old (s := s) rfl rfl m
    obtain ⟨t, rfl⟩ := hval _ v hP
    obtain ⟨b1, b2⟩ := argBest_lt (fun i => is.getD i 0) (vs.length - 1)
    have hne : is ≠ [] := fun z => by
      rw [z] at hlv
      have : vs.length = 0 := hlv
      omega
    refine ⟨.int _, H, I.kept (t' := tk) fun b u e => hk' b u e, ⟨t, rfl⟩, q hne _ ?_ fun j hj => ?_⟩
    · have hb : argBest (fun i j => decide (is.getD i 0 < is.getD j 0)) (vs.length - 1) < is.length := by omega
      rw [List.getD_eq_getElem?_getD, List.getElem?_eq_getElem hb]
      exact List.getElem_mem hb
    · obtain ⟨i, hi, e⟩ := List.mem_iff_getElem.mp hj
      have e2 : is.getD i 0 = j := by rw [List.getD_eq_getElem?_getD, List.getElem?_eq_getElem hi, ← e] <;> rfl
      rw [← e2]
      exact b2 i (by omega)
theorem cr_maxKD (hc : X.calm = true) : CallRK X (.builtin "max") ["default"] rMaxKD := by
  intro pins s σ H vs zs us ws Q I r r2 h
  obtain ⟨a, kvs, is, d, rfl, rfl, ha, hv, q0, q⟩ := h
  rw [Vals.ref1 r]
  obtain ⟨dv, rd, rfl⟩ : ∃ dv, RelV d dv ∧ ws = [dv] := by
    cases r2 with
    | cons r t => cases t with
      | nil => exact ⟨_, r, rfl⟩
  obtain ⟨_, hsys, vs, rel, dof⟩ := dk_of I.hok ha
  obtain ⟨ep, dat⟩ := dof.dictAt
  obtain ⟨ob, es, ho, hex, hdat, hko, hpr, hnd⟩ := id dat
  have hlt : a < s.heap.objs.size := Heap.lt_size ho
  have hkeys : vs.map (·.1) = is.map Sum.inl := (KV.keys rel).symm.trans hv
  have hlv : vs.length = is.length := by
    have e1 := congrArg List.length hkeys
    rw [List.length_map, List.length_map] at e1
    exact e1
  have hval : ∀ (i : Nat) (v : Value), (∃ k x, vs[i]? = some (k, x) ∧ (mixKind X.prog X.w).is k v = true) → ∃ t, v = Value.int (is.getD i 0) t := fun i v ⟨k, x, hk, hkey⟩ => by
    have e1 : (vs.map (·.1))[i]? = some k := by rw [List.getElem?_map, hk] <;> rfl
    rw [hkeys, List.getElem?_map] at e1
    obtain ⟨j, hj, e2⟩ := Option.map_eq_some_iff.mp e1
    subst e2
    have hi : Value.isInt j v = true := hkey
    obtain ⟨t, e3⟩ := Value.isInt_shape (k := j) (v := v) hi
    refine ⟨t, ?_⟩
    rw [e3, List.getD_eq_getElem?_getD, hj] <;> rfl
  have hnew : ∀ b (u : Obj), s.heap.get? b = some u → b ∉ [s.heap.objs.size] := fun b u e hm => by
    have e1 : b = s.heap.objs.size := List.mem_singleton.mp hm
    have e2 := Heap.lt_size e
    rw [e1] at e2
    exact absurd e2 (Nat.lt_irrefl _)
  show wpAny _ _ (call (.builtin "max") [.ref a] [("default", dv)]) _ _ _
  refine call_max_walkD (wpAny_pyIter_dict (knd := mixKind X.prog X.w) hsys dat ?_)
  refine ⟨_, _, _, _, _, _, _, s.heap, _, rfl, (Walks.dictKeys (knd := mixKind X.prog X.w) (A := X.A.in1) (I.ok.hd hc) s.heap.objs.size a (Nat.ne_of_lt hlt) vs ep).toS,
    ⟨⟨_, Heap.get?_push_size _ rfl, rfl, rfl⟩, dat.keep fun b u e => Heap.get?_push_of_some _ e⟩, fun b hb => ?_, hnew, fun b o e => Heap.get?_push_of_some _ e, fun hz s' m => ?_, fun hp => ⟨fun i j vi vj s Q E _ => CmpOf.ints_gt (fun i => is.getD i 0) hval i j vi vj s Q E, fun v s' hP m => ?_⟩⟩
  · show b < (s.heap.push _).objs.size
    rw [Heap.size_push]
    rcases List.mem_cons.mp hb with e | hb
    · rw [e]
      exact Nat.lt_succ_self _
    · rw [List.mem_singleton.mp hb]
      exact Nat.lt_succ_of_lt hlt
  · obtain ⟨h', tk, rfl, hk'⟩ := PySem.W.moved_old (s := s) rfl rfl m
    exact ⟨d, H, I.kept (t' := tk) fun b u e => hk' b u e, rd, q0 (List.eq_nil_of_length_eq_zero (by omega))⟩
  · obtain ⟨h', tk, rfl, hk'⟩ := PySem.W.moved_old (s := s) rfl rfl m
    obtain ⟨t, rfl⟩ := hval _ v hP
    obtain ⟨b1, b2⟩ := argBest_gt (fun i => is.getD i 0) (vs.length - 1)
    have hne : is ≠ [] := fun z => by
      rw [z] at hlv
      have : vs.length = 0 := hlv
      omega
    refine ⟨.int _, H, I.kept (t' := tk) fun b u e => hk' b u e, ⟨t, rfl⟩, q hne _ ?_ fun j hj => ?_⟩
    · have hb : argBest (fun i j => decide (is.getD i 0 > is.getD j 0)) (vs.length - 1) < is.length := by omega
      rw [List.getD_eq_getElem?_getD, List.getElem?_eq_getElem hb]
      exact List.getElem_mem hb
    · obtain ⟨i, hi, e⟩ := List.mem_iff_getElem.mp hj
      have e2 : is.getD i 0 = j := by rw [List.getD_eq_getElem?_getD, List.getElem?_eq_getElem hi, ← e] <;> rfl
      rw [← e2]
      exact b2 i (by omega)
end
end My
/-! d.setdefault(k, x) of a dict with tuple keys. No row. -/
namespace My
open PySem PySem.Spec PyProof.Rows L2
def tDSetdT (td ty tx : TE) : TE := fun σ H Q => td σ H fun x H1 => ∃ a, x = .ref a ∧ IsD H1 a ∧ ty σ H1 fun y H2 => tx σ H2 fun z H3 => ∃ (kvs : List (List Key × V)) (k : List Key) (b : Addr), H3 a = some (.dT kvs) ∧ y = .ref b ∧ H3 b = some (.tup (k.map kV)) ∧ kvs.length < sizeLine ∧
  (∀ v, valV kvs k = some v → Q v H3) ∧ (valV kvs k = none → Q z (upd H3 a (.dT (putK kvs k z))))
section
variable {X : Cx} {o e f : Expr} {td ty tx : TE} {apos cpos : Pos} {pins : List (Addr × Obj)} {σ : L2.St} {H : Hp} {s : Shared} {a b : Addr} {r : Value} {d : V} {A : Around} {E : Value → Shared → Prop}
theorem d_setdT {kvs : List (List Key × V)} {k : List Key} {Q : Value → Shared → Prop} (hu : A.units + 1 < cLine) (I : Inv X pins σ H s) (e : H a = some (.dT kvs)) (eb : H b = some (.tup (k.map kV))) (rd : RelV d r) (hl : kvs.length < sizeLine)
    (h1 : ∀ v, valV kvs k = some v → ∀ (w' : Value) (s' : Shared), Inv X pins σ H s' → RelV v w' → Q w' s') (h2 : valV kvs k = none → ∀ (w' : Value) (s' : Shared), Inv X pins σ (upd H a (.dT (putK kvs k d))) s' → RelV d w' → Q w' s') :
    wpAny (model X.prog X.w) A (call (.builtin "dict.setdefault") [.ref a, .ref b, r]) Q E s := by
  obtain ⟨z, hd, xs, rel, dd⟩ := dt_of I.hok e
  have hz : xs.length ≤ sizeLine := by rw [← Paired.length rel]; exact z
  have rv := rel.val k
  refine call_setdefault_heap (tupleKind_room_in1 hu) (key_of I.hok eb) hd dd (fun p hp => ?_) (fun hn h' dd' hs => ?_) hz
  · rw [hp] at rv
    cases q0 : valV kvs k with
    | none => rw [q0] at rv; exact (show False from rv).elim
    | some v0 =>
      rw [q0] at rv
      exact h1 v0 q0 _ _ (I.tok _) rv
  · rw [hn] at rv
    cases q0 : valV kvs k with
    | some v0 => rw [q0] at rv; exact (show False from rv).elim
    | none =>
      have hl2 : (putK kvs k d).length ≤ sizeLine := by have := length_putK kvs k d; omega
      obtain ⟨q, es, ep, hq, g2, g3, g4, _, g5⟩ := dd'
      refine h2 q0 _ _ (d_write I (by rw [e]; exact True.intro) hs ⟨q, hq⟩ ⟨hl2, hd, _, (rel.put k eb rd).keeps fun c ys ec => ?_, q, es, ep, hq, g2, g3, g4, g5⟩) rd
      rw [upd_ne (ne_of ec e (fun z => nomatch z))]
      exact ec
theorem pe_dsetdT (hu : X.A.units + 1 < cLine) (ho : PE X o td) (he : PE X e ty) (hf : PE X f tx) (m : M2 X o "setdefault" apos e f cpos) : PE X (.Call (.Attribute o "setdefault" apos) [e, f] [] cpos) (tDSetdT td ty tx) := by
  refine ⟨fun pins s σ H Q I h => ?_⟩
  refine wpAny_Call_method m.base m.few m.line PySem.F.plainAttrs_dict PySem.F.slot_dict_setdefault PySem.F.type_dict_setdefault (thn (ho.run pins s σ H _ I h) fun u s1 ⟨x, H1, I1, rx, a, ex, d, q1⟩ => ?_)
  subst ex
  obtain rfl : u = Value.ref a := rx
  obtain ⟨t1, t2, _⟩ := isD_at I1 d
  refine ⟨t1, t2, ?_⟩
  rw [m.trees]
  refine Calls.callWith_builtin rfl (Calls.evalArgs_plain (Calls.spliced_cons (thn (he.run pins s1 σ H1 _ I1 q1) fun iv s2 ⟨y, H2, I2, ry, q2⟩ =>
    Calls.spliced_cons (thn (hf.run pins s2 σ H2 _ I2 q2) fun fv s3 ⟨z, H3, I3, rz, kvs, k, b, ea, ey, eb, hl, q3, q4⟩ => Calls.spliced_nil ?_))))
  subst ey
  cases (show iv = Value.ref b from ry)
  exact d_setdT hu I3 ea eb rz hl (fun v hv w' s4 I4 rw' => ⟨v, _, I4, rw', q3 v hv⟩) fun hn w' s4 I4 rw' => ⟨z, _, I4, rw', q4 hn⟩
end
end My
/-! sorted(xs) of triples of ints, any length. No row. -/
namespace SrtO
open PySem PySem.Spec PyProof.Rows L2
abbrev I3 := Int × Int × Int
def lex3 (p q : I3) : Bool := if p.1 = q.1 then (if p.2.1 = q.2.1 then decide (p.2.2 < q.2.2) else decide (p.2.1 < q.2.1)) else decide (p.1 < q.1)
theorem lex3_iff {p q : I3} : lex3 p q = true ↔ p.1 < q.1 ∨ (p.1 = q.1 ∧ (p.2.1 < q.2.1 ∨ (p.2.1 = q.2.1 ∧ p.2.2 < q.2.2))) := by
  unfold lex3
  by_cases e : p.1 = q.1
  · rw [if_pos e]
    by_cases e2 : p.2.1 = q.2.1
    · rw [if_pos e2, decide_eq_true_eq]; omega
    · rw [if_neg e2, decide_eq_true_eq]; omega
  · rw [if_neg e, decide_eq_true_eq]; omega
theorem lex3_no {p q : I3} : lex3 p q = false ↔ ¬ (p.1 < q.1 ∨ (p.1 = q.1 ∧ (p.2.1 < q.2.1 ∨ (p.2.1 = q.2.1 ∧ p.2.2 < q.2.2)))) := by
  rw [← lex3_iff]
  cases lex3 p q <;> simp
theorem swo_lex3 {α : Type} (k : α → I3) : Swo fun v u => lex3 (k v) (k u) := by
  refine ⟨fun x y h => ?_, fun x y z h1 h2 => ?_⟩
  · have a := lex3_iff.mp h
    refine lex3_no.mpr ?_
    omega
  · have a := lex3_no.mp h1
    have b := lex3_no.mp h2
    refine lex3_no.mpr ?_
    omega
def IsTrip (h : Heap) (v : Value) (k : I3) : Prop := ∃ a o t u r n, v = .ref a ∧ h.get? a = some o ∧ o.cls = .type "tuple" ∧ o.data = .seq #[.int k.1 t, .int k.2.1 u, .int k.2.2 r] n
theorem IsTrip.keeps {h h' : Heap} {v : Value} {x : I3} (p : IsTrip h v x) (k : ∀ b o, h.get? b = some o → o.cls = .type "tuple" → h'.get? b = some o) : IsTrip h' v x := by
  obtain ⟨a, o, t, u, r, n, e, ho, hc, hd⟩ := p
  exact ⟨a, o, t, u, r, n, e, k _ _ ho hc, hc, hd⟩
theorem firsts3 {h : Heap} : ∀ {vs : List Value}, (∀ v ∈ vs, ∃ x, IsTrip h v x) → ∃ fs : List Value, PySem.W.KatTups h vs fs ∧ fs.length = vs.length ∧ ∀ f ∈ fs, ∃ x t, f = Value.int x t
  | [], _ => ⟨[], PySem.W.KatTups.nil, rfl, fun _ hm => by simp at hm⟩
  | v :: vs, hp => by
    obtain ⟨fs, h1, h2, h3⟩ := firsts3 (vs := vs) fun v' hm => hp v' (List.mem_cons_of_mem _ hm)
    obtain ⟨x, a, o, t, u, r, n, e, ho, hc, hd⟩ := hp v (List.mem_cons_self ..)
    subst e
    refine ⟨.int x.1 t :: fs, PySem.W.KatTups.cons ho hc hd rfl h1, by rw [List.length_cons, List.length_cons, h2], fun f hm => ?_⟩
    rcases List.mem_cons.mp hm with rfl | hm
    · exact ⟨_, t, rfl⟩
    · exact h3 f hm
section
variable {prog : Program} {w : World} {A : Around} {E : Value → Shared → Prop} {s : Shared}
theorem trip_cmp {vs : List Value} {k : Value → I3} (hp : ∀ v ∈ vs, IsTrip s.heap v (k v)) : Cmp prog w A s (tuples' true) (fun p => p.1 ∈ vs) (lt2 fun v u => lex3 (k v) (k u)) := by
  intro p q hm hm'
  have h1 := hp _ hm
  have h2 := hp _ hm'
  show wpAny (model prog w) A (keyLt' (tuples' true) p.1 q.1) (fun r s' => s' = s ∧ r = lex3 (k p.1) (k q.1)) (fun _ _ => False) s
  unfold lex3
  generalize k p.1 = x at h1 ⊢
  generalize k q.1 = x' at h2 ⊢
  obtain ⟨x, y, z⟩ := x
  obtain ⟨x', y', z'⟩ := x'
  dsimp only at *
  obtain ⟨a, o, t, u, r, n, e, ho, hc, hd⟩ := h1
  obtain ⟨a', o', t', u', r', n', e', ho', hc', hd'⟩ := h2
  dsimp only at hd hd'
  rw [e, e']
  refine PySem.W.kat_lt ho hd ho' hd' ?_
  show PySem.W.KatLex prog w A true (decide (3 < 3)) _ [(.int x t, .int x' t'), (.int y u, .int y' u'), (.int z r, .int z' r')] 0 s
  refine PySem.W.kat_cons (SeqAt.EqAt.int_int x t x' t' prog w _ _ ?_)
  refine PySem.W.kat_go (fun e1 => ?_) (fun e1 => ?_)
  · have ex : x = x' := by simpa using e1
    rw [if_pos ex]
    refine PySem.W.kat_yes (PySem.W.kat_cons (SeqAt.EqAt.int_int y u y' u' prog w _ _ ?_))
    refine PySem.W.kat_go (fun e2 => ?_) (fun e2 => ?_)
    · have ey : y = y' := by simpa using e2
      rw [if_pos ey]
      refine PySem.W.kat_yes (PySem.W.kat_cons (SeqAt.EqAt.int_int z r z' r' prog w _ _ ?_))
      refine PySem.W.kat_go (fun e3 => ?_) (fun e3 => ?_)
      · have ez : z = z' := by simpa using e3
        exact PySem.W.kat_yes (PySem.W.kat_nil ⟨rfl, (by rw [ez]; exact (decide_eq_false (Int.lt_irrefl _)).symm)⟩)
      · refine PySem.W.kat_no (PySem.W.kat_one _ _ (PyProof.Rows.lt_int ?_))
        exact ⟨rfl, rfl⟩
    · have ey : ¬ y = y' := by simpa using e2
      rw [if_neg ey]
      refine PySem.W.kat_no (PySem.W.kat_one _ _ (PyProof.Rows.lt_int ?_))
      exact ⟨rfl, rfl⟩
  · have ex : ¬ x = x' := by simpa using e1
    rw [if_neg ex]
    exact PySem.W.kat_no (oneLt_int ⟨rfl, rfl⟩)
theorem trips_sortable {a : Addr} {vs : List Value} {k : Value → I3} (h0 : 0 < vs.length) (hp : ∀ v ∈ vs, IsTrip s.heap v (k v)) (ha : ∀ o, s.heap.get? a = some o → o.cls ≠ .type "tuple") : SortableO prog w A s a vs fun v u => lex3 (k v) (k u) := by
  intro h' keep
  have hp' : ∀ v ∈ vs, IsTrip h' v (k v) := fun v hm => (hp v hm).keeps fun b o e c => keep b o (fun z => by subst z; exact ha o e c) e
  obtain ⟨fs, h1, h2, h3⟩ := firsts3 fun v hm => ⟨_, hp' v hm⟩
  refine ⟨tuples' true, fun Q E hq => ?_, trip_cmp hp'⟩
  refine PySem.W.kat_kind (T := .type "int") h1 (by omega) (fun f hm => ?_) (by rfl) ?_
  · obtain ⟨x, t, rfl⟩ := h3 f hm
    exact PySem.W.Looks.now
  · have e : (Value.type "int" != Value.type "tuple") = true := by first | decide +kernel | rfl | decide
    rw [e]
    exact hq
theorem sorted_trips {l : Addr} {vs : List Value} {k : Value → I3} {Q : Value → Shared → Prop} (hl : s.heap.IsList l vs.toArray) (hz : vs.length ≤ sizeLine) (hp : ∀ v ∈ vs, IsTrip s.heap v (k v))
    (h : ∀ (h' : Heap) (d : Addr) (out : List Value), Srtd (fun v u => lex3 (k v) (k u)) out → Stb (fun v u => lex3 (k v) (k u)) out vs → (∀ b o, s.heap.get? b = some o → h'.get? b = some o) → s.heap.objs.size ≤ d → (∃ n, h'.get? d = some (seqObj "list" out.toArray n)) → Q (.ref d) { s with heap := h' }) :
    wpAny (model prog w) A (call (.builtin "sorted") [.ref l]) Q E s := by
  refine sorted_ord (swo_lex3 k) hl hz (fun h2 h₁ a ha kk => ?_) fun out hs hb => ?_
  · refine trips_sortable (s := { s with heap := h₁ }) (by omega) (fun v hm => (hp v hm).keeps fun b o e _ => (kk b o e).2) fun o e => ?_
    have e' : some o = some (seqObj "list" vs.toArray 0) := e.symm.trans ha
    cases e'
    intro c
    exact absurd (Value.type.inj c) (by decide)
  · exact h _ _ out hs hb (fun b o e => sortedAll_old e) (Nat.le_succ _) (sortedAll_at s.heap vs out.toArray)
end
end SrtO
namespace L2
open PySem PySem.Spec PyProof.Rows
abbrev ltT (k : V → SrtO.I3) (x y : V) : Bool := SrtO.lex3 (k x) (k y)
def rSortedT3 (K : PySem.W.Frag) : List V → Hp → VK → Prop := fun vs H Q => ∃ (a : Addr) (xs : List V) (k : V → SrtO.I3), vs = [V.ref a] ∧ SqL K H a xs ∧ (∀ x ∈ xs, ∃ t, x = V.ref t ∧ H t = some (.tup [.int (k x).1, .int (k x).2.1, .int (k x).2.2])) ∧
  ∀ ys p, SrtO.Srtd (ltT k) ys → ys.Perm xs → H p = none → Q (.ref p) (upd H p (.lst ys))
section
variable {X : Cx}
theorem cr_sortedT3 : CallR X (.builtin "sorted") (rSortedT3 X.K) := by
  intro pins s σ H vs us Q I r h
  obtain ⟨a, xs, k, rfl, hs, hx, q⟩ := h
  obtain ⟨its, rv, hl, hz⟩ := I.list hs
  obtain ⟨u, rfl, ru⟩ := vals1 r
  obtain rfl : u = Value.ref a := ru
  obtain ⟨e1, e2⟩ := refs_back rv fun x m => by
    obtain ⟨t, e, _⟩ := hx x m
    exact ⟨t, e⟩
  refine SrtO.sorted_trips (k := fun u => k (backV u)) hl.isList (by rw [← rv.length]; exact hz) (fun v hv => ?_) fun h' d out h1 h2 kp hd hn => ?_
  · obtain ⟨t, rfl⟩ := e2 v hv
    have hm : V.ref t ∈ xs := by rw [e1]; exact List.mem_map.mpr ⟨_, hv, rfl⟩
    obtain ⟨t', e, ht⟩ := hx _ hm
    cases e
    obtain ⟨_, its2, r2, o, ho, hc, n, hd⟩ := I.hok _ _ ht
    obtain ⟨u1, u2, u3, rfl, ri, rj, rk⟩ : ∃ u1 u2 u3, its2 = [u1, u2, u3] ∧ RelV (.int (k (.ref t)).1) u1 ∧ RelV (.int (k (.ref t)).2.1) u2 ∧ RelV (.int (k (.ref t)).2.2) u3 := by
      cases r2 with
      | cons a1 r2 => cases r2 with
        | cons a2 r2 => cases r2 with
          | cons a3 r2 => cases r2 with
            | nil => exact ⟨_, _, _, rfl, a1, a2, a3⟩
    obtain ⟨t1, rfl⟩ := ri
    obtain ⟨t2, rfl⟩ := rj
    obtain ⟨t3, rfl⟩ := rk
    exact ⟨t, o, t1, t2, t3, n, rfl, ho, hc, hd⟩
  · have h3 : ∀ u ∈ out, ∃ a, u = Value.ref a := fun u hu => e2 u (h2.perm.mem_iff.mp hu)
    obtain ⟨n, hn⟩ := hn
    have hb : (out.map backV).Perm xs := by
      rw [e1]
      exact h2.perm.map backV
    refine ⟨.ref d, upd H d (.lst (out.map backV)), I.laid (t' := s.toks) kp hd ⟨?_, out, n, vals_back h3, hn⟩, rfl, q _ d (SrtO.srtd_map h1) hb (I.hok.fresh hd)⟩
    rw [hb.length_eq]
    exact hz
end
end L2
/-! Nets as data, how the heap bears them. No row. -/
namespace My
open PySem PySem.Spec PyProof.Rows L2
/-- a net as data: host or not, the lines, processing, clock bound -/
structure NetD where
  ks : List Bool
  ls : List (Nat × Nat × Int)
  pr : Int
  er : Int
def kindV (b : Bool) : V := .str (if b then "host" else "switch")
def lineV (l : Nat × Nat × Int) : List V := [.int (l.1 : Int), .int (l.2.1 : Int), .int l.2.2]
def key2 (a b : Nat) : List Key := [Sum.inl (a : Int), Sum.inl (b : Int)]
def put2 (acc : List (List Key × V)) (l : Nat × Nat × Int) : List (List Key × V) := putK (putK acc (key2 l.1 l.2.1) (.int l.2.2)) (key2 l.2.1 l.1) (.int l.2.2)
def delaysOf (ls : List (Nat × Nat × Int)) : List (List Key × V) := ls.foldl put2 []
theorem put2_len (acc : List (List Key × V)) (l : Nat × Nat × Int) : (put2 acc l).length ≤ acc.length + 2 := by
  have h1 := length_putK (putK acc (key2 l.1 l.2.1) (.int l.2.2)) (key2 l.2.1 l.1) (.int l.2.2)
  have h2 := length_putK acc (key2 l.1 l.2.1) (.int l.2.2)
  unfold put2
  omega
theorem foldl_len : ∀ (ls : List (Nat × Nat × Int)) (acc : List (List Key × V)), (ls.foldl put2 acc).length ≤ acc.length + 2 * ls.length
  | [], acc => by simp
  | l :: r, acc => by
    have := foldl_len r (put2 acc l)
    have := put2_len acc l
    rw [List.foldl_cons, List.length_cons]
    omega
theorem delays_len (ls : List (Nat × Nat × Int)) : (delaysOf ls).length ≤ 2 * ls.length := by
  have := foldl_len ls []
  rw [List.length_nil] at this
  unfold delaysOf
  omega
theorem delays_snoc (ls : List (Nat × Nat × Int)) (l : Nat × Nat × Int) : delaysOf (ls ++ [l]) = put2 (delaysOf ls) l := by
  unfold delaysOf
  rw [List.foldl_append]
  rfl
theorem take_snoc {α : Type} {xs : List α} {i : Nat} {x : α} (h : xs[i]? = some x) : xs.take (i + 1) = xs.take i ++ [x] := by
  rw [List.take_add_one, h]
  rfl
theorem key2_inj {a b c d : Nat} (e : key2 a b = key2 c d) : a = c ∧ b = d := by
  unfold key2 at e
  injection e with e1 e2
  injection e2 with e2 _
  injection e1 with e1
  injection e2 with e2
  exact ⟨by omega, by omega⟩
/-- the line joins both nodes -/
def hits (a b : Nat) (l : Nat × Nat × Int) : Bool := (decide (l.1 = a) && decide (l.2.1 = b)) || (decide (l.1 = b) && decide (l.2.1 = a))
theorem valV_put2 (acc : List (List Key × V)) (l : Nat × Nat × Int) (a b : Nat) : valV (put2 acc l) (key2 a b) = if hits a b l = true then some (.int l.2.2) else valV acc (key2 a b) := by
  unfold put2 hits
  rw [valV_put, valV_put]
  by_cases h1 : key2 a b = key2 l.2.1 l.1
  · obtain ⟨e1, e2⟩ := key2_inj h1
    rw [if_pos h1, if_pos]
    simp [e1, e2]
  · rw [if_neg h1]
    by_cases h2 : key2 a b = key2 l.1 l.2.1
    · obtain ⟨e1, e2⟩ := key2_inj h2
      rw [if_pos h2, if_pos]
      simp [e1, e2]
    · rw [if_neg h2, if_neg]
      intro h
      rw [Bool.or_eq_true, Bool.and_eq_true, Bool.and_eq_true, decide_eq_true_eq, decide_eq_true_eq, decide_eq_true_eq, decide_eq_true_eq] at h
      rcases h with ⟨e1, e2⟩ | ⟨e1, e2⟩
      · exact h2 (by rw [e1, e2])
      · exact h1 (by rw [e1, e2])
theorem valV_fold (a b : Nat) : ∀ (ls : List (Nat × Nat × Int)) (acc : List (List Key × V)), (valV (ls.foldl put2 acc) (key2 a b)).isSome = (ls.any (hits a b) || (valV acc (key2 a b)).isSome)
  | [], acc => by simp
  | l :: r, acc => by
    rw [List.foldl_cons, valV_fold a b r, valV_put2, List.any_cons]
    cases hits a b l with
    | true => simp
    | false => simp
def adj (N : NetD) (a b : Nat) : Bool := N.ls.any (hits a b)
theorem adj_val (N : NetD) (a b : Nat) : (valV (delaysOf N.ls) (key2 a b)).isSome = adj N a b := by
  unfold delaysOf adj
  rw [valV_fold]
  simp [valV_nil]
/-- the first line that joins both -/
def joined (N : NetD) (a b : Nat) : Option Int := (N.ls.find? (hits a b)).map (·.2.2)
theorem joined_some (N : NetD) (a b : Nat) : (joined N a b).isSome = adj N a b := by
  unfold joined adj
  rw [Option.isSome_map, Bool.eq_iff_iff, List.find?_isSome, List.any_eq_true]

def nbs (N : NetD) (a : Nat) : List Nat := (List.range N.ks.length).filter (adj N a)
def natsV (ns : List Nat) : List V := ns.map fun (n : Nat) => V.int (n : Int)
/-- host or not -/
def host (N : NetD) (a : Nat) : Bool := N.ks.getD a true
def lastN (r : List Nat) : Nat := r.getD (r.length - 1) 0
def okb (N : NetD) (r : List Nat) (b : Nat) : Bool := !(r.contains b) && adj N (lastN r) b
def exH (N : NetD) (r : List Nat) : List (List Nat) := ((List.range N.ks.length).filter fun b => okb N r b && host N b).map fun b => r ++ [b]
def exS (N : NetD) (r : List Nat) : List (List Nat) := ((List.range N.ks.length).filter fun b => okb N r b && !host N b).map fun b => r ++ [b]
def rowsOf (N : NetD) : Nat → List (List Nat)
  | 0 => ((List.range N.ks.length).filter (host N)).map fun a => [a]
  | t + 1 => (rowsOf N t).flatMap (exS N)
def foundOf (N : NetD) : Nat → List (List Nat)
  | 0 => []
  | t + 1 => foundOf N t ++ (rowsOf N t).flatMap (exH N)
theorem natsV_at {ns : List Nat} {i n : Nat} (h : ns[i]? = some n) : (natsV ns)[i]? = some (.int (n : Int)) := by
  unfold natsV
  rw [List.getElem?_map, h]
  rfl
theorem natsV_len (ns : List Nat) : (natsV ns).length = ns.length := List.length_map ..
theorem natsV_flat (ns : List Nat) : (natsV ns).all flatV = true := by
  rw [List.all_eq_true]
  intro x hx
  obtain ⟨n, _, rfl⟩ := List.mem_map.mp hx
  rfl
theorem natsV_in (ns : List Nat) (b : Nat) : inV (.int (b : Int)) (natsV ns) = ns.contains b := by
  unfold inV natsV
  rw [List.any_map, List.contains_eq_any_beq]
  congr 1
  funext x
  show ((x : Int) == (b : Int)) = (b == x)
  rw [Bool.eq_iff_iff, beq_iff_eq, beq_iff_eq]
  omega
theorem natsV_app (r : List Nat) (b : Nat) : natsV r ++ [V.int (b : Int)] = natsV (r ++ [b]) := by
  unfold natsV
  rw [List.map_append]
  rfl
theorem len_flat {α β : Type} (f : α → List β) (m : Nat) (h : ∀ a, (f a).length ≤ m) : ∀ l : List α, (l.flatMap f).length ≤ m * l.length
  | [] => by simp
  | a :: r => by
    have := len_flat f m h r
    have := h a
    rw [List.flatMap_cons, List.length_append, List.length_cons, Nat.mul_add]
    omega
theorem exH_len (N : NetD) (r : List Nat) : (exH N r).length ≤ N.ks.length := by
  have := List.length_filter_le (fun b => okb N r b && host N b) (List.range N.ks.length)
  unfold exH
  rw [List.length_map]
  rw [List.length_range] at this
  exact this
theorem exS_len (N : NetD) (r : List Nat) : (exS N r).length ≤ N.ks.length := by
  have := List.length_filter_le (fun b => okb N r b && !host N b) (List.range N.ks.length)
  unfold exS
  rw [List.length_map]
  rw [List.length_range] at this
  exact this
theorem rows_len (N : NetD) (h : N.ks.length ≤ 7) : ∀ t, (rowsOf N t).length ≤ 8 ^ (t + 1)
  | 0 => by
    have := List.length_filter_le (host N) (List.range N.ks.length)
    rw [List.length_range] at this
    show (((List.range N.ks.length).filter (host N)).map fun a => [a]).length ≤ 8 ^ 1
    rw [List.length_map]
    omega
  | t + 1 => by
    have h1 := rows_len N h t
    have h2 := len_flat (exS N) 7 (fun a => Nat.le_trans (exS_len N a) h) (rowsOf N t)
    show ((rowsOf N t).flatMap (exS N)).length ≤ _
    rw [Nat.pow_succ]
    omega
theorem found_len (N : NetD) (h : N.ks.length ≤ 7) : ∀ t, (foundOf N t).length ≤ 8 ^ (t + 1)
  | 0 => by simp [foundOf]
  | t + 1 => by
    have h1 := found_len N h t
    have h0 := rows_len N h t
    have h2 := len_flat (exH N) 7 (fun a => Nat.le_trans (exH_len N a) h) (rowsOf N t)
    show (foundOf N t ++ (rowsOf N t).flatMap (exH N)).length ≤ _
    rw [List.length_append, Nat.pow_succ]
    omega
theorem ex_ne (N : NetD) (r x : List Nat) (h : x ∈ exH N r ∨ x ∈ exS N r) : x ≠ [] := by
  rcases h with h | h
  · obtain ⟨b, _, rfl⟩ := List.mem_map.mp h
    simp
  · obtain ⟨b, _, rfl⟩ := List.mem_map.mp h
    simp
theorem rows_row (N : NetD) : ∀ t, ∀ r ∈ rowsOf N t, r.length = t + 1
  | 0, r, h => by
    obtain ⟨a, _, rfl⟩ := List.mem_map.mp h
    rfl
  | t + 1, r, h => by
    obtain ⟨r', h1, h2⟩ := List.mem_flatMap.mp h
    obtain ⟨b, _, rfl⟩ := List.mem_map.mp h2
    rw [List.length_append, rows_row N t r' h1]
    rfl
theorem flat_take {α β : Type} (f : α → List β) {l : List α} {i : Nat} {a : α} (h : l[i]? = some a) : (l.take (i + 1)).flatMap f = (l.take i).flatMap f ++ f a := by
  rw [take_snoc h, List.flatMap_append, List.flatMap_cons, List.flatMap_nil, List.append_nil]
theorem filt_succ {α : Type} (p : Nat → Bool) (f : Nat → α) (j : Nat) : ((List.range (j + 1)).filter p).map f = ((List.range j).filter p).map f ++ (if p j = true then [f j] else []) := by
  rw [List.range_succ, List.filter_append, List.map_append, List.filter_cons]
  split <;> rfl
def optV : Option Int → V
  | none => .non
  | some d => .int d
theorem optV_non (o : Option Int) : (!decide (optV o = .non)) = o.isSome := by
  cases o with
  | none => rfl
  | some d => rfl
theorem dec_nat (a b : Nat) : decide (V.int (a : Int) = V.int (b : Int)) = decide (a = b) := by
  by_cases h : a = b
  · rw [h]; simp
  · rw [decide_eq_false h, decide_eq_false]
    intro z
    injection z with z
    omega
theorem find_take {α : Type} (p : α → Bool) {l : List α} {i : Nat} {a : α} (h : l[i]? = some a) (h0 : (l.take i).find? p = none) (hp : p a = true) : l.find? p = some a := by
  have e : l = l.take i ++ a :: l.drop (i + 1) := by
    obtain ⟨hi, e⟩ := List.getElem?_eq_some_iff.mp h
    rw [← e, List.getElem_cons_drop, List.take_append_drop]
  rw [e, List.find?_append, h0, List.find?_cons, hp]
  rfl
theorem find_skip {α : Type} (p : α → Bool) {l : List α} {i : Nat} {a : α} (h : l[i]? = some a) (h0 : (l.take i).find? p = none) (hp : ¬ p a = true) : (l.take (i + 1)).find? p = none := by
  rw [take_snoc h, List.find?_append, h0, List.find?_cons, Bool.eq_false_iff.mpr hp]
  rfl
/-! ### the instance's attributes -/
def netF (lk ll : Addr) (pr er : Int) (ld : Addr) : List (Str × V) := [("kinds", .ref lk), ("lines", .ref ll), ("processing", .int pr), ("error", .int er), ("_delays", .ref ld)]
theorem putF_new {f : Str} {v : V} : ∀ {fs : List (Str × V)}, fs.lookup f = none → putF f v fs = fs ++ [(f, v)]
  | [], _ => rfl
  | (g, x) :: r, h => by
    have e : (f == g) = false := by
      cases q : f == g with
      | false => rfl
      | true => rw [List.lookup_cons, q] at h; cases h
    rw [List.lookup_cons, e] at h
    have ne : ¬ g = f := fun z => by rw [z] at e; simp at e
    show (if g = f then (g, v) :: r else (g, x) :: putF f v r) = _
    rw [if_neg ne, putF_new h]
    rfl
theorem f1 {lk : Addr} : putF "kinds" (.ref lk) [] = [(("kinds" : Str), V.ref lk)] := rfl
theorem f2 {lk ll : Addr} : putF "lines" (.ref ll) [(("kinds" : Str), V.ref lk)] = [(("kinds" : Str), V.ref lk), ("lines", V.ref ll)] := putF_new rfl
theorem f3 {lk ll : Addr} {pr : Int} : putF "processing" (.int pr) [(("kinds" : Str), V.ref lk), ("lines", V.ref ll)] = [(("kinds" : Str), V.ref lk), ("lines", V.ref ll), ("processing", .int pr)] := putF_new rfl
theorem f4 {lk ll : Addr} {pr er : Int} : putF "error" (.int er) [(("kinds" : Str), V.ref lk), ("lines", V.ref ll), ("processing", .int pr)] = [(("kinds" : Str), V.ref lk), ("lines", V.ref ll), ("processing", .int pr), ("error", .int er)] := putF_new rfl
theorem f5 {lk ll ld : Addr} {pr er : Int} : putF "_delays" (.ref ld) [(("kinds" : Str), V.ref lk), ("lines", V.ref ll), ("processing", .int pr), ("error", .int er)] = netF lk ll pr er ld := putF_new rfl
section
variable {lk ll ld : Addr} {pr er : Int}
theorem g1 : (netF lk ll pr er ld).lookup ("kinds" : Str) = some (.ref lk) := rfl
theorem g2 : (netF lk ll pr er ld).lookup ("lines" : Str) = some (.ref ll) := rfl
theorem g3 : (netF lk ll pr er ld).lookup ("processing" : Str) = some (.int pr) := rfl
theorem g4 : (netF lk ll pr er ld).lookup ("error" : Str) = some (.int er) := rfl
theorem g5 : (netF lk ll pr er ld).lookup ("_delays" : Str) = some (.ref ld) := rfl
theorem g6 : (netF lk ll pr er ld).lookup ("neighbours" : Str) = none := rfl
theorem g7 : (netF lk ll pr er ld).lookup ("delay" : Str) = none := rfl
end
/-- tuples of lines -/
abbrev LinesAt (K : PySem.W.Frag) (H : Hp) (ts : List Addr) (ls : List (Nat × Nat × Int)) : Prop := Paired (fun (t : Addr) (l : Nat × Nat × Int) => SqT K H t (lineV l)) ts ls
theorem same_tup {K : PySem.W.Frag} {H H' : Hp} {a : Addr} {xs : List V} (e : Same H H') (h : SqT K H a xs) : SqT K H' a xs := by
  rcases h with (h | ⟨o, h⟩) | h
  · exact .inl (.inl (e _ _ h))
  · exact .inl (.inr ⟨o, e _ _ h⟩)
  · exact .inr h
theorem Paired.imp {α β : Type} {F G : α → β → Prop} : ∀ {l1 : List α} {l2 : List β}, Paired F l1 l2 → (∀ a b, F a b → G a b) → Paired G l1 l2
  | _, _, .nil, _ => .nil
  | _, _, .cons r t, f => .cons (f _ _ r) (Paired.imp t f)
theorem Paired.at {α β : Type} {F : α → β → Prop} : ∀ {xs : List α} {ys : List β}, Paired F xs ys → ∀ {i : Nat} {x : α}, xs[i]? = some x → ∃ y, ys[i]? = some y ∧ F x y
  | _, _, .nil, i, x, h => by cases h
  | _, _, .cons r t, 0, x, h => by
    have e := Option.some.inj h
    subst e
    exact ⟨_, rfl, r⟩
  | _, _, .cons r t, i + 1, x, h => Paired.at t h
theorem Paired.snoc {α β : Type} {F : α → β → Prop} {x : α} {y : β} (r : F x y) : ∀ {xs : List α} {ys : List β}, Paired F xs ys → Paired F (xs ++ [x]) (ys ++ [y])
  | _, _, .nil => .cons r .nil
  | _, _, .cons h t => .cons h (Paired.snoc r t)
theorem LinesAt.same {K : PySem.W.Frag} {H H' : Hp} {ts : List Addr} {ls : List (Nat × Nat × Int)} (h : LinesAt K H ts ls) (e : Same H H') : LinesAt K H' ts ls := Paired.imp h fun _ _ q => same_tup e q
/-- a Net stands at p -/
def NetAt (K : PySem.W.Frag) (C : Addr) (H : Hp) (p : Addr) (N : NetD) : Prop := ∃ (dx lk ll ld : Addr) (ts : List Addr), H p = some (.ins C dx (netF lk ll N.pr N.er ld)) ∧ H lk = some (.lst (N.ks.map kindV)) ∧ H ll = some (.lst (ts.map V.ref)) ∧
  LinesAt K H ts N.ls ∧ H ld = some (.dT (delaysOf N.ls))
theorem NetAt.same {K : PySem.W.Frag} {C : Addr} {H H' : Hp} {p : Addr} {N : NetD} (h : NetAt K C H p N) (e : Same H H') : NetAt K C H' p N := by
  obtain ⟨dx, lk, ll, ld, ts, h1, h2, h3, h4, h5⟩ := h
  exact ⟨dx, lk, ll, ld, ts, e _ _ h1, e _ _ h2, e _ _ h3, h4.same e, e _ _ h5⟩
/-- all but p is kept -/
def But (p : Addr) (H H' : Hp) : Prop := ∀ b o, H b = some o → b ≠ p → H' b = some o
theorem But.trans {p : Addr} {H H1 H2 : Hp} (a : But p H H1) (b : But p H1 H2) : But p H H2 := fun c o h n => b c o (a c o h n) n
theorem But.seq {K : PySem.W.Frag} {p C dx a : Addr} {fs : List (Str × V)} {H H' : Hp} {xs : List V} (h : But p H H') (hp : H p = some (.ins C dx fs)) (q : SqL K H a xs) : SqL K H' a xs := by
  rcases q with (q | ⟨o, q⟩) | q
  · exact .inl (.inl (h _ _ q (ne_of q hp (by intro z; cases z))))
  · exact .inl (.inr ⟨o, h _ _ q (ne_of q hp (by intro z; cases z))⟩)
  · exact .inr q
theorem But.tup {K : PySem.W.Frag} {p C dx a : Addr} {fs : List (Str × V)} {H H' : Hp} {xs : List V} (h : But p H H') (hp : H p = some (.ins C dx fs)) (q : SqT K H a xs) : SqT K H' a xs := by
  rcases q with (q | ⟨o, q⟩) | q
  · exact .inl (.inl (h _ _ q (ne_of q hp (by intro z; cases z))))
  · exact .inl (.inr ⟨o, h _ _ q (ne_of q hp (by intro z; cases z))⟩)
  · exact .inr q
theorem but_new {p l : Addr} {o u : HO} {H : Hp} (nl : H l = none) : But p H (upd (upd H l o) p u) := fun b x e n => by
  rw [upd_ne n, upd_ne (ne_of_none e nl)]; exact e
theorem but_self {p : Addr} {u : HO} {H : Hp} : But p H (upd H p u) := fun b x e n => by
  rw [upd_ne n]; exact e
theorem but_app {p t : Addr} {o u : HO} {H : Hp} (nt : H t = none) : But p H (upd (upd H t o) p u) := but_new nt
theorem But.refl (p : Addr) (H : Hp) : But p H H := fun _ _ e _ => e
theorem But.tupL {K : PySem.W.Frag} {p a : Addr} {ys : List V} {H H' : Hp} {xs : List V} (h : But p H H') (hp : H p = some (.lst ys)) (q : SqT K H a xs) : SqT K H' a xs := by
  rcases q with (q | ⟨o, q⟩) | q
  · exact .inl (.inl (h _ _ q (ne_of q hp (by intro z; cases z))))
  · exact .inl (.inr ⟨o, h _ _ q (ne_of q hp (by intro z; cases z))⟩)
  · exact .inr q
theorem same_but {p : Addr} {H H1 H2 : Hp} (e : Same H H1) (n : H p = none) (h : But p H1 H2) : Same H H2 := fun b o q => h _ _ (e _ _ q) (ne_of_none q n)
theorem kind_sw {b : Bool} (h : kindV b = V.str "switch") : b = false := by
  cases b with
  | false => rfl
  | true => exact absurd h (by decide +kernel)
theorem kind_ho {b : Bool} (h : kindV b = V.str "host") : b = true := by
  cases b with
  | true => rfl
  | false => exact absurd h (by decide +kernel)
theorem kind_inj {a b : Bool} (h : kindV a = kindV b) : a = b := by
  cases a with
  | true => exact (kind_ho h.symm).symm
  | false => exact (kind_sw h.symm).symm
theorem atI_kind {ks : List Bool} {z : Int} {j : Nat} (e : z = (j : Int)) (h : j < ks.length) : atI (ks.map kindV) z = some (kindV (ks.getD j true)) := by
  rw [e]
  refine atI_nat ?_
  rw [List.getElem?_map, getD_at true h]
  rfl
/-- a line's nodes, the greater one first -/
def norm (l : Nat × Nat × Int) : Nat × Nat := if l.2.1 < l.1 then (l.1, l.2.1) else (l.2.1, l.1)
theorem norm_gt {a b : Nat} {d : Int} (h : b < a) : norm (a, b, d) = (a, b) := if_pos h
theorem norm_lt {a b : Nat} {d : Int} (h : b < a) : norm (b, a, d) = (a, b) := if_neg (by show ¬ a < b; omega)
structure LsOk (n : Nat) (ls : List (Nat × Nat × Int)) : Prop where
  nd : (ls.map norm).Nodup
  bd : ∀ l ∈ ls, (norm l).2 < (norm l).1 ∧ (norm l).1 < n
  dl : ∀ l ∈ ls, 0 ≤ l.2.2 ∧ l.2.2 ≤ 4
  few : ls.length ≤ 100
structure NetWf (N : NetD) : Prop where
  h0 : 2 ≤ N.ks.count true
  h1 : N.ks.count true ≤ 4
  s0 : 1 ≤ N.ks.count false
  s1 : N.ks.count false ≤ 3
  ls : LsOk N.ks.length N.ls
  p0 : 0 ≤ N.pr
  p1 : N.pr ≤ 2
  e0 : 0 ≤ N.er
  e1 : N.er ≤ 2
theorem len_count : ∀ ks : List Bool, ks.length = ks.count true + ks.count false
  | [] => rfl
  | b :: r => by
    have := len_count r
    rw [List.length_cons, List.count_cons, List.count_cons]
    cases b <;> simp <;> omega
theorem count_ins (ks : List Bool) (i : Nat) (b x : Bool) : (ks.take i ++ [b] ++ ks.drop i).count x = ks.count x + [b].count x := by
  have h : ks.count x = (ks.take i).count x + (ks.drop i).count x := by rw [← List.count_append, List.take_append_drop]
  rw [List.count_append, List.count_append, h]
  omega
theorem rep_flat {α : Type} (x : α) : ∀ n : Nat, (List.replicate n [x]).flatten = List.replicate n x
  | 0 => rfl
  | n + 1 => by rw [List.replicate_succ, List.flatten_cons, rep_flat x n]; rfl
/-- pairs of nodes as tuples -/
abbrev PairsAt (K : PySem.W.Frag) (H : Hp) (ts : List Addr) (ps : List (Nat × Nat)) : Prop := Paired (fun (t : Addr) (p : Nat × Nat) => SqT K H t [.int (p.1 : Int), .int (p.2 : Int)]) ts ps
theorem PairsAt.mono {K : PySem.W.Frag} {H H' : Hp} {ts : List Addr} {ps : List (Nat × Nat)} (h : PairsAt K H ts ps) (f : ∀ a ys, SqT K H a ys → SqT K H' a ys) : PairsAt K H' ts ps := Paired.imp h fun _ _ z => f _ _ z
theorem LinesAt.mono {K : PySem.W.Frag} {H H' : Hp} {ts : List Addr} {ps : List (Nat × Nat × Int)} (h : LinesAt K H ts ps) (f : ∀ a ys, SqT K H a ys → SqT K H' a ys) : LinesAt K H' ts ps := Paired.imp h fun _ _ z => f _ _ z
theorem PairsAt.snoc {K : PySem.W.Frag} {H : Hp} {ts : List Addr} {ps : List (Nat × Nat)} {t : Addr} {p : Nat × Nat} (h : PairsAt K H ts ps) (x : SqT K H t [.int (p.1 : Int), .int (p.2 : Int)]) : PairsAt K H (ts ++ [t]) (ps ++ [p]) := Paired.snoc (F := fun (t : Addr) (p : Nat × Nat) => SqT K H t [.int (p.1 : Int), .int (p.2 : Int)]) x h
theorem LinesAt.snoc {K : PySem.W.Frag} {H : Hp} {ts : List Addr} {ps : List (Nat × Nat × Int)} {t : Addr} {p : Nat × Nat × Int} (h : LinesAt K H ts ps) (x : SqT K H t (lineV p)) : LinesAt K H (ts ++ [t]) (ps ++ [p]) := Paired.snoc (F := fun (t : Addr) (l : Nat × Nat × Int) => SqT K H t (lineV l)) x h
structure PInv (ks : List Bool) (ps : List (Nat × Nat)) (a b : Nat) : Prop where
  nd : ps.Nodup
  ok : ∀ p ∈ ps, p.2 < p.1 ∧ p.1 < ks.length ∧ (p.1 < a ∨ (p.1 = a ∧ p.2 < b)) ∧ (ks.getD p.1 true = false ∨ ks.getD p.2 true = false)
  few : ps.length ≤ 7 * a + b
theorem nd_snoc' {α : Type} : ∀ {l : List α} {k : α}, l.Nodup → ¬ k ∈ l → (l ++ [k]).Nodup
  | [], k, _, _ => by simp
  | a :: r, k, h, hk => by
    obtain ⟨h1, h2⟩ := List.nodup_cons.mp h
    show (a :: (r ++ [k])).Nodup
    refine List.nodup_cons.mpr ⟨fun m => ?_, nd_snoc' h2 fun m => hk (List.mem_cons.mpr (Or.inr m))⟩
    rcases List.mem_append.mp m with q | q
    · exact h1 q
    · exact hk (List.mem_cons.mpr (Or.inl (List.mem_singleton.mp q).symm))
theorem PInv.nil {ks : List Bool} : PInv ks [] 0 0 := ⟨List.nodup_nil, fun p h => by (cases h), Nat.le_refl _⟩
theorem PInv.skip {ks : List Bool} {ps : List (Nat × Nat)} {a b : Nat} (h : PInv ks ps a b) : PInv ks ps a (b + 1) :=
  ⟨h.nd, fun p hp => let ⟨x, y, z, w⟩ := h.ok p hp; ⟨x, y, by omega, w⟩, by have := h.few; omega⟩
theorem PInv.next {ks : List Bool} {ps : List (Nat × Nat)} {a b : Nat} (h : PInv ks ps a b) (hb : b ≤ 7) : PInv ks ps (a + 1) 0 :=
  ⟨h.nd, fun p hp => let ⟨x, y, z, w⟩ := h.ok p hp; ⟨x, y, by omega, w⟩, by have := h.few; omega⟩
theorem PInv.snoc {ks : List Bool} {ps : List (Nat × Nat)} {a b : Nat} (h : PInv ks ps a b) (ha : a < ks.length) (hb : b < a) (hs : ks.getD a true = false ∨ ks.getD b true = false) : PInv ks (ps ++ [(a, b)]) a (b + 1) := by
  refine ⟨nd_snoc' h.nd fun m => ?_, fun p hp => ?_, by have := h.few; rw [List.length_append, List.length_singleton]; omega⟩
  · obtain ⟨_, _, z, _⟩ := h.ok _ m
    have z' : a < a ∨ (a = a ∧ b < b) := z
    omega
  · rcases List.mem_append.mp hp with q | q
    · obtain ⟨x, y, z, w⟩ := h.ok p q
      exact ⟨x, y, by omega, w⟩
    · rw [List.mem_singleton.mp q]
      exact ⟨hb, ha, .inr ⟨rfl, by show b < b + 1; omega⟩, hs⟩
/-- lines made from the first k pairs -/
structure LInv (ps : List (Nat × Nat)) (ls : List (Nat × Nat × Int)) (k : Nat) : Prop where
  nd : (ls.map norm).Nodup
  from_ : ∀ l ∈ ls, ∃ j, j < k ∧ ps[j]? = some (norm l)
  dl : ∀ l ∈ ls, 0 ≤ l.2.2 ∧ l.2.2 ≤ 4
  few : ls.length ≤ k
theorem LInv.nil {ps : List (Nat × Nat)} : LInv ps [] 0 := ⟨List.nodup_nil, fun p h => by (cases h), fun p h => by (cases h), Nat.le_refl _⟩
theorem LInv.skip {ps : List (Nat × Nat)} {ls : List (Nat × Nat × Int)} {k : Nat} (h : LInv ps ls k) : LInv ps ls (k + 1) :=
  ⟨h.nd, fun l hl => let ⟨j, x, y⟩ := h.from_ l hl; ⟨j, by omega, y⟩, h.dl, by have := h.few; omega⟩
theorem LInv.snoc {ps : List (Nat × Nat)} {ls : List (Nat × Nat × Int)} {k : Nat} {l : Nat × Nat × Int} (h : LInv ps ls k) (hp : ps.Nodup) (e : ps[k]? = some (norm l)) (d : 0 ≤ l.2.2 ∧ l.2.2 ≤ 4) : LInv ps (ls ++ [l]) (k + 1) := by
  refine ⟨?_, fun x hx => ?_, fun x hx => ?_, by have := h.few; rw [List.length_append, List.length_singleton]; omega⟩
  · rw [List.map_append]
    refine nd_snoc' h.nd fun m => ?_
    obtain ⟨x, hx, ex⟩ := List.mem_map.mp m
    obtain ⟨j, hj, ej⟩ := h.from_ x hx
    rw [ex] at ej
    have := nd_ix hp ej e
    omega
  · rcases List.mem_append.mp hx with q | q
    · obtain ⟨j, x1, y⟩ := h.from_ x q
      exact ⟨j, by omega, y⟩
    · rw [List.mem_singleton.mp q]
      exact ⟨k, by omega, e⟩
  · rcases List.mem_append.mp hx with q | q
    · exact h.dl x q
    · rw [List.mem_singleton.mp q]
      exact d
/-- .. and host pairs ahead of (a, b) -/
structure HInv (ks : List Bool) (ps : List (Nat × Nat)) (ls : List (Nat × Nat × Int)) (a b : Nat) : Prop where
  nd : (ls.map norm).Nodup
  from_ : ∀ l ∈ ls, norm l ∈ ps ∨ ((norm l).2 < (norm l).1 ∧ (norm l).1 < ks.length ∧ ((norm l).1 < a ∨ ((norm l).1 = a ∧ (norm l).2 < b)) ∧ ks.getD (norm l).1 true = true ∧ ks.getD (norm l).2 true = true)
  dl : ∀ l ∈ ls, 0 ≤ l.2.2 ∧ l.2.2 ≤ 4
  few : ls.length ≤ 100
theorem LInv.host {ks : List Bool} {ps : List (Nat × Nat)} {ls : List (Nat × Nat × Int)} {k : Nat} (h : LInv ps ls k) (hk : k ≤ 100) : HInv ks ps ls 0 0 :=
  ⟨h.nd, fun l hl => let ⟨j, _, y⟩ := h.from_ l hl; .inl (List.mem_of_getElem? y), h.dl, by have := h.few; omega⟩
theorem HInv.skip {ks : List Bool} {ps : List (Nat × Nat)} {ls : List (Nat × Nat × Int)} {a b : Nat} (h : HInv ks ps ls a b) : HInv ks ps ls a (b + 1) :=
  ⟨h.nd, fun l hl => (h.from_ l hl).imp id fun ⟨x, y, z, w⟩ => ⟨x, y, by omega, w⟩, h.dl, h.few⟩
theorem HInv.next {ks : List Bool} {ps : List (Nat × Nat)} {ls : List (Nat × Nat × Int)} {a b : Nat} (h : HInv ks ps ls a b) : HInv ks ps ls (a + 1) 0 :=
  ⟨h.nd, fun l hl => (h.from_ l hl).imp id fun ⟨x, y, z, w⟩ => ⟨x, y, by omega, w⟩, h.dl, h.few⟩
theorem HInv.snoc {ks : List Bool} {ps : List (Nat × Nat)} {ls : List (Nat × Nat × Int)} {a b c e : Nat} {d : Int} (h : HInv ks ps ls a b) (hp : PInv ks ps c e) (ha : a < ks.length) (hb : b < a) (h1 : ks.getD a true = true) (h2 : ks.getD b true = true) (hd : 0 ≤ d ∧ d ≤ 4) (hf : ls.length < 20) :
    HInv ks ps (ls ++ [(a, b, d)]) a (b + 1) := by
  have en : norm (a, b, d) = (a, b) := norm_gt hb
  refine ⟨?_, fun x hx => ?_, fun x hx => ?_, by rw [List.length_append, List.length_singleton]; omega⟩
  · rw [List.map_append]
    refine nd_snoc' h.nd fun m => ?_
    obtain ⟨x, hx, ex⟩ := List.mem_map.mp m
    rw [en] at ex
    rcases h.from_ x hx with q | ⟨_, _, z, _⟩
    · rw [ex] at q
      obtain ⟨_, _, _, w⟩ := hp.ok _ q
      have w' : ks.getD a true = false ∨ ks.getD b true = false := w
      rw [h1, h2] at w'
      rcases w' with w' | w' <;> cases w'
    · rw [ex] at z
      have z' : a < a ∨ (a = a ∧ b < b) := z
      omega
  · rcases List.mem_append.mp hx with q | q
    · exact (h.from_ x q).imp id fun ⟨x, y, z, w⟩ => ⟨x, y, by omega, w⟩
    · rw [List.mem_singleton.mp q, en]
      exact .inr ⟨hb, ha, .inr ⟨rfl, by show b < b + 1; omega⟩, h1, h2⟩
  · rcases List.mem_append.mp hx with q | q
    · exact h.dl x q
    · rw [List.mem_singleton.mp q]
      exact hd
theorem HInv.ok {ks : List Bool} {ps : List (Nat × Nat)} {ls : List (Nat × Nat × Int)} {a b c e : Nat} (h : HInv ks ps ls a b) (hp : PInv ks ps c e) : LsOk ks.length ls :=
  ⟨h.nd, fun l hl => by
    rcases h.from_ l hl with q | ⟨x, y, _⟩
    · obtain ⟨x, y, _⟩ := hp.ok _ q
      exact ⟨x, y⟩
    · exact ⟨x, y⟩, h.dl, h.few⟩
/-- rows as lists -/
abbrev RowsAt (H : Hp) (as : List Addr) (rs : List (List Nat)) : Prop := Paired (fun (a : Addr) (r : List Nat) => r ≠ [] ∧ H a = some (.lst (natsV r))) as rs
theorem RowsAt.mono {H H' : Hp} {as : List Addr} {rs : List (List Nat)} (h : RowsAt H as rs) (f : ∀ a r, r ≠ [] → H a = some (.lst (natsV r)) → H' a = some (.lst (natsV r))) : RowsAt H' as rs := Paired.imp h fun _ _ z => ⟨z.1, f _ _ z.1 z.2⟩
theorem RowsAt.snoc {H : Hp} {as : List Addr} {rs : List (List Nat)} {a : Addr} {r : List Nat} (h : RowsAt H as rs) (n : r ≠ []) (e : H a = some (.lst (natsV r))) : RowsAt H (as ++ [a]) (rs ++ [r]) := Paired.snoc (F := fun (a : Addr) (r : List Nat) => r ≠ [] ∧ H a = some (.lst (natsV r))) ⟨n, e⟩ h
theorem RowsAt.same {H H' : Hp} {as : List Addr} {rs : List (List Nat)} (h : RowsAt H as rs) (e : Same H H') : RowsAt H' as rs := h.mono fun _ _ _ z => e _ _ z
/-- a row's list is no list of objects -/
theorem row_ne {H : Hp} {a p : Addr} {r : List Nat} {fs : List Addr} (n : r ≠ []) (h : H a = some (.lst (natsV r))) (hp : H p = some (.lst (fs.map V.ref))) : a ≠ p := by
  refine ne_of h hp fun e => ?_
  injection e with e
  cases r with
  | nil => exact n rfl
  | cons x r =>
    cases fs with
    | nil => cases e
    | cons y t =>
      unfold natsV at e
      rw [List.map_cons, List.map_cons] at e
      injection e with e1 _
      cases e1
theorem RowsAt.but {H H' : Hp} {as fs : List Addr} {rs : List (List Nat)} {p : Addr} (h : RowsAt H as rs) (hp : H p = some (.lst (fs.map V.ref))) (e : But p H H') : RowsAt H' as rs := h.mono fun _ _ n z => e _ _ z (row_ne n z hp)
/-- the class's facts -/
structure NetC (K : PySem.W.Frag) (C : Addr) : Prop where
  cl : Cls K C
  n1 : NoAttr K C "kinds"
  n2 : NoAttr K C "lines"
  n3 : NoAttr K C "processing"
  n4 : NoAttr K C "error"
  n5 : NoAttr K C "_delays"
end My
/-! A search level by level, as data. No row. -/
namespace My
open PySem PySem.Spec PyProof.Rows L2
abbrev Ways := Nat → Option (List Nat)
def setW (W : Ways) (v : Nat) (r : List Nat) : Ways := fun x => if x = v then some r else W x
def visit (u : Nat) (st : Ways × List Nat) (v : Nat) : Ways × List Nat :=
  if (st.1 v).isSome = true then st else (setW st.1 v ((st.1 u).getD [] ++ [v]), st.2 ++ [v])
def levStep (A : Nat → List Nat) (st : Ways × List Nat) : Ways × List Nat := st.2.foldl (fun s u => (A u).foldl (visit u) s) (st.1, [])
def lev (A : Nat → List Nat) (s : Nat) : Nat → Ways × List Nat
  | 0 => (fun x => if x = s then some [s] else none, [s])
  | t + 1 => levStep A (lev A s t)
theorem foldl_take {α β : Type} (f : β → α → β) {l : List α} {i : Nat} {a : α} (b : β) (h : l[i]? = some a) : (l.take (i + 1)).foldl f b = f ((l.take i).foldl f b) a := by
  rw [take_snoc h, List.foldl_append]
  rfl
theorem nodup_lt : ∀ (n : Nat) (l : List Nat), l.Nodup → (∀ x ∈ l, x < n) → l.length ≤ n
  | 0, l, _, h => by
    cases l with
    | nil => exact Nat.le_refl _
    | cons x r => exact absurd (h x List.mem_cons_self) (Nat.not_lt_zero _)
  | n + 1, l, hd, h => by
    by_cases hn : n ∈ l
    · have h1 := nodup_lt n (l.erase n) (hd.erase n) fun x hx => by
        have := (List.Nodup.mem_erase_iff hd).mp hx
        have := h x this.2
        omega
      rw [List.length_erase_of_mem hn] at h1
      omega
    · have h1 := nodup_lt n l hd fun x hx => by
        have := h x hx
        have : x ≠ n := fun z => hn (z ▸ hx)
        omega
      omega
/-- what a level's list is -/
structure Prog (n : Nat) (st : Ways × List Nat) : Prop where
  nd : st.2.Nodup
  lt : ∀ v ∈ st.2, v < n ∧ (st.1 v).isSome = true
theorem Prog.len {n : Nat} {st : Ways × List Nat} (h : Prog n st) : st.2.length ≤ n := nodup_lt n _ h.nd fun x hx => (h.lt x hx).1
theorem visit_some {u v : Nat} {st : Ways × List Nat} (h : (st.1 v).isSome = true) : visit u st v = st := if_pos h
theorem visit_none {u v : Nat} {st : Ways × List Nat} (h : ¬ (st.1 v).isSome = true) : visit u st v = (setW st.1 v ((st.1 u).getD [] ++ [v]), st.2 ++ [v]) := if_neg h
theorem visit_keep {u v x : Nat} {st : Ways × List Nat} {r : List Nat} (h : st.1 x = some r) : (visit u st v).1 x = some r := by
  by_cases e : (st.1 v).isSome = true
  · rw [visit_some e]; exact h
  · rw [visit_none e]
    show setW st.1 v _ x = some r
    unfold setW
    rw [if_neg fun z => e (by rw [← z, h]; rfl)]
    exact h
theorem Prog.visit {n u v : Nat} {st : Ways × List Nat} (h : Prog n st) (hv : v < n) : Prog n (visit u st v) := by
  by_cases e : (st.1 v).isSome = true
  · rw [visit_some e]; exact h
  · have hk : ∀ x, (st.1 x).isSome = true → ((My.visit u st v).1 x).isSome = true := fun x hx => by
      obtain ⟨r, hr⟩ := Option.isSome_iff_exists.mp hx
      rw [visit_keep hr]; rfl
    refine ⟨?_, fun x hx => ?_⟩
    · rw [visit_none e]
      exact nd_snoc' h.nd fun m => e (h.lt v m).2
    · have hx2 : x ∈ st.2 ++ [v] := by rw [visit_none e] at hx; exact hx
      rcases List.mem_append.mp hx2 with q | q
      · exact ⟨(h.lt x q).1, hk x (h.lt x q).2⟩
      · rw [List.mem_singleton.mp q]
        refine ⟨hv, ?_⟩
        rw [visit_none e]
        show (setW st.1 v _ v).isSome = true
        unfold setW
        rw [if_pos rfl]
        rfl
theorem Prog.fold {n u : Nat} : ∀ (l : List Nat) {st : Ways × List Nat}, Prog n st → (∀ v ∈ l, v < n) → Prog n (l.foldl (My.visit u) st)
  | [], _, h, _ => h
  | v :: r, _, h, hl => Prog.fold r (h.visit (hl v List.mem_cons_self)) fun x hx => hl x (List.mem_cons_of_mem _ hx)
theorem Prog.fold2 {n : Nat} {A : Nat → List Nat} : ∀ (l : List Nat) {st : Ways × List Nat}, Prog n st → (∀ u ∈ l, ∀ v ∈ A u, v < n) → Prog n (l.foldl (fun s u => (A u).foldl (My.visit u) s) st)
  | [], _, h, _ => h
  | u :: r, _, h, hl => Prog.fold2 r (h.fold (A u) (hl u List.mem_cons_self)) fun x hx => hl x (List.mem_cons_of_mem _ hx)
theorem keep_fold {u x : Nat} {r : List Nat} : ∀ (l : List Nat) {st : Ways × List Nat}, st.1 x = some r → (l.foldl (My.visit u) st).1 x = some r
  | [], _, h => h
  | v :: t, _, h => keep_fold t (visit_keep h)
theorem keep_fold2 {A : Nat → List Nat} {x : Nat} {r : List Nat} : ∀ (l : List Nat) {st : Ways × List Nat}, st.1 x = some r → (l.foldl (fun s u => (A u).foldl (My.visit u) s) st).1 x = some r
  | [], _, h => h
  | u :: t, _, h => keep_fold2 t (keep_fold (A u) h)
theorem lev_prog {A : Nat → List Nat} {s n : Nat} (hs : s < n) (hA : ∀ a, a < n → ∀ b ∈ A a, b < n) : ∀ t, Prog n (lev A s t)
  | 0 => ⟨by show [s].Nodup; simp, fun v hv => by
      have hv : v ∈ [s] := hv
      rw [List.mem_singleton.mp hv]
      exact ⟨hs, by show (if s = s then some [s] else none).isSome = true; rw [if_pos rfl]; rfl⟩⟩
  | t + 1 => by
    have ih := lev_prog hs hA t
    exact Prog.fold2 (st := ((lev A s t).1, [])) _ ⟨List.nodup_nil, fun v hv => by cases hv⟩ fun u hu => hA u (ih.lt u hu).1
theorem lev_end {A : Nat → List Nat} {s t : Nat} (h : (lev A s t).2 = []) : ∀ k, lev A s (t + k) = ((lev A s t).1, []) ∨ k = 0
  | 0 => .inr rfl
  | k + 1 => by
    refine .inl ?_
    show levStep A (lev A s (t + k)) = _
    rcases lev_end h k with e | e
    · rw [e]
      rfl
    · rw [e]
      unfold levStep
      rw [Nat.add_zero, h]
      rfl
theorem lev_same {A : Nat → List Nat} {s t T : Nat} (h : (lev A s t).2 = []) (ht : t ≤ T) : (lev A s T).1 = (lev A s t).1 := by
  obtain ⟨k, rfl⟩ : ∃ k, T = t + k := ⟨T - t, by omega⟩
  rcases lev_end h k with e | e
  · rw [e]
  · rw [e]; rfl
/-! ### how the heap bears them -/
def ArcsAt (H : Hp) (d : Addr) (A : Nat → List Nat) (n : Nat) : Prop := ∃ kvs : List (Key × V), H d = some (.dK kvs) ∧ ∀ a, a < n → ∃ l, valV kvs (Sum.inl (a : Int)) = some (.ref l) ∧ H l = some (.lst (natsV (A a)))
theorem ArcsAt.same {H H' : Hp} {d : Addr} {A : Nat → List Nat} {n : Nat} (h : ArcsAt H d A n) (e : Same H H') : ArcsAt H' d A n := by
  obtain ⟨kvs, h1, h2⟩ := h
  exact ⟨kvs, e _ _ h1, fun a ha => let ⟨l, x, y⟩ := h2 a ha; ⟨l, x, e _ _ y⟩⟩
/-- the dict of ways; no way's list is q -/
def WaysAt (H0 H : Hp) (d : Addr) (W : Ways) (m : Nat) (q : Addr) : Prop := ∃ kvs : List (Key × V), H d = some (.dK kvs) ∧ kvs.length ≤ m ∧ (∀ v, W v = none → valV kvs (Sum.inl (v : Int)) = none) ∧
  ∀ v r, W v = some r → r.length ≤ kvs.length ∧ ∃ l, valV kvs (Sum.inl (v : Int)) = some (.ref l) ∧ H l = some (.lst (natsV r)) ∧ H0 l = none ∧ l ≠ q
def WayV (H0 H : Hp) (o : Option (List Nat)) (v : V) : Prop := match o with
  | none => v = .non
  | some r => ∃ l, v = .ref l ∧ H0 l = none ∧ H l = some (.lst (natsV r))
theorem WaysAt.get {H0 H : Hp} {d : Addr} {W : Ways} {m : Nat} {q : Addr} (h : WaysAt H0 H d W m q) (v : Nat) : ∃ o, DGet H d (.int (v : Int)) o ∧ o.isSome = (W v).isSome ∧ WayV H0 H (W v) (o.getD .non) := by
  obtain ⟨kvs, h1, _, h2, h3⟩ := h
  refine ⟨valV kvs (Sum.inl (v : Int)), DGet.k (k := Sum.inl (v : Int)) h1, ?_, ?_⟩
  · cases e : W v with
    | none => rw [h2 v e]; rfl
    | some r =>
      obtain ⟨_, l, x, _⟩ := h3 v r e
      rw [x]
      rfl
  · cases e : W v with
    | none => rw [h2 v e]; rfl
    | some r =>
      obtain ⟨_, l, x, y, z, _⟩ := h3 v r e
      rw [x]
      exact ⟨l, rfl, z, y⟩
theorem WaysAt.mono {H0 H H' : Hp} {d : Addr} {W : Ways} {m : Nat} {q q' : Addr} (h : WaysAt H0 H d W m q) (hd : ∀ kvs, H d = some (.dK kvs) → H' d = some (.dK kvs)) (hl : ∀ l r, l ≠ q → H l = some (.lst (natsV r)) → H' l = some (.lst (natsV r)) ∧ l ≠ q') : WaysAt H0 H' d W m q' := by
  obtain ⟨kvs, h1, h2, h3, h4⟩ := h
  refine ⟨kvs, hd _ h1, h2, h3, fun v r e => ?_⟩
  obtain ⟨a, l, x, y, z, n⟩ := h4 v r e
  exact ⟨a, l, x, (hl l r n y).1, z, (hl l r n y).2⟩
theorem WaysAt.put {H0 H : Hp} {d : Addr} {W : Ways} {m : Nat} {q : Addr} {v : Nat} {r : List Nat} {l : Addr} {kvs : List (Key × V)} (h : WaysAt H0 H d W m q) (hd : H d = some (.dK kvs)) (hv : W v = none) (hr : r.length ≤ kvs.length + 1) (hl : H l = some (.lst (natsV r))) (h0 : H0 l = none) (hq : l ≠ q) :
    WaysAt H0 (upd H d (.dK (putK kvs (Sum.inl (v : Int)) (.ref l)))) d (setW W v r) (m + 1) q := by
  obtain ⟨kvs', h1, h2, h3, h4⟩ := h
  rw [hd] at h1
  cases h1
  have en := putK_new (V.ref l) (h3 v hv)
  have key : ∀ x : Nat, ((Sum.inl (x : Int) : Key) = Sum.inl (v : Int)) ↔ x = v := fun x => ⟨fun z => by injection z with z; omega, fun z => by rw [z]⟩
  have nd : ∀ (l' : Addr) (r' : List Nat), H l' = some (.lst (natsV r')) → l' ≠ d := fun l' r' e => ne_of e hd (by intro z; cases z)
  refine ⟨_, upd_same, by rw [en, List.length_append, List.length_singleton]; omega, fun x hx => ?_, fun x r' hx => ?_⟩
  · unfold setW at hx
    by_cases e : x = v
    · rw [if_pos e] at hx; cases hx
    · rw [if_neg e] at hx
      rw [valV_put, if_neg fun z => e ((key x).mp z)]
      exact h3 x hx
  · unfold setW at hx
    by_cases e : x = v
    · rw [if_pos e] at hx
      cases hx
      refine ⟨by rw [en, List.length_append, List.length_singleton]; exact hr, l, ?_, by rw [upd_ne (nd l r hl)]; exact hl, h0, hq⟩
      rw [valV_put, if_pos ((key x).mpr e)]
    · rw [if_neg e] at hx
      obtain ⟨a, l', x', y, z, n⟩ := h4 x r' hx
      refine ⟨by rw [en, List.length_append, List.length_singleton]; omega, l', ?_, by rw [upd_ne (nd l' r' y)]; exact y, z, n⟩
      rw [valV_put, if_neg fun z => e ((key x).mp z)]
      exact x'
end My
/-! The rows found one by one, and the search level by level: the same shortest rows. No row of Lean's, no Python. -/
namespace My
open PySem PySem.Spec PyProof.Rows L2
/-! ### order -/
def lexlt : List Nat → List Nat → Prop
  | x :: xs, y :: ys => x < y ∨ (x = y ∧ lexlt xs ys)
  | _, _ => False
theorem lex_irr : ∀ x : List Nat, ¬ lexlt x x
  | [], h => h
  | x :: xs, h => by
    rcases h with h | ⟨_, h⟩
    · omega
    · exact lex_irr xs h
theorem lex_trans : ∀ {x y z : List Nat}, lexlt x y → lexlt y z → lexlt x z
  | [], _, _, h, _ => h.elim
  | _ :: _, [], _, h, _ => h.elim
  | _ :: _, _ :: _, [], _, h => h.elim
  | a :: x, b :: y, c :: z, h1, h2 => by
    rcases h1 with h1 | ⟨e1, h1⟩ <;> rcases h2 with h2 | ⟨e2, h2⟩
    · exact .inl (by omega)
    · exact .inl (by omega)
    · exact .inl (by omega)
    · exact .inr ⟨by omega, lex_trans h1 h2⟩
theorem lex_app1 : ∀ {x y : List Nat} (s t : List Nat), lexlt x y → lexlt (x ++ s) (y ++ t)
  | [], _, _, _, h => h.elim
  | _ :: _, [], _, _, h => h.elim
  | a :: x, b :: y, s, t, h => by
    rcases h with h | ⟨e, h⟩
    · exact .inl h
    · exact .inr ⟨e, lex_app1 s t h⟩
theorem lex_app2 : ∀ (x : List Nat) {s t : List Nat}, lexlt s t → lexlt (x ++ s) (x ++ t)
  | [], _, _, h => h
  | a :: x, _, _, h => .inr ⟨rfl, lex_app2 x h⟩
theorem lex_one {b c : Nat} (h : b < c) (x : List Nat) : lexlt (x ++ [b]) (x ++ [c]) := lex_app2 x (.inl h)
/-- fewer nodes, or as many and lexicographically less -/
def rlt (x y : List Nat) : Prop := x.length < y.length ∨ (x.length = y.length ∧ lexlt x y)
def rle (x y : List Nat) : Prop := x = y ∨ rlt x y
theorem rlt_irr (x : List Nat) : ¬ rlt x x := fun h => by
  rcases h with h | ⟨_, h⟩
  · omega
  · exact lex_irr x h
theorem rlt_trans {x y z : List Nat} (h1 : rlt x y) (h2 : rlt y z) : rlt x z := by
  rcases h1 with h1 | ⟨e1, h1⟩ <;> rcases h2 with h2 | ⟨e2, h2⟩
  · exact .inl (by omega)
  · exact .inl (by omega)
  · exact .inl (by omega)
  · exact .inr ⟨by omega, lex_trans h1 h2⟩
/-! ### rows -/
inductive Row (N : NetD) (a : Nat) : List Nat → Prop
  | start : Row N a [a]
  | ext {r : List Nat} {b : Nat} : Row N a r → (r = [a] ∨ host N (lastN r) = false) → okb N r b = true → b < N.ks.length → Row N a (r ++ [b])
theorem lastN_app (r : List Nat) (b : Nat) : lastN (r ++ [b]) = b := by
  unfold lastN
  rw [List.length_append, List.length_singleton, Nat.add_sub_cancel, List.getD_eq_getElem?_getD, List.getElem?_append_right (Nat.le_refl _), Nat.sub_self]
  rfl
theorem lastN_one (a : Nat) : lastN [a] = a := rfl
theorem okb_mem {N : NetD} {r : List Nat} {b : Nat} (h : okb N r b = true) : b ∉ r ∧ adj N (lastN r) b = true := by
  unfold okb at h
  rw [Bool.and_eq_true, Bool.not_eq_true'] at h
  refine ⟨fun m => ?_, h.2⟩
  have := List.contains_iff_mem.mpr m
  rw [h.1] at this
  cases this
theorem okb_of {N : NetD} {r : List Nat} {b : Nat} (h1 : b ∉ r) (h2 : adj N (lastN r) b = true) : okb N r b = true := by
  unfold okb
  rw [Bool.and_eq_true, Bool.not_eq_true']
  refine ⟨?_, h2⟩
  cases e : r.contains b with
  | false => rfl
  | true => exact absurd (List.contains_iff_mem.mp e) h1
theorem Row.ne {N : NetD} {a : Nat} {r : List Nat} (h : Row N a r) : r ≠ [] := by
  cases h with
  | start => simp
  | ext => simp
theorem Row.pos {N : NetD} {a : Nat} {r : List Nat} (h : Row N a r) : 1 ≤ r.length := List.length_pos_iff.mpr h.ne
theorem Row.nodup {N : NetD} {a : Nat} {r : List Nat} (h : Row N a r) : r.Nodup := by
  induction h with
  | start => simp
  | ext _ _ o _ ih => exact nd_snoc' ih (okb_mem o).1
theorem Row.head {N : NetD} {a : Nat} {r : List Nat} (h : Row N a r) : r.head? = some a := by
  induction h with
  | start => rfl
  | ext h _ _ _ ih =>
    cases ‹List Nat› with
    | nil => exact absurd rfl h.ne
    | cons x t => exact ih
theorem Row.lt {N : NetD} {a : Nat} {r : List Nat} (h : Row N a r) (ha : a < N.ks.length) : ∀ x ∈ r, x < N.ks.length := by
  induction h with
  | start => intro x hx; rw [List.mem_singleton.mp hx]; exact ha
  | ext _ _ _ hb ih =>
    intro x hx
    rcases List.mem_append.mp hx with q | q
    · exact ih x q
    · rw [List.mem_singleton.mp q]; exact hb
theorem Row.mem_last {N : NetD} {a : Nat} {r : List Nat} (h : Row N a r) : lastN r ∈ r := by
  cases h with
  | start => exact List.mem_singleton.mpr rfl
  | ext => rw [lastN_app]; exact List.mem_append.mpr (.inr (List.mem_singleton.mpr rfl))
/-- a node of a row is the end of a row that is not longer -/
theorem Row.pre {N : NetD} {a : Nat} {r : List Nat} (h : Row N a r) : ∀ v ∈ r, ∃ x, Row N a x ∧ lastN x = v ∧ x.length ≤ r.length := by
  induction h with
  | start => intro v hv; exact ⟨[a], .start, (List.mem_singleton.mp hv).symm ▸ rfl, Nat.le_refl _⟩
  | @ext r b h1 h2 o hb ih =>
    intro v hv
    rcases List.mem_append.mp hv with q | q
    · obtain ⟨x, x1, x2, x3⟩ := ih v q
      exact ⟨x, x1, x2, by rw [List.length_append]; omega⟩
    · exact ⟨r ++ [b], .ext h1 h2 o hb, by rw [lastN_app, List.mem_singleton.mp q], Nat.le_refl _⟩
theorem Row.split {N : NetD} {a : Nat} {x : List Nat} (h : Row N a x) : x = [a] ∨ ∃ y b, x = y ++ [b] ∧ Row N a y ∧ (y = [a] ∨ host N (lastN y) = false) ∧ okb N y b = true ∧ b < N.ks.length := by
  cases h with
  | start => exact .inl rfl
  | ext h1 h2 o hb => exact .inr ⟨_, _, rfl, h1, h2, o, hb⟩
theorem Row.back {N : NetD} {a : Nat} {r : List Nat} (h : Row N a r) (e : lastN r = a) : r = [a] := by
  rcases h.split with z | ⟨y, b, rfl, h1, _, o, _⟩
  · exact z
  · rw [lastN_app] at e
    exact absurd (by rw [e]; exact List.mem_of_mem_head? h1.head) (okb_mem o).1
/-! ### what the law finds -/
theorem mem_rows {N : NetD} : ∀ (t : Nat) (r : List Nat), r ∈ rowsOf N t ↔ ∃ a, a < N.ks.length ∧ host N a = true ∧ Row N a r ∧ r.length = t + 1 ∧ (r = [a] ∨ host N (lastN r) = false)
  | 0, r => by
    constructor
    · intro h
      obtain ⟨a, ha, rfl⟩ := List.mem_map.mp h
      obtain ⟨h1, h2⟩ := List.mem_filter.mp ha
      exact ⟨a, List.mem_range.mp h1, h2, .start, rfl, .inl rfl⟩
    · rintro ⟨a, h1, h2, h3, h4, _⟩
      rcases h3.split with rfl | ⟨y, b, rfl, h5, _⟩
      · exact List.mem_map.mpr ⟨a, List.mem_filter.mpr ⟨List.mem_range.mpr h1, h2⟩, rfl⟩
      · have := h5.pos
        rw [List.length_append, List.length_singleton] at h4
        omega
  | t + 1, r => by
    constructor
    · intro h
      obtain ⟨y, hy, hr⟩ := List.mem_flatMap.mp h
      obtain ⟨a, h1, h2, h3, h4, h5⟩ := (mem_rows t y).mp hy
      obtain ⟨b, hb, rfl⟩ := List.mem_map.mp hr
      obtain ⟨b1, b2⟩ := List.mem_filter.mp hb
      rw [Bool.and_eq_true, Bool.not_eq_true'] at b2
      exact ⟨a, h1, h2, .ext h3 h5 b2.1 (List.mem_range.mp b1), by rw [List.length_append, h4]; rfl, .inr (by rw [lastN_app]; exact b2.2)⟩
    · rintro ⟨a, h1, h2, h3, h4, h5⟩
      rcases h3.split with rfl | ⟨y, b, rfl, h6, h7, o, hb⟩
      · cases h4
      · rw [List.length_append, List.length_singleton] at h4
        have hb2 : host N b = false := by
          rcases h5 with z | z
          · have w1 := congrArg List.length z
            rw [List.length_append, List.length_singleton, List.length_singleton] at w1
            omega
          · rw [lastN_app] at z; exact z
        exact List.mem_flatMap.mpr ⟨y, (mem_rows t y).mpr ⟨a, h1, h2, h6, by omega, h7⟩, List.mem_map.mpr ⟨b, List.mem_filter.mpr ⟨List.mem_range.mpr hb, by rw [o, hb2]; rfl⟩, rfl⟩⟩
theorem mem_found {N : NetD} : ∀ (t : Nat) (r : List Nat), r ∈ foundOf N t ↔ ∃ a, a < N.ks.length ∧ host N a = true ∧ Row N a r ∧ 2 ≤ r.length ∧ r.length ≤ t + 1 ∧ host N (lastN r) = true
  | 0, r => by
    constructor
    · intro h; cases h
    · rintro ⟨a, _, _, _, h1, h2, _⟩; omega
  | t + 1, r => by
    have ih := mem_found (N := N) t r
    constructor
    · intro h
      rcases List.mem_append.mp h with q | q
      · obtain ⟨a, h1, h2, h3, h4, h5, h6⟩ := ih.mp q
        exact ⟨a, h1, h2, h3, h4, by omega, h6⟩
      · obtain ⟨y, hy, hr⟩ := List.mem_flatMap.mp q
        obtain ⟨a, h1, h2, h3, h4, h5⟩ := (mem_rows t y).mp hy
        obtain ⟨b, hb, rfl⟩ := List.mem_map.mp hr
        obtain ⟨b1, b2⟩ := List.mem_filter.mp hb
        rw [Bool.and_eq_true] at b2
        refine ⟨a, h1, h2, .ext h3 h5 b2.1 (List.mem_range.mp b1), ?_, ?_, by rw [lastN_app]; exact b2.2⟩
        · rw [List.length_append, List.length_singleton]; omega
        · rw [List.length_append, List.length_singleton]; omega
    · rintro ⟨a, h1, h2, h3, h4, h5, h6⟩
      by_cases hl : r.length ≤ t + 1
      · exact List.mem_append.mpr (.inl (ih.mpr ⟨a, h1, h2, h3, h4, hl, h6⟩))
      · refine List.mem_append.mpr (.inr ?_)
        rcases h3.split with rfl | ⟨y, b, rfl, h7, h8, o, hb⟩
        · rw [List.length_singleton] at h4; omega
        · rw [lastN_app] at h6
          rw [List.length_append, List.length_singleton] at hl h5
          exact List.mem_flatMap.mpr ⟨y, (mem_rows t y).mpr ⟨a, h1, h2, h7, by omega, h8⟩, List.mem_map.mpr ⟨b, List.mem_filter.mpr ⟨List.mem_range.mpr hb, by rw [o, h6]; rfl⟩, rfl⟩⟩
theorem range_pw (n : Nat) : (List.range n).Pairwise (· < ·) := List.pairwise_lt_range
theorem ext_pw {p : Nat → Bool} (r : List Nat) (n : Nat) : (((List.range n).filter p).map fun b => r ++ [b]).Pairwise lexlt := by
  refine List.Pairwise.map _ (fun b c h => lex_one h r) ((range_pw n).filter p)
theorem flat_pw {f : List Nat → List (List Nat)} {l : List (List Nat)} (hl : l.Pairwise lexlt) (hf : ∀ r ∈ l, (f r).Pairwise lexlt) (hx : ∀ r, ∀ x ∈ f r, ∃ b, x = r ++ [b]) : (l.flatMap f).Pairwise lexlt := by
  rw [List.pairwise_flatMap]
  refine ⟨hf, List.Pairwise.imp (fun {r r'} h x hx1 y hy1 => ?_) hl⟩
  obtain ⟨b, rfl⟩ := hx r x hx1
  obtain ⟨c, rfl⟩ := hx r' y hy1
  exact lex_app1 _ _ h
theorem exS_ext {N : NetD} {r x : List Nat} (h : x ∈ exS N r) : ∃ b, x = r ++ [b] := by
  obtain ⟨b, _, rfl⟩ := List.mem_map.mp h
  exact ⟨b, rfl⟩
theorem exH_ext {N : NetD} {r x : List Nat} (h : x ∈ exH N r) : ∃ b, x = r ++ [b] := by
  obtain ⟨b, _, rfl⟩ := List.mem_map.mp h
  exact ⟨b, rfl⟩
theorem rows_pw {N : NetD} : ∀ t, (rowsOf N t).Pairwise lexlt
  | 0 => by
    show (((List.range N.ks.length).filter (host N)).map fun b => ([] : List Nat) ++ [b]).Pairwise lexlt
    exact ext_pw [] _
  | t + 1 => flat_pw (rows_pw t) (fun r _ => ext_pw r _) fun r x h => exS_ext h
theorem found_pw {N : NetD} : ∀ t, (foundOf N t).Pairwise rlt
  | 0 => List.Pairwise.nil
  | t + 1 => by
    show (foundOf N t ++ (rowsOf N t).flatMap (exH N)).Pairwise rlt
    have hlen : ∀ x ∈ (rowsOf N t).flatMap (exH N), x.length = t + 2 := fun x hx => by
      obtain ⟨y, hy, hr⟩ := List.mem_flatMap.mp hx
      obtain ⟨b, rfl⟩ := exH_ext hr
      rw [List.length_append, rows_row N t y hy]
      rfl
    rw [List.pairwise_append]
    refine ⟨found_pw t, ?_, fun x hx y hy => .inl ?_⟩
    · have h := flat_pw (f := exH N) (rows_pw (N := N) t) (fun r _ => ext_pw r _) fun r x h => exH_ext h
      refine List.Pairwise.imp_of_mem (fun {x y} hx hy h => .inr ⟨?_, h⟩) h
      rw [hlen x hx, hlen y hy]
    · obtain ⟨_, _, _, _, _, h5, _⟩ := (mem_found t x).mp hx
      rw [hlen y hy]
      omega
def matchP (a b : Nat) (r : List Nat) : Bool := (r.getD 0 0 == a) && (lastN r == b)
theorem row_matchP {N : NetD} {a b : Nat} {r : List Nat} (h : Row N a r) (e : lastN r = b) : matchP a b r = true := by
  unfold matchP
  rw [Bool.and_eq_true, beq_iff_eq, beq_iff_eq]
  refine ⟨?_, e⟩
  have := h.head
  cases r with
  | nil => cases this
  | cons x t => exact Option.some.inj this
theorem matchP_row {N : NetD} {a b c : Nat} {r : List Nat} (h : Row N c r) (m : matchP a b r = true) : c = a ∧ lastN r = b := by
  unfold matchP at m
  rw [Bool.and_eq_true, beq_iff_eq, beq_iff_eq] at m
  refine ⟨?_, m.2⟩
  have := h.head
  have m1 := m.1
  cases r with
  | nil => cases this
  | cons x t =>
    have e : x = c := Option.some.inj this
    rw [← e]
    exact m1
theorem find_first {l : List (List Nat)} {p : List Nat → Bool} {r : List Nat} (hs : l.Pairwise rlt) (hr : r ∈ l) (hp : p r = true) (hmin : ∀ x ∈ l, p x = true → rle r x) : l.find? p = some r := by
  induction l with
  | nil => cases hr
  | cons x t ih =>
    rw [List.find?_cons]
    rw [List.pairwise_cons] at hs
    cases hx : p x with
    | true =>
      show some x = some r
      rcases hmin x List.mem_cons_self hx with e | e
      · rw [e]
      · rcases List.mem_cons.mp hr with q | q
        · rw [q]
        · exact absurd (rlt_trans e (hs.1 r q)) (rlt_irr r)
    | false =>
      show t.find? p = some r
      rcases List.mem_cons.mp hr with q | q
      · rw [q, hx] at hp; cases hp
      · exact ih hs.2 q fun y hy => hmin y (List.mem_cons_of_mem _ hy)
end My
/-! The search level by level gives the least of the shortest rows. -/
namespace My
open PySem PySem.Spec PyProof.Rows L2
/-- a level's fold, pair by pair -/
def pairsOf (A : Nat → List Nat) (L : List Nat) : List (Nat × Nat) := L.flatMap fun u => (A u).map fun v => (u, v)
def visitP (st : Ways × List Nat) (p : Nat × Nat) : Ways × List Nat := visit p.1 st p.2
theorem foldl_pairs1 (u : Nat) : ∀ (l : List Nat) (st : Ways × List Nat), l.foldl (visit u) st = (l.map fun v => (u, v)).foldl visitP st
  | [], _ => rfl
  | v :: r, st => foldl_pairs1 u r (visit u st v)
theorem foldl_pairs (A : Nat → List Nat) : ∀ (L : List Nat) (st : Ways × List Nat), L.foldl (fun s u => (A u).foldl (visit u) s) st = (pairsOf A L).foldl visitP st
  | [], _ => rfl
  | u :: r, st => by
    show r.foldl _ ((A u).foldl (visit u) st) = _
    rw [foldl_pairs A r, foldl_pairs1]
    show _ = (((A u).map fun v => (u, v)) ++ pairsOf A r).foldl visitP st
    rw [List.foldl_append]
/-- the way that a pair gives -/
def wayP (W : Ways) (p : Nat × Nat) : List Nat := (W p.1).getD [] ++ [p.2]
/-- within a level: the pairs of `done` are through -/
structure Mid (W0 : Ways) (done : List (Nat × Nat)) (st : Ways × List Nat) : Prop where
  val : ∀ v, st.1 v = match W0 v with | some r => some r | none => (done.find? fun p => p.2 == v).map (wayP W0)
  mem : ∀ v, v ∈ st.2 ↔ W0 v = none ∧ (st.1 v).isSome = true
  ord : st.2.Pairwise fun v v' => ∀ r r', st.1 v = some r → st.1 v' = some r' → lexlt r r'
theorem Mid.start (W0 : Ways) : Mid W0 [] (W0, []) := by
  refine ⟨fun v => ?_, fun v => ⟨(fun h => by cases h), fun ⟨h1, h2⟩ => ?_⟩, List.Pairwise.nil⟩
  · show W0 v = _
    cases W0 v <;> rfl
  · have h2 : (W0 v).isSome = true := h2
    rw [h1] at h2
    cases h2
theorem Mid.step {W0 : Ways} {done : List (Nat × Nat)} {st : Ways × List Nat} {p : Nat × Nat} (h : Mid W0 done st) (hs : (done ++ [p]).Pairwise fun q q' => lexlt (wayP W0 q) (wayP W0 q')) (hu : (W0 p.1).isSome = true) : Mid W0 (done ++ [p]) (visitP st p) := by
  obtain ⟨u, v⟩ := p
  have hval := h.val v
  by_cases e : (st.1 v).isSome = true
  · have ev : visitP st (u, v) = st := visit_some e
    rw [ev]
    refine ⟨fun x => ?_, h.mem, h.ord⟩
    rw [h.val x]
    cases e0 : W0 x with
    | some r => rfl
    | none =>
      show (done.find? fun p => p.2 == x).map (wayP W0) = ((done ++ [(u, v)]).find? fun p => p.2 == x).map (wayP W0)
      rw [List.find?_append]
      cases e1 : done.find? fun p => p.2 == x with
      | some q => rfl
      | none =>
        have hx : ¬ v = x := fun z => by
          subst z
          rw [hval, e0, e1] at e
          cases e
        have : (v == x) = false := beq_eq_false_iff_ne.mpr hx
        show Option.map (wayP W0) none = Option.map (wayP W0) ([(u, v)].find? fun p => p.2 == x)
        rw [List.find?_cons, this]
        rfl
  · have en : st.1 v = none := by
      cases z : st.1 v with
      | none => rfl
      | some y => rw [z] at e; exact absurd rfl e
    have e0 : W0 v = none := by
      cases z : W0 v with
      | none => rfl
      | some y => rw [z] at hval; rw [hval] at en; cases en
    have e1 : (done.find? fun p => p.2 == v) = none := by
      rw [e0, en] at hval
      cases z : done.find? fun p => p.2 == v with
      | none => rfl
      | some y => rw [z] at hval; cases hval
    have eu : st.1 u = W0 u := by
      obtain ⟨r, hr⟩ := Option.isSome_iff_exists.mp hu
      have hr : W0 u = some r := hr
      rw [h.val u, hr]
    have ev : visitP st (u, v) = (setW st.1 v (wayP W0 (u, v)), st.2 ++ [v]) := by
      show visit u st v = _
      rw [visit_none e, eu]
      rfl
    rw [ev]
    have hne : ∀ x, x ∈ st.2 → ¬ x = v := fun x hx z => by
      have := ((h.mem x).mp hx).2
      rw [z, en] at this
      cases this
    refine ⟨fun x => ?_, fun x => ?_, ?_⟩
    · show setW st.1 v (wayP W0 (u, v)) x = _
      unfold setW
      by_cases ex : x = v
      · subst ex
        rw [if_pos rfl, e0]
        show some (wayP W0 (u, x)) = ((done ++ [(u, x)]).find? fun p => p.2 == x).map (wayP W0)
        rw [List.find?_append, e1, List.find?_cons, show (x == x) = true from beq_self_eq_true x]
        rfl
      · rw [if_neg ex, h.val x]
        cases W0 x with
        | some r => rfl
        | none =>
          show (done.find? fun p => p.2 == x).map (wayP W0) = ((done ++ [(u, v)]).find? fun p => p.2 == x).map (wayP W0)
          rw [List.find?_append]
          cases done.find? fun p => p.2 == x with
          | some q => rfl
          | none =>
            have : (v == x) = false := beq_eq_false_iff_ne.mpr fun z => ex z.symm
            show Option.map (wayP W0) none = Option.map (wayP W0) ([(u, v)].find? fun p => p.2 == x)
            rw [List.find?_cons, this]
            rfl
    · show x ∈ st.2 ++ [v] ↔ W0 x = none ∧ (setW st.1 v (wayP W0 (u, v)) x).isSome = true
      unfold setW
      rw [List.mem_append, List.mem_singleton]
      by_cases ex : x = v
      · subst ex
        rw [if_pos rfl]
        exact ⟨fun _ => ⟨e0, rfl⟩, fun _ => .inr rfl⟩
      · rw [if_neg ex, h.mem x]
        exact ⟨fun q => q.resolve_right ex, fun q => .inl q⟩
    · show (st.2 ++ [v]).Pairwise _
      rw [List.pairwise_append]
      refine ⟨List.Pairwise.imp_of_mem (fun {x y} hx hy hr r r' h1 h2 => ?_) h.ord, List.pairwise_singleton _ _, fun x hx y hy r r' h1 h2 => ?_⟩
      · have h1 : setW st.1 v (wayP W0 (u, v)) x = some r := h1
        have h2 : setW st.1 v (wayP W0 (u, v)) y = some r' := h2
        unfold setW at h1 h2
        rw [if_neg (hne x hx)] at h1
        rw [if_neg (hne y hy)] at h2
        exact hr r r' h1 h2
      · rw [List.mem_singleton.mp hy] at h2
        have h1 : setW st.1 v (wayP W0 (u, v)) x = some r := h1
        have h2 : setW st.1 v (wayP W0 (u, v)) v = some r' := h2
        unfold setW at h1 h2
        rw [if_neg (hne x hx)] at h1
        rw [if_pos rfl] at h2
        cases h2
        rw [h.val x, ((h.mem x).mp hx).1] at h1
        obtain ⟨q, hq, rfl⟩ := Option.map_eq_some_iff.mp h1
        have hqm : q ∈ done := List.mem_of_find?_eq_some hq
        rw [List.pairwise_append] at hs
        exact hs.2.2 q hqm (u, v) (List.mem_singleton.mpr rfl)
theorem Mid.fold {W0 : Ways} : ∀ (l done : List (Nat × Nat)) {st : Ways × List Nat}, Mid W0 done st → (done ++ l).Pairwise (fun q q' => lexlt (wayP W0 q) (wayP W0 q')) → (∀ p ∈ l, (W0 p.1).isSome = true) → Mid W0 (done ++ l) (l.foldl visitP st)
  | [], done, _, h, _, _ => by rw [List.append_nil]; exact h
  | p :: r, done, st, h, hs, hu => by
    have e : done ++ p :: r = (done ++ [p]) ++ r := by rw [List.append_assoc]; rfl
    rw [e] at hs ⊢
    refine Mid.fold r (done ++ [p]) (h.step ?_ (hu p List.mem_cons_self)) hs fun q hq => hu q (List.mem_cons_of_mem _ hq)
    exact (List.pairwise_append.mp hs).1
/-! ### the levels -/
def arcsOf (N : NetD) (first a : Nat) : List Nat := if decide (a = first) || !host N a then nbs N a else []
theorem arcs_pw (N : NetD) (a u : Nat) : (arcsOf N a u).Pairwise (· < ·) := by
  unfold arcsOf nbs
  split
  · exact (range_pw _).filter _
  · exact List.Pairwise.nil
theorem mem_arcs {N : NetD} {a u v : Nat} : v ∈ arcsOf N a u ↔ (u = a ∨ host N u = false) ∧ v < N.ks.length ∧ adj N u v = true := by
  unfold arcsOf nbs
  by_cases e : (decide (u = a) || !host N u) = true
  · rw [if_pos e, List.mem_filter, List.mem_range]
    rw [Bool.or_eq_true, decide_eq_true_eq, Bool.not_eq_true'] at e
    exact ⟨fun h => ⟨e, h⟩, fun h => h.2⟩
  · rw [if_neg e]
    rw [Bool.or_eq_true, decide_eq_true_eq, Bool.not_eq_true'] at e
    exact ⟨(fun h => by cases h), fun h => absurd h.1 e⟩
theorem rle_len {x y : List Nat} (h : rle x y) : x.length ≤ y.length := by
  rcases h with rfl | h | ⟨h, _⟩
  · exact Nat.le_refl _
  · omega
  · omega
structure Lv (N : NetD) (a t : Nat) (st : Ways × List Nat) : Prop where
  row : ∀ v r, st.1 v = some r → Row N a r ∧ lastN r = v ∧ r.length ≤ t + 1 ∧ ∀ x, Row N a x → lastN x = v → rle r x
  all : ∀ x, Row N a x → x.length ≤ t + 1 → (st.1 (lastN x)).isSome = true
  mem : ∀ u, u ∈ st.2 ↔ ∃ r, st.1 u = some r ∧ r.length = t + 1
  ord : st.2.Pairwise fun u u' => ∀ r r', st.1 u = some r → st.1 u' = some r' → lexlt r r'
theorem lv_zero (N : NetD) (a : Nat) : Lv N a 0 (lev (arcsOf N a) a 0) := by
  have ev : ∀ v, (lev (arcsOf N a) a 0).1 v = if v = a then some [a] else none := fun v => rfl
  refine ⟨fun v r h => ?_, fun x hx hl => ?_, fun u => ?_, List.pairwise_singleton _ _⟩
  · rw [ev] at h
    by_cases e : v = a
    · rw [if_pos e] at h
      cases h
      refine ⟨.start, e.symm ▸ rfl, Nat.le_refl _, fun x hx _ => ?_⟩
      rcases hx.split with rfl | ⟨y, b, rfl, h1, _⟩
      · exact .inl rfl
      · refine .inr (.inl ?_)
        have := h1.pos
        rw [List.length_append, List.length_singleton, List.length_singleton]
        omega
    · rw [if_neg e] at h; cases h
  · rcases hx.split with rfl | ⟨y, b, rfl, h1, _⟩
    · rw [lastN_one, ev, if_pos rfl]; rfl
    · have := h1.pos
      rw [List.length_append, List.length_singleton] at hl
      omega
  · show u ∈ [a] ↔ _
    rw [List.mem_singleton]
    constructor
    · intro e
      exact ⟨[a], by rw [ev, if_pos e], rfl⟩
    · rintro ⟨r, h, _⟩
      rw [ev] at h
      by_cases e : u = a
      · exact e
      · rw [if_neg e] at h; cases h
theorem mem_pairs {A : Nat → List Nat} {L : List Nat} {p : Nat × Nat} : p ∈ pairsOf A L ↔ p.1 ∈ L ∧ p.2 ∈ A p.1 := by
  unfold pairsOf
  rw [List.mem_flatMap]
  constructor
  · rintro ⟨u, hu, h⟩
    obtain ⟨v, hv, rfl⟩ := List.mem_map.mp h
    exact ⟨hu, hv⟩
  · rintro ⟨h1, h2⟩
    exact ⟨p.1, h1, List.mem_map.mpr ⟨p.2, h2, rfl⟩⟩
theorem pairs_pw {N : NetD} {a t : Nat} {st : Ways × List Nat} (h : Lv N a t st) : (pairsOf (arcsOf N a) st.2).Pairwise fun q q' => lexlt (wayP st.1 q) (wayP st.1 q') := by
  unfold pairsOf
  rw [List.pairwise_flatMap]
  refine ⟨fun u hu => ?_, List.Pairwise.imp_of_mem (fun {u u'} hu hu' hr p hp q hq => ?_) h.ord⟩
  · exact List.Pairwise.map _ (fun v v' hv => lex_one hv _) (arcs_pw N a u)
  · obtain ⟨v, _, rfl⟩ := List.mem_map.mp hp
    obtain ⟨v', _, rfl⟩ := List.mem_map.mp hq
    obtain ⟨r, h1, _⟩ := (h.mem u).mp hu
    obtain ⟨r', h2, _⟩ := (h.mem u').mp hu'
    unfold wayP
    show lexlt ((st.1 u).getD [] ++ [v]) ((st.1 u').getD [] ++ [v'])
    rw [h1, h2]
    exact lex_app1 _ _ (hr r r' h1 h2)
theorem find_least {W : Ways} {v : Nat} {p q : Nat × Nat} : ∀ {l : List (Nat × Nat)}, l.Pairwise (fun q q' => lexlt (wayP W q) (wayP W q')) → (l.find? fun p => p.2 == v) = some p → q ∈ l → q.2 = v → q = p ∨ lexlt (wayP W p) (wayP W q)
  | [], _, h, _, _ => by cases h
  | x :: t, hs, h, hq, e => by
    rw [List.pairwise_cons] at hs
    rw [List.find?_cons] at h
    cases hx : x.2 == v with
    | true =>
      rw [hx] at h
      cases h
      rcases List.mem_cons.mp hq with z | z
      · exact .inl z
      · exact .inr (hs.1 q z)
    | false =>
      rw [hx] at h
      rcases List.mem_cons.mp hq with z | z
      · rw [z] at e
        rw [e, beq_self_eq_true] at hx
        cases hx
      · exact find_least hs.2 h z e
theorem lv_succ {N : NetD} {a t : Nat} (ha : a < N.ks.length) (h : Lv N a t (lev (arcsOf N a) a t)) : Lv N a (t + 1) (lev (arcsOf N a) a (t + 1)) := by
  generalize hst : lev (arcsOf N a) a t = st at h
  have e1 : lev (arcsOf N a) a (t + 1) = (pairsOf (arcsOf N a) st.2).foldl visitP (st.1, []) := by
    show levStep (arcsOf N a) (lev (arcsOf N a) a t) = _
    rw [hst]
    exact foldl_pairs _ _ _
  have hL : ∀ p ∈ pairsOf (arcsOf N a) st.2, ∃ r, st.1 p.1 = some r ∧ r.length = t + 1 := fun p hp => (h.mem p.1).mp (mem_pairs.mp hp).1
  have M : Mid st.1 (pairsOf (arcsOf N a) st.2) ((pairsOf (arcsOf N a) st.2).foldl visitP (st.1, [])) := by
    have := Mid.fold (pairsOf (arcsOf N a) st.2) [] (Mid.start st.1) (by rw [List.nil_append]; exact pairs_pw h) fun p hp => by
      obtain ⟨r, hr, _⟩ := hL p hp
      rw [hr]; rfl
    rw [List.nil_append] at this
    exact this
  rw [e1]
  generalize hs2 : (pairsOf (arcsOf N a) st.2).foldl visitP (st.1, []) = st2 at M
  have hpw := pairs_pw h
  -- a node that is not yet there is in no row that is as short
  have notin : ∀ v, st.1 v = none → ∀ r, Row N a r → r.length ≤ t + 1 → v ∉ r := fun v hv r hr hl m => by
    obtain ⟨x, x1, x2, x3⟩ := hr.pre v m
    have := h.all x x1 (by omega)
    rw [x2, hv] at this
    cases this
  -- a row one longer comes from a pair
  have from_ : ∀ x, Row N a x → x.length ≤ t + 2 → st.1 (lastN x) = none → ∃ y b, x = y ++ [b] ∧ y.length = t + 1 ∧ ∃ r', st.1 (lastN y) = some r' ∧ r'.length = t + 1 ∧ rle r' y ∧ (lastN y, b) ∈ pairsOf (arcsOf N a) st.2 := fun x hx hl hv => by
    have hlen : ¬ x.length ≤ t + 1 := fun z => by
      have := h.all x hx z
      rw [hv] at this
      cases this
    rcases hx.split with rfl | ⟨y, b, rfl, y1, y2, o, hb⟩
    · rw [List.length_singleton] at hlen; omega
    · rw [List.length_append, List.length_singleton] at hl hlen
      rw [lastN_app] at hv
      have yl : y.length = t + 1 := by omega
      obtain ⟨r', hr'⟩ := Option.isSome_iff_exists.mp (h.all y y1 (by omega))
      obtain ⟨w1, w2, w3, w4⟩ := h.row _ _ hr'
      have hle := w4 y y1 rfl
      have hu : lastN y = a ∨ host N (lastN y) = false := y2.imp (fun z => by rw [z]; rfl) id
      have hadj := (okb_mem o).2
      have hr'l : r'.length = t + 1 := by
        rcases Nat.lt_or_ge r'.length (t + 1) with z | z
        · exfalso
          have hbn : b ∉ r' := notin b hv r' w1 w3
          have hx2 : Row N a (r' ++ [b]) := by
            refine .ext w1 ?_ (okb_of hbn (by rw [w2]; exact hadj)) hb
            rcases hu with q | q
            · exact .inl (w1.back (by rw [w2]; exact q))
            · exact .inr (by rw [w2]; exact q)
          have := h.all _ hx2 (by rw [List.length_append, List.length_singleton]; omega)
          rw [lastN_app, hv] at this
          cases this
        · omega
      exact ⟨y, b, rfl, yl, r', hr', hr'l, hle, mem_pairs.mpr ⟨(h.mem _).mpr ⟨r', hr', hr'l⟩, mem_arcs.mpr ⟨hu, hb, hadj⟩⟩⟩
  refine ⟨fun v r hr => ?_, fun x hx hl => ?_, fun u => ?_, M.ord⟩
  · rw [M.val v] at hr
    cases e0 : st.1 v with
    | some r0 =>
      rw [e0] at hr
      cases hr
      obtain ⟨w1, w2, w3, w4⟩ := h.row v r e0
      exact ⟨w1, w2, by omega, w4⟩
    | none =>
      rw [e0] at hr
      obtain ⟨p, hp, rfl⟩ := Option.map_eq_some_iff.mp hr
      have hpm := List.mem_of_find?_eq_some hp
      have hp2 : p.2 = v := by
        have := List.find?_some hp
        exact beq_iff_eq.mp this
      obtain ⟨ru, hru, hrul⟩ := hL p hpm
      obtain ⟨w1, w2, w3, w4⟩ := h.row p.1 ru hru
      obtain ⟨c1, c2, c3⟩ := mem_arcs.mp (mem_pairs.mp hpm).2
      have ew : wayP st.1 p = ru ++ [v] := by
        unfold wayP
        rw [hru, hp2]
        rfl
      rw [ew]
      have hvn : v ∉ ru := notin v e0 ru w1 w3
      have hrow : Row N a (ru ++ [v]) := by
        refine .ext w1 ?_ (okb_of hvn (by rw [w2, ← hp2]; exact c3)) (by rw [← hp2]; exact c2)
        rcases c1 with q | q
        · exact .inl (w1.back (by rw [w2]; exact q))
        · exact .inr (by rw [w2]; exact q)
      refine ⟨hrow, lastN_app _ _, by rw [List.length_append, List.length_singleton]; omega, fun x hx hv => ?_⟩
      by_cases hl : x.length ≤ t + 2
      · obtain ⟨y, b, rfl, yl, r', hr', hr'l, hle, hpair⟩ := from_ x hx hl (by rw [hv]; exact e0)
        rw [lastN_app] at hv
        have ewq : wayP st.1 (lastN y, b) = r' ++ [b] := by
          unfold wayP
          rw [hr']
          rfl
        have key : rle (ru ++ [v]) (r' ++ [b]) := by
          rcases find_least hpw hp hpair hv with z | z
          · rw [← ew, ← ewq, z]
            exact .inl rfl
          · rw [ew, ewq] at z
            exact .inr (.inr ⟨by rw [List.length_append, List.length_append, hrul, hr'l]; rfl, z⟩)
        have key2 : rle (r' ++ [b]) (y ++ [b]) := by
          rcases hle with z | z | ⟨_, z⟩
          · rw [z]; exact .inl rfl
          · omega
          · exact .inr (.inr ⟨by rw [List.length_append, List.length_append, yl, hr'l], lex_app1 _ _ z⟩)
        rcases key with z | z
        · rw [z]; exact key2
        · rcases key2 with z2 | z2
          · rw [← z2]; exact .inr z
          · exact .inr (rlt_trans z z2)
      · refine .inr (.inl ?_)
        rw [List.length_append, List.length_singleton]
        omega
  · rw [M.val]
    cases e0 : st.1 (lastN x) with
    | some r0 => rfl
    | none =>
      obtain ⟨y, b, rfl, yl, r', hr', hr'l, hle, hpair⟩ := from_ x hx hl e0
      rw [lastN_app]
      show (Option.map (wayP st.1) _).isSome = true
      rw [Option.isSome_map, List.find?_isSome]
      exact ⟨_, hpair, beq_iff_eq.mpr rfl⟩
  · rw [M.mem u]
    constructor
    · rintro ⟨e0, e2⟩
      have hv := M.val u
      rw [e0] at hv
      rw [hv] at e2
      obtain ⟨r, hr⟩ := Option.isSome_iff_exists.mp e2
      refine ⟨r, by rw [hv]; exact hr, ?_⟩
      obtain ⟨p, hp, rfl⟩ := Option.map_eq_some_iff.mp hr
      obtain ⟨ru, hru, hrul⟩ := hL p (List.mem_of_find?_eq_some hp)
      unfold wayP
      rw [hru, List.length_append]
      show ru.length + 1 = _
      rw [hrul]
    · rintro ⟨r, hr, hrl⟩
      refine ⟨?_, by rw [hr]; rfl⟩
      cases e0 : st.1 u with
      | none => rfl
      | some r0 =>
        have hv := M.val u
        rw [e0] at hv
        rw [hv] at hr
        cases hr
        obtain ⟨_, _, w3, _⟩ := h.row u r e0
        omega
theorem lv_all {N : NetD} {a : Nat} (ha : a < N.ks.length) : ∀ t, Lv N a t (lev (arcsOf N a) a t)
  | 0 => lv_zero N a
  | t + 1 => lv_succ ha (lv_all ha t)
/-- no level is longer than there are nodes -/
theorem lev_stop {N : NetD} {a : Nat} (ha : a < N.ks.length) : (lev (arcsOf N a) a N.ks.length).2 = [] := by
  have h := lv_all ha N.ks.length
  cases e : (lev (arcsOf N a) a N.ks.length).2 with
  | nil => rfl
  | cons u t =>
    obtain ⟨r, hr, hl⟩ := (h.mem u).mp (by rw [e]; exact List.mem_cons_self)
    obtain ⟨w1, _⟩ := h.row u r hr
    have := nodup_lt N.ks.length r w1.nodup (w1.lt ha)
    omega
/-- a row between hosts has at most two nodes more than there are switches -/
theorem nodup_sub : ∀ {l m : List Nat}, l.Nodup → (∀ x ∈ l, x ∈ m) → l.length ≤ m.length
  | [], _, _, _ => Nat.zero_le _
  | x :: l, m, hd, hs => by
    rw [List.nodup_cons] at hd
    have hx := hs x List.mem_cons_self
    have ih := nodup_sub (l := l) (m := m.erase x) hd.2 fun y hy => (List.mem_erase_of_ne (fun z => hd.1 (by rw [← z]; exact hy))).mpr (hs y (List.mem_cons_of_mem _ hy))
    rw [List.length_erase_of_mem hx] at ih
    have := List.length_pos_of_mem hx
    rw [List.length_cons]
    omega
theorem count_range (p : Nat → Bool) (ks : List Bool) (off : Nat) (hp : ∀ i, i < ks.length → p (off + i) = !(ks.getD i true)) : ((List.range' off ks.length).filter p).length = ks.count false := by
  induction ks generalizing off with
  | nil => rfl
  | cons b r ih =>
    have h0 := hp 0 (by rw [List.length_cons]; omega)
    have h0 : p off = !b := h0
    have ih := ih (off + 1) fun i hi => by
      have := hp (i + 1) (by rw [List.length_cons]; omega)
      rw [show off + 1 + i = off + (i + 1) by omega, this]
      rfl
    rw [List.length_cons, List.range'_succ, List.filter_cons, List.count_cons, h0]
    cases b with
    | true =>
      show ((List.range' (off + 1) r.length).filter p).length = _
      rw [ih]
      rfl
    | false =>
      show ((List.range' (off + 1) r.length).filter p).length + 1 = _
      rw [ih]
      rfl
theorem switches_len (N : NetD) : ((List.range N.ks.length).filter fun a => !host N a).length = N.ks.count false := by
  rw [List.range_eq_range']
  refine count_range _ N.ks 0 fun i _ => ?_
  unfold host
  rw [Nat.zero_add]
/-- all but the first and the last are switches -/
theorem Row.inner {N : NetD} {a : Nat} {r : List Nat} (h : Row N a r) (ha : a < N.ks.length) : ∃ m, (r = [a] ∧ m = []) ∨ (∃ b, r = a :: (m ++ [b])) ∧ m.Nodup ∧ ∀ x ∈ m, x < N.ks.length ∧ host N x = false := by
  induction h with
  | start => exact ⟨[], .inl ⟨rfl, rfl⟩⟩
  | @ext r b h1 h2 o hb ih =>
    obtain ⟨m, z⟩ := ih
    rcases z with ⟨z, _⟩ | ⟨⟨c, z⟩, m1, m2⟩
    · exact ⟨[], .inr ⟨⟨b, by rw [z]; rfl⟩, List.nodup_nil, fun x hx => by cases hx⟩⟩
    · refine ⟨m ++ [c], .inr ⟨⟨b, by rw [z]; rfl⟩, ?_, ?_⟩⟩
      · have := h1.nodup
        rw [z, List.nodup_cons] at this
        exact this.2
      · intro x hx
        rcases List.mem_append.mp hx with q | q
        · exact m2 x q
        · rw [List.mem_singleton.mp q]
          have hl : lastN r = c := by
            rw [z]
            exact lastN_app (a :: m) c
          refine ⟨h1.lt ha c (by rw [z]; simp), ?_⟩
          rcases h2 with y | y
          · rw [z] at y
            have := congrArg List.length y
            rw [List.length_cons, List.length_append] at this
            simp at this
          · rw [← hl]; exact y
theorem Row.short {N : NetD} {a : Nat} {r : List Nat} (h : Row N a r) (ha : a < N.ks.length) : r.length ≤ N.ks.count false + 2 := by
  obtain ⟨m, z⟩ := h.inner ha
  rcases z with ⟨z, _⟩ | ⟨⟨b, z⟩, m1, m2⟩
  · rw [z, List.length_singleton]; omega
  · have := nodup_sub (m := (List.range N.ks.length).filter fun a => !host N a) m1 fun x hx => by
      obtain ⟨y1, y2⟩ := m2 x hx
      exact List.mem_filter.mpr ⟨List.mem_range.mpr y1, by rw [y2]; rfl⟩
    rw [switches_len] at this
    rw [z, List.length_cons, List.length_append, List.length_singleton]
    omega
/-- THE POINT: the search's way is the first row found -/
theorem way_is_found {N : NetD} {a b T : Nat} (ha : a < N.ks.length) (ha2 : host N a = true) (hb : host N b = true) (hab : a ≠ b) (hT : N.ks.count false + 1 ≤ T) : (lev (arcsOf N a) a N.ks.length).1 b = (foundOf N T).find? (matchP a b) := by
  have h := lv_all ha N.ks.length
  have two : ∀ x, Row N a x → lastN x = b → 2 ≤ x.length := fun x hx e => by
    rcases hx.split with rfl | ⟨y, c, rfl, y1, _⟩
    · exact absurd e hab
    · have := y1.pos
      rw [List.length_append, List.length_singleton]
      omega
  have inF : ∀ x, Row N a x → lastN x = b → x ∈ foundOf N T := fun x hx e => by
    have := hx.short ha
    exact (mem_found _ _).mpr ⟨a, ha, ha2, hx, two x hx e, by omega, by rw [e]; exact hb⟩
  cases e : (lev (arcsOf N a) a N.ks.length).1 b with
  | none =>
    symm
    rw [List.find?_eq_none]
    intro x hx m
    obtain ⟨c, _, _, h3, _⟩ := (mem_found _ _).mp hx
    obtain ⟨rfl, e2⟩ := matchP_row h3 m
    have := h.all x h3 (by have := nodup_lt N.ks.length x h3.nodup (h3.lt ha); omega)
    rw [e2, e] at this
    cases this
  | some r =>
    obtain ⟨w1, w2, w3, w4⟩ := h.row b r e
    symm
    refine find_first (found_pw T) (inF r w1 w2) (row_matchP w1 w2) fun x hx m => ?_
    obtain ⟨c, _, _, h3, _⟩ := (mem_found _ _).mp hx
    obtain ⟨rfl, e2⟩ := matchP_row h3 m
    exact w4 x h3 e2
end My
/-! Rows as data: ==, < of pairs (len(row), row). -/
namespace My
open PySem PySem.Spec PyProof.Rows L2
def dList (r : List Nat) : PyData := .list (r.map fun (n : Nat) => PyData.int (n : Int))
def dPair (r : List Nat) : PyData := .tuple [.int ((r.length : Nat) : Int), dList r]
theorem dp_ints {K : PySem.W.Frag} {H : Hp} : ∀ r : List Nat, DpAll K H (natsV r) (r.map fun (n : Nat) => PyData.int (n : Int))
  | [] => .nil
  | n :: r => .cons (.int _) (dp_ints r)
theorem dp_list {K : PySem.W.Frag} {H : Hp} {a : Addr} {r : List Nat} (h : SqL K H a (natsV r)) : Dp K H (.ref a) (dList r) := .lst h (dp_ints r)
theorem canLay_ints : ∀ r : List Nat, PyData.canLayAll0 (r.map fun (n : Nat) => PyData.int (n : Int)) = true
  | [] => rfl
  | n :: r => by
    rw [List.map_cons, PyData.canLayAll0, canLay_ints r]
    rfl
theorem depth_ints : ∀ r : List Nat, PyData.depthAll (r.map fun (n : Nat) => PyData.int (n : Int)) = 0
  | [] => by rw [List.map_nil, PyData.depthAll]
  | n :: r => by
    rw [List.map_cons, PyData.depthAll, depth_ints r, PyData.depth]
    rfl
theorem depth_list (r : List Nat) : (dList r).depth = 1 := by
  unfold dList
  rw [PyData.depth, depth_ints]
theorem shaped_list (r : List Nat) : SeqAt.shaped (dList r) = true := by
  unfold SeqAt.shaped
  rw [depth_list]
  unfold dList
  rw [PyData.canLay0, canLay_ints]
  rfl
theorem shaped_none : SeqAt.shaped PyData.none = true := by decide +kernel
theorem eqv_list (r : List Nat) : PyData.eqv (dList r) (dList r) = true := SeqAt.eqv_refl _ (SeqAt.canLay_of_shaped (shaped_list r))
theorem eqv_none : PyData.eqv PyData.none PyData.none = true := by rw [PyData.eqv]
theorem alike_ints : ∀ r x : List Nat, PySem.W.alikeAll (r.map fun (n : Nat) => PyData.int (n : Int)) (x.map fun (n : Nat) => PyData.int (n : Int)) = true
  | [], x => by rw [List.map_nil, PySem.W.alikeAll]
  | n :: r, [] => by
    rw [List.map_cons, List.map_nil]
    rw [PySem.W.alikeAll]
  | n :: r, y :: x => by
    rw [List.map_cons, List.map_cons, PySem.W.alikeAll, alike_ints r x, PySem.W.alike]
    rfl
theorem alike_pair (r x : List Nat) : PySem.W.alike (dPair r) (dPair x) = true := by
  unfold dPair dList
  rw [PySem.W.alike, PySem.W.alikeAll, PySem.W.alikeAll, PySem.W.alikeAll, PySem.W.alike, PySem.W.alike, alike_ints]
  rfl
theorem depth_pair (r : List Nat) : (dPair r).depth = 2 := by
  unfold dPair
  rw [PyData.depth, PyData.depthAll, PyData.depthAll, PyData.depthAll, depth_list, PyData.depth]
  rfl
theorem eqv_int (i j : Int) : PyData.eqv (.int i) (.int j) = (i == j) := by rw [PyData.eqv]
theorem alike_int (i j : Int) : PySem.W.alike (.int i) (.int j) = true := by rw [PySem.W.alike]
/-- lists of ints: the greater one is not less -/
theorem ints_nlt : ∀ {b x : List Nat}, lexlt b x → PyProof.Rows.lexLt PyProof.Rows.itemOrd (PySem.W.keyToksAll (x.map fun (n : Nat) => PyData.int (n : Int))) (PySem.W.keyToksAll (b.map fun (n : Nat) => PyData.int (n : Int))) = false
  | [], _, h => h.elim
  | _ :: _, [], h => h.elim
  | n :: b, y :: x, h => by
    rw [List.map_cons, List.map_cons]
    by_cases e : y = n
    · rw [PySem.W.dataLt_all_yes (alike_int _ _) (by rw [eqv_int, e]; exact beq_self_eq_true _)]
      rcases h with h | ⟨_, h⟩
      · omega
      · exact ints_nlt h
    · rw [PySem.W.dataLt_all_no (alike_int _ _) (by rw [eqv_int]; exact beq_eq_false_iff_ne.mpr (by omega)), PySem.W.dataLt_int]
      rcases h with h | ⟨z, _⟩
      · exact decide_eq_false (by omega)
      · exact absurd z.symm e
theorem lex_len : ∀ {b x : List Nat}, lexlt b x → b.length = x.length → PyData.eqvAll (x.map fun (n : Nat) => PyData.int (n : Int)) (b.map fun (n : Nat) => PyData.int (n : Int)) = false
  | [], _, h, _ => h.elim
  | _ :: _, [], h, _ => h.elim
  | n :: b, y :: x, h, hl => by
    rw [List.map_cons, List.map_cons, PyData.eqvAll, eqv_int]
    rcases h with h | ⟨e, h⟩
    · rw [show (((y : Nat) : Int) == (n : Int)) = false from beq_eq_false_iff_ne.mpr (by omega)]
      rfl
    · rw [lex_len h (by simpa using hl), Bool.and_false]
theorem pair_nlt {b x : List Nat} (h : rlt b x) : PySem.W.dataLt (dPair x) (dPair b) = false := by
  unfold dPair
  rw [PySem.W.dataLt_tuple]
  by_cases e : x.length = b.length
  · rw [PySem.W.dataLt_all_yes (alike_int _ _) (by rw [eqv_int, e]; exact beq_self_eq_true _)]
    rcases h with h | ⟨_, h⟩
    · omega
    · have al : PySem.W.alike (dList x) (dList b) = true := by
        unfold dList
        rw [PySem.W.alike]
        exact alike_ints x b
      have ev : PyData.eqv (dList x) (dList b) = false := by
        unfold dList
        rw [PyData.eqv]
        exact lex_len h e.symm
      rw [PySem.W.dataLt_all_no al ev]
      unfold dList
      rw [PySem.W.dataLt_list]
      exact ints_nlt h
  · rw [PySem.W.dataLt_all_no (alike_int _ _) (by rw [eqv_int]; exact beq_eq_false_iff_ne.mpr (by omega)), PySem.W.dataLt_int]
    rcases h with h | ⟨z, _⟩
    · exact decide_eq_false (by omega)
    · exact absurd z.symm e
end My
/-! == of lists of kinds, nodes, ports, lines as data. No row. -/
namespace My
open PySem PySem.Spec PyProof.Rows L2
structure Shp (n : Nat) (d : PyData) : Prop where
  c : d.canLay0 = true
  d : d.depth ≤ n
theorem Shp.shaped {n : Nat} {d : PyData} (h : Shp n d) (hn : n ≤ 64 := by decide) : SeqAt.shaped d = true := by
  unfold SeqAt.shaped
  rw [h.c, decide_eq_true (Nat.le_trans h.d hn)]
  rfl
theorem shp_int (i : Int) : Shp 0 (.int i) := ⟨by rw [PyData.canLay0], by rw [PyData.depth]; exact Nat.le_refl _⟩
theorem shp_kind (b : Bool) : Shp 0 (.str (if b then "host" else "switch")) := ⟨by rw [PyData.canLay0]; cases b <;> decide +kernel, by rw [PyData.depth]; exact Nat.le_refl _⟩
theorem shp_all {n : Nat} : ∀ {ds : List PyData}, (∀ d ∈ ds, Shp n d) → PyData.canLayAll0 ds = true ∧ PyData.depthAll ds ≤ n
  | [], _ => ⟨by rw [PyData.canLayAll0], by rw [PyData.depthAll]; exact Nat.zero_le _⟩
  | d :: r, h => by
    have h1 := h d List.mem_cons_self
    have h2 := shp_all (ds := r) fun x hx => h x (List.mem_cons_of_mem _ hx)
    refine ⟨by rw [PyData.canLayAll0, h1.c, h2.1]; rfl, by rw [PyData.depthAll]; exact Nat.max_le.mpr ⟨h1.d, h2.2⟩⟩
theorem shp_list {n : Nat} {ds : List PyData} (h : ∀ d ∈ ds, Shp n d) : Shp (n + 1) (.list ds) := ⟨by rw [PyData.canLay0]; exact (shp_all h).1, by rw [PyData.depth]; exact Nat.succ_le_succ (shp_all h).2⟩
theorem shp_tuple {n : Nat} {ds : List PyData} (h : ∀ d ∈ ds, Shp n d) : Shp (n + 1) (.tuple ds) := ⟨by rw [PyData.canLay0]; exact (shp_all h).1, by rw [PyData.depth]; exact Nat.succ_le_succ (shp_all h).2⟩
theorem shp_map {α : Type} {n : Nat} {f : α → PyData} {xs : List α} (h : ∀ x, Shp n (f x)) : ∀ d ∈ xs.map f, Shp n d := fun d hd => by
  obtain ⟨x, _, rfl⟩ := List.mem_map.mp hd
  exact h x
theorem eqv_map {α : Type} [DecidableEq α] (f : α → PyData) (h : ∀ x y, PyData.eqv (f x) (f y) = decide (x = y)) : ∀ xs ys : List α, PyData.eqvAll (xs.map f) (ys.map f) = decide (xs = ys)
  | [], [] => by rw [List.map_nil, PyData.eqvAll, decide_eq_true rfl]
  | [], y :: ys => by rw [List.map_nil, List.map_cons, PyData.eqvAll, decide_eq_false (by simp)]
  | x :: xs, [] => by rw [List.map_nil, List.map_cons, PyData.eqvAll, decide_eq_false (by simp)]
  | x :: xs, y :: ys => by
    rw [List.map_cons, List.map_cons, PyData.eqvAll, h, eqv_map f h xs ys, Bool.eq_iff_iff, Bool.and_eq_true, decide_eq_true_eq, decide_eq_true_eq, decide_eq_true_eq, List.cons.injEq]
theorem beq_dec (i j : Int) : (i == j) = decide (i = j) := by
  rw [Bool.eq_iff_iff, beq_iff_eq, decide_eq_true_eq]
/-! ### kinds -/
def dKind (b : Bool) : PyData := .str (if b then "host" else "switch")
def dKinds (ks : List Bool) : PyData := .list (ks.map dKind)
theorem eqv_kind (a b : Bool) : PyData.eqv (dKind a) (dKind b) = decide (a = b) := by
  unfold dKind
  rw [PyData.eqv]
  cases a <;> cases b <;> decide +kernel
theorem eqv_kinds (a b : List Bool) : PyData.eqv (dKinds a) (dKinds b) = decide (a = b) := by
  unfold dKinds
  rw [PyData.eqv, eqv_map dKind eqv_kind]
theorem shp_kinds (ks : List Bool) : Shp 1 (dKinds ks) := shp_list (shp_map shp_kind)
theorem dp_all {α : Type} {K : PySem.W.Frag} {H : Hp} (f : α → PyData) (g : α → V) (h : ∀ x, Dp K H (g x) (f x)) : ∀ xs : List α, DpAll K H (xs.map g) (xs.map f)
  | [] => .nil
  | x :: r => .cons (h x) (dp_all f g h r)
theorem dp_kinds {K : PySem.W.Frag} {H : Hp} {a : Addr} {ks : List Bool} (h : SqL K H a (ks.map kindV)) : Dp K H (.ref a) (dKinds ks) := .lst h (dp_all dKind kindV (fun _ => .str _) ks)
/-! ### nodes -/
theorem shp_nats (r : List Nat) : Shp 1 (dList r) := shp_list (shp_map (f := fun (n : Nat) => PyData.int (n : Int)) fun _ => shp_int _)
theorem eqv_nats (a b : List Nat) : PyData.eqv (dList a) (dList b) = decide (a = b) := by
  unfold dList
  rw [PyData.eqv, eqv_map (fun (n : Nat) => PyData.int (n : Int)) fun x y => by
    rw [eqv_int, beq_dec]
    by_cases e : x = y
    · rw [e, decide_eq_true rfl, decide_eq_true rfl]
    · rw [decide_eq_false e, decide_eq_false (by omega)]]
/-! ### ports -/
def portV (p : Nat × Nat) : List V := [.int (p.1 : Int), .int (p.2 : Int)]
def dPort (p : Nat × Nat) : PyData := .tuple [.int (p.1 : Int), .int (p.2 : Int)]
def dPorts (ps : List (Nat × Nat)) : PyData := .list (ps.map dPort)
theorem shp_port (p : Nat × Nat) : Shp 1 (dPort p) := shp_tuple fun d hd => by
  rcases List.mem_cons.mp hd with e | hd
  · rw [e]; exact shp_int _
  · rw [List.mem_singleton.mp hd]; exact shp_int _
theorem eqv_port (p q : Nat × Nat) : PyData.eqv (dPort p) (dPort q) = decide (p = q) := by
  obtain ⟨a, b⟩ := p
  obtain ⟨c, d⟩ := q
  unfold dPort
  rw [PyData.eqv, PyData.eqvAll, PyData.eqvAll, PyData.eqvAll, eqv_int, eqv_int, beq_dec, beq_dec, Bool.and_true, Bool.eq_iff_iff, Bool.and_eq_true, decide_eq_true_eq, decide_eq_true_eq, decide_eq_true_eq, Prod.mk.injEq]
  show ((a : Int) = (c : Int) ∧ (b : Int) = (d : Int)) ↔ _
  omega
theorem shp_ports (ps : List (Nat × Nat)) : Shp 2 (dPorts ps) := shp_list (shp_map shp_port)
theorem eqv_ports (a b : List (Nat × Nat)) : PyData.eqv (dPorts a) (dPorts b) = decide (a = b) := by
  unfold dPorts
  rw [PyData.eqv, eqv_map dPort eqv_port]
theorem dp_paired {α : Type} {K : PySem.W.Frag} {H : Hp} (f : α → PyData) {F : Addr → α → Prop} (h : ∀ t x, F t x → Dp K H (.ref t) (f x)) : ∀ {ts : List Addr} {xs : List α}, Paired F ts xs → DpAll K H (ts.map V.ref) (xs.map f)
  | _, _, .nil => .nil
  | _, _, .cons r t => .cons (h _ _ r) (dp_paired f h t)
theorem dp_port {K : PySem.W.Frag} {H : Hp} {t : Addr} {p : Nat × Nat} (h : SqT K H t (portV p)) : Dp K H (.ref t) (dPort p) := .tup h (.cons (.int _) (.cons (.int _) .nil))
theorem dp_ports {K : PySem.W.Frag} {H : Hp} {a : Addr} {ts : List Addr} {ps : List (Nat × Nat)} (h : SqL K H a (ts.map V.ref)) (p : PairsAt K H ts ps) : Dp K H (.ref a) (dPorts ps) := .lst h (dp_paired dPort (fun _ _ z => dp_port z) p)
/-! ### lines -/
def dLine (l : Nat × Nat × Int) : PyData := .tuple [.int (l.1 : Int), .int (l.2.1 : Int), .int l.2.2]
def dLines (ls : List (Nat × Nat × Int)) : PyData := .list (ls.map dLine)
theorem shp_line (l : Nat × Nat × Int) : Shp 1 (dLine l) := shp_tuple fun d hd => by
  rcases List.mem_cons.mp hd with e | hd
  · rw [e]; exact shp_int _
  · rcases List.mem_cons.mp hd with e | hd
    · rw [e]; exact shp_int _
    · rw [List.mem_singleton.mp hd]; exact shp_int _
theorem eqv_line (p q : Nat × Nat × Int) : PyData.eqv (dLine p) (dLine q) = decide (p = q) := by
  obtain ⟨a, b, x⟩ := p
  obtain ⟨c, d, y⟩ := q
  unfold dLine
  rw [PyData.eqv, PyData.eqvAll, PyData.eqvAll, PyData.eqvAll, PyData.eqvAll, eqv_int, eqv_int, eqv_int, beq_dec, beq_dec, beq_dec, Bool.and_true, Bool.eq_iff_iff, Bool.and_eq_true, Bool.and_eq_true, decide_eq_true_eq, decide_eq_true_eq, decide_eq_true_eq, decide_eq_true_eq, Prod.mk.injEq, Prod.mk.injEq]
  show ((a : Int) = (c : Int) ∧ (b : Int) = (d : Int) ∧ x = y) ↔ _
  omega
theorem shp_lines (ls : List (Nat × Nat × Int)) : Shp 2 (dLines ls) := shp_list (shp_map shp_line)
theorem eqv_lines (a b : List (Nat × Nat × Int)) : PyData.eqv (dLines a) (dLines b) = decide (a = b) := by
  unfold dLines
  rw [PyData.eqv, eqv_map dLine eqv_line]
theorem dp_lines {K : PySem.W.Frag} {H : Hp} {a : Addr} {ts : List Addr} {ls : List (Nat × Nat × Int)} (h : SqL K H a (ts.map V.ref)) (p : LinesAt K H ts ls) : Dp K H (.ref a) (dLines ls) := .lst h (dp_paired dLine (fun _ _ z => .tup z (.cons (.int _) (.cons (.int _) (.cons (.int _) .nil)))) p)
end My
/-! min(xs) of a list of ports: one of them. No row. -/
namespace My
open PySem PySem.Spec PyProof.Rows L2 PySem.W
theorem alike_port (p q : Nat × Nat) : PySem.W.alike (dPort p) (dPort q) = true := by
  unfold dPort
  rw [PySem.W.alike, PySem.W.alikeAll, PySem.W.alikeAll, PySem.W.alikeAll, PySem.W.alike, PySem.W.alike]
  rfl
def rMinPorts (K : PySem.W.Frag) : List V → Hp → VK → Prop := fun vs H Q => ∃ (a : Addr) (ts : List Addr) (ps : List (Nat × Nat)), vs = [V.ref a] ∧ SqL K H a (ts.map V.ref) ∧ PairsAt K H ts ps ∧ ps ≠ [] ∧ ∀ t ∈ ts, Q (.ref t) H
section
variable {X : Cx}
theorem cr_minPorts (hc : X.calm = true) (hu : X.A.units + 64 < cLine) : CallR X (.builtin "min") (rMinPorts X.K) := by
  intro pins s σ H vs us Q I r h
  obtain ⟨a, ts, ps, rfl, hs, hp, hne, q⟩ := h
  obtain ⟨its, rv, it, _⟩ := I.list hs
  obtain ⟨u, rfl, ru⟩ := r.one
  cases (show u = Value.ref a from ru)
  have hd : DpAll X.K H (ts.map V.ref) (ps.map dPort) := dp_paired dPort (fun _ _ z => dp_port z) hp
  obtain ⟨as, hr⟩ := Dp.readsAll I _ _ its hd rv
  cases ps with
  | nil => exact absurd rfl hne
  | cons p ps =>
    have mem : ∀ z, z ∈ (dPort p :: ps.map dPort) → ∃ q, z = dPort q := fun z hz => by
      obtain ⟨q, _, e⟩ := List.mem_map.mp (show z ∈ (p :: ps).map dPort from hz)
      exact ⟨q, e.symm⟩
    refine min_list_data (x := dPort p) (xs := ps.map dPort) (I.ok.hd hc) it.isList (by simpa using hr) ⟨fun x hx y hy => ?_, fun x hx => ?_⟩ ?_ fun k v h' tk bs hv hr' hk => ?_
    · obtain ⟨m, rfl⟩ := mem x hx
      obtain ⟨m', rfl⟩ := mem y hy
      exact alike_port _ _
    · obtain ⟨m, rfl⟩ := mem x hx
      intro z
      cases z
    · have d0 : PyData.depthAll (dPort p :: ps.map dPort) ≤ 1 := (shp_all fun d hd => by
        obtain ⟨m, rfl⟩ := mem d hd
        exact shp_port m).2
      omega
    · have hv' : its[k]? = some v := by simpa using hv
      have hkl : k < its.length := (List.getElem?_eq_some_iff.mp hv').1
      have hkt : k < (ts.map V.ref).length := by rw [rv.length]; exact hkl
      obtain ⟨u, hu', ru'⟩ := rv.get (List.getElem?_eq_getElem hkt)
      rw [hv'] at hu'
      cases Option.some.inj hu'
      have : (ts.map V.ref)[k] = .ref (ts[k]'(by rw [List.length_map] at hkt; exact hkt)) := List.getElem_map ..
      rw [this] at ru'
      exact ⟨.ref _, H, I.kept hk, ru', q _ (List.getElem_mem _)⟩
end
end My
/-! list(zip(xs, ys)) of two lists. No row. -/
namespace Zl
open PySem
/-- the zip at n + 4, its two iterators at n and n + 1, its tuples at n + 2, n + 3; a list grows at n + 5 -/
structure ZSt (n u v : Nat) (xs ys : Array Value) (h : Heap) (i : Nat) : Prop where
  pr : IsPair h (n + 2) (.ref n) (.ref (n + 1))
  a : h.IsListIter n u i
  b : h.IsListIter (n + 1) v i
  lx : h.IsList u xs
  ly : h.IsList v ys
  big : n + 5 < h.objs.size
  st : (IsZip h (n + 4) (n + 2) (n + 3) .none ∧ ∃ p q, IsPair h (n + 3) p q) ∨ ∃ (T : Addr) (f : Bool) (o : Obj), IsZipHeld h (n + 4) (n + 2) (n + 3) T f ∧ n + 5 < T ∧ h.get? T = some o
theorem ZSt.keep {n u v : Nat} {xs ys : Array Value} {h g : Heap} {i : Nat} (Z : ZSt n u v xs ys h i) (hu : u < n) (hv : v < n) (k : ∀ c o, c ≠ n + 5 → h.get? c = some o → g.get? c = some o) (sz : n + 5 < g.objs.size) : ZSt n u v xs ys g i := by
  have n1 : ∀ m : Nat, m < n + 5 → m ≠ n + 5 := fun m e => Nat.ne_of_lt e
  refine ⟨k _ _ (n1 _ (by omega)) Z.pr, Z.a.at fun o e => k _ o (n1 _ (by omega)) e, Z.b.at fun o e => k _ o (n1 _ (by omega)) e, Z.lx.at fun o e => k _ o (n1 _ (by omega)) e, Z.ly.at fun o e => k _ o (n1 _ (by omega)) e, sz, ?_⟩
  rcases Z.st with ⟨e1, p, q, e2⟩ | ⟨T, f, o, e1, e2, e3⟩
  · exact .inl ⟨k _ _ (n1 _ (by omega)) e1, p, q, k _ _ (n1 _ (by omega)) e2⟩
  · exact .inr ⟨T, f, o, k _ _ (n1 _ (by omega)) e1, e2, k _ _ (Nat.ne_of_gt e2) e3⟩
section
variable {prog : Program} {w : World} {A : Around} {E : Value → Shared → Prop} {s : Shared} {n u v : Nat} {xs ys : Array Value} {i : Nat}
theorem zst_item {x y : Value} {Q : Option Value → Shared → Prop} (hu : u < n) (hv : v < n) (Z : ZSt n u v xs ys s.heap i) (hx : xs[i]? = some x) (hy : ys[i]? = some y)
    (hQ : ∀ g, ZSt n u v xs ys g (i + 1) → IsPair g s.heap.objs.size x y → g.objs.size = s.heap.objs.size + 1 → (∀ c o, (c < n ∨ n + 5 ≤ c) → s.heap.get? c = some o → g.get? c = some o) → Q (some (.ref s.heap.objs.size)) { s with heap := g }) :
    wpAny (model prog w) A (pyNext (.ref (n + 4))) Q E s := by
  have D := PySem.W.ktu_apart n u v hu hv
  have big := Z.big
  have nn : ∀ {a b : Nat}, a < b ∨ b < a → a ≠ b := fun h e => by omega
  rcases Z.st with ⟨e1, p, q, e2⟩ | ⟨T, f, o, e1, e2, e3⟩
  · refine wpAny_pyNext_zip_item D e1 Z.pr e2 Z.a Z.b Z.lx Z.ly hx hy fun g g1 g2 g3 g4 g5 g6 k => ?_
    have k' : ∀ c o, (c < n ∨ n + 5 ≤ c) → s.heap.get? c = some o → g.get? c = some o := fun c o hc e => k c o (nn (by omega)) (nn (by omega)) (nn (by omega)) (nn (by omega)) e
    refine hQ g ⟨k _ _ (nn (by omega)) (nn (by omega)) (nn (by omega)) (nn (by omega)) Z.pr, g3, g4, Z.lx.at fun o e => k' _ o (.inl hu) e, Z.ly.at fun o e => k' _ o (.inl hv) e, by omega, .inr ⟨s.heap.objs.size, false, _, g1, big, g5⟩⟩ g5 g6 k'
  · refine wpAny_pyNext_zip_item_held D e1 e3 Z.pr Z.a Z.b Z.lx Z.ly hx hy fun g g1 g3 g4 g5 g6 k => ?_
    have k' : ∀ c o, (c < n ∨ n + 5 ≤ c) → s.heap.get? c = some o → g.get? c = some o := fun c o hc e => k c o (nn (by omega)) (nn (by omega)) (nn (by omega)) e
    refine hQ g ⟨k _ _ (nn (by omega)) (nn (by omega)) (nn (by omega)) Z.pr, g3, g4, Z.lx.at fun o e => k' _ o (.inl hu) e, Z.ly.at fun o e => k' _ o (.inl hv) e, by omega, .inr ⟨T, true, o, g1, e2, k' _ _ (.inr (by omega)) e3⟩⟩ g5 g6 k'
theorem zst_end {Q : Option Value → Shared → Prop} (hh : A.handled = none) (hu : u < n) (hv : v < n) (Z : ZSt n u v xs ys s.heap i) (hx : xs[i]? = none ∨ ys[i]? = none)
    (hQ : ∀ g, (∀ c o, (c < n ∨ n + 5 ≤ c) → s.heap.get? c = some o → g.get? c = some o) → Q none { s with heap := g }) : wpAny (model prog w) A (pyNext (.ref (n + 4))) Q E s := by
  have D := PySem.W.ktu_apart n u v hu hv
  have nn : ∀ {a b : Nat}, a < b ∨ b < a → a ≠ b := fun h e => by omega
  rcases Z.st with ⟨e1, p, q, e2⟩ | ⟨T, f, o, e1, e2, e3⟩
  · exact wpAny_pyNext_zip_end hh D e1 Z.pr e2 Z.a Z.b Z.lx Z.ly hx fun g k => hQ g fun c o hc e => k c o (nn (by omega)) (nn (by omega)) (nn (by omega)) (nn (by omega)) e
  · exact wpAny_pyNext_zip_end_held hh D e1 e3 Z.pr Z.a Z.b Z.lx Z.ly hx fun g k => hQ g fun c o hc e => k c o (nn (by omega)) (nn (by omega)) (nn (by omega)) e
end
/-- the tuples given out so far -/
structure Got (n : Nat) (xs ys : Array Value) (h : Heap) (ts : List Addr) : Prop where
  up : ts.Pairwise (· < ·)
  hi : ∀ t ∈ ts, n + 5 < t
  at_ : ∀ (j : Nat) (t : Addr), ts[j]? = some t → ∃ x y, xs[j]? = some x ∧ ys[j]? = some y ∧ IsPair h t x y
theorem Got.in_ {n : Nat} {xs ys : Array Value} {h : Heap} {ts : List Addr} (G : Got n xs ys h ts) {t : Addr} (ht : t ∈ ts) : t < h.objs.size := by
  obtain ⟨j, hj⟩ := List.mem_iff_getElem?.mp ht
  obtain ⟨_, _, _, _, e⟩ := G.at_ j t hj
  exact Heap.lt_size e
abbrev LstObj (acc : Array Value) (c : Nat) : Obj := { cls := .type "list", dict := none, data := .seq acc c, slots := #[] }
section
variable {prog : Program} {w : World} {A : Around} {s : Shared} {R : Result → Shared → Prop} {n u v : Nat} {xs ys : Array Value}
theorem loop {m : Nat} (hm : m = min xs.size ys.size) (hh : A.handled = none) (hu : u < n) (hv : v < n) (hmm : m ≤ sizeLine) (res : Value) {h₁ : Heap}
    (hR : ∀ g tk acc c ts, (∀ b o, b < n → h₁.get? b = some o → g.get? b = some o) → g.get? (n + 5) = some (LstObj acc c) → ts.length = m → Got n xs ys g ts → acc.toList = ts.map Value.ref → R (.ok (.ret res)) { s with heap := g, toks := tk }) :
    ∀ (k i : Nat) (h : Heap) (tk c : Nat) (acc : Array Value) (ts : List Addr), m - i = k → i ≤ m → ZSt n u v xs ys h i → (∀ b o, b < n → h₁.get? b = some o → h.get? b = some o) → h.get? (n + 5) = some (LstObj acc c) → acc.toList = ts.map Value.ref → ts.length = i → Got n xs ys h ts →
      codeAny (model prog w) A (.builtin "list.extend.loop" ⟨[.ref (n + 5), .ref (n + 4), res], []⟩) R { s with heap := h, toks := tk } := by
  intro k
  induction k with
  | zero =>
    intro i h tk c acc ts hk hi Z keep hS ha hl G
    refine codeAny_builtin PySem.F.entry_extend_loop ?_
    rw [Around.under_plainId PySem.F.plain_extend_loop _]
    refine wpAny_bind (zst_end (s := { s with heap := h, toks := tk }) (A := A.in1) hh hu hv Z ?_ fun g kk => ?_)
    · rcases Nat.le_total xs.size ys.size with z | z
      · exact .inl (Array.getElem?_eq_none (by omega))
      · exact .inr (Array.getElem?_eq_none (by omega))
    · refine wpAny_pure (hR g tk acc c ts (fun b o hb e => kk b o (.inl hb) (keep b o hb e)) (kk _ _ (.inr (Nat.le_refl _)) hS) (by omega) ⟨G.up, G.hi, fun j t hj => ?_⟩ ha)
      obtain ⟨x, y, e1, e2, e3⟩ := G.at_ j t hj
      exact ⟨x, y, e1, e2, kk _ _ (.inr (Nat.le_of_lt (G.hi t (List.mem_of_getElem? hj)))) e3⟩
  | succ k ih =>
    intro i h tk c acc ts hk hi Z keep hS ha hl G
    have h1 : i < xs.size := by omega
    have h2 : i < ys.size := by omega
    have sz : acc.size = i := by rw [← Array.length_toList, ha, List.length_map, hl]
    have big := Z.big
    refine codeAny_builtin PySem.F.entry_extend_loop ?_
    rw [Around.under_plainId PySem.F.plain_extend_loop _]
    refine wpAny_bind (zst_item (s := { s with heap := h, toks := tk }) hu hv Z (Array.getElem?_eq_getElem h1) (Array.getElem?_eq_getElem h2) fun g Z' hp hz kk => ?_)
    dsimp only at hp hz kk ⊢
    have hS' := kk _ _ (.inr (Nat.le_refl _)) hS
    have up : ∀ b o, b ≠ n + 5 → g.get? b = some o → (g.update (n + 5) (Obj.mapSeq (·.push (Value.ref h.objs.size)))).get? b = some o := fun b o hb e => (Heap.get?_update_other _ _ (Ne.symm hb)).trans e
    have at5 : (g.update (n + 5) (Obj.mapSeq (·.push (Value.ref h.objs.size)))).get? (n + 5) = some (LstObj (acc.push (Value.ref h.objs.size)) _) := Heap.get?_update_self _ hS' rfl
    refine wpAny_bind (wpAny_updateSeq hS' rfl (wpAny_pure ⟨plainId_quiet PySem.F.plain_extend_loop _, ih (i + 1) _ tk _ (acc.push (Value.ref h.objs.size)) (ts ++ [h.objs.size]) (by omega) (by omega)
      (Z'.keep hu hv up (Heap.lt_size at5)) (fun b o hb e => up b o (by omega) (kk b o (.inl hb) (keep b o hb e))) at5 (by rw [Array.toList_push, ha, List.map_append]; rfl) (by rw [List.length_append, hl]; rfl) ⟨?_, ?_, ?_⟩⟩) (by rw [sz]; omega) (by show (acc.push _).size ≤ sizeLine + 1; rw [Array.size_push, sz]; omega))
    · refine List.pairwise_append.mpr ⟨G.up, List.pairwise_singleton _ _, fun t ht b hb => ?_⟩
      rw [List.mem_singleton.mp hb]
      exact G.in_ ht
    · intro t ht
      rcases List.mem_append.mp ht with z | z
      · exact G.hi t z
      · rw [List.mem_singleton.mp z]; exact big
    · intro j t hj
      by_cases hjl : j < ts.length
      · rw [List.getElem?_append_left hjl] at hj
        obtain ⟨x, y, e1, e2, e3⟩ := G.at_ j t hj
        have ht := G.hi t (List.mem_of_getElem? hj)
        exact ⟨x, y, e1, e2, up _ _ (Nat.ne_of_gt ht) (kk _ _ (.inr (Nat.le_of_lt ht)) e3)⟩
      · have hj2 : j = ts.length := by
          have := (List.getElem?_eq_some_iff.mp hj).1
          rw [List.length_append, List.length_singleton] at this
          omega
        subst hj2
        have ht : h.objs.size = t := by simpa using hj
        subst ht
        exact ⟨_, _, by rw [hl]; exact Array.getElem?_eq_getElem h1, by rw [hl]; exact Array.getElem?_eq_getElem h2, up _ _ (Nat.ne_of_gt big) hp⟩
theorem no_len : typeLookup (.type "zip") "__len__" = pure none := by rw [typeLookup_type, builtinLookup_eq_fast]; kernel_rfl
theorem no_hint : typeLookup (.type "zip") "__length_hint__" = pure none := by rw [typeLookup_type, builtinLookup_eq_fast]; kernel_rfl
end
section
variable {prog : Program} {w : World} {A : Around} {E : Value → Shared → Prop} {s : Shared} {u v : Nat} {xs ys : Array Value}
theorem hint {z : Addr} (hT : s.TypeIs (.ref z) "zip") {Q : Bool → Shared → Prop} (h : Q true s) : wpAny (model prog w) A (Builtin.List.listLengthHint (.ref z)) Q E s := by
  unfold Builtin.List.listLengthHint
  refine wpAny_bind (wpAny_specialOf hT no_len ?_)
  show wpAny _ _ (specialOf (Value.ref z) (Str.ofString "__length_hint__") >>= _) _ _ _
  exact wpAny_bind (wpAny_specialOf hT no_hint (wpAny_pure h))
/-- list(z), z the zip that was just made of the lists at u and v -/
theorem call_list {n : Nat} {Q : Value → Shared → Prop} (hh : A.handled = none) (hsz : s.heap.objs.size = n + 5) (hu : u < n) (hv : v < n) (hz : IsZip s.heap (n + 4) (n + 2) (n + 3) .none) (hp : IsPair s.heap (n + 2) (.ref n) (.ref (n + 1))) (hq : ∃ p q, IsPair s.heap (n + 3) p q)
    (ha : s.heap.IsListIter n u 0) (hb : s.heap.IsListIter (n + 1) v 0) (hx : s.heap.IsList u xs) (hy : s.heap.IsList v ys) (hmm : min xs.size ys.size ≤ sizeLine)
    (hQ : ∀ g tk acc c ts, (∀ b o, b < n → s.heap.get? b = some o → g.get? b = some o) → g.get? (n + 5) = some (LstObj acc c) → ts.length = min xs.size ys.size → Got n xs ys g ts → acc.toList = ts.map Value.ref → Q (.ref (n + 5)) { s with heap := g, toks := tk }) :
    wpAny (model prog w) A (call (.type "list") [.ref (n + 4)]) Q E s := by
  refine callType_codes (Q₁ := fun obj s₁ => obj = .ref (n + 5) ∧ s₁ = { s with heap := s.heap.push (LstObj #[] 0) }) PySem.F.called_list (PySem.F.typeCall_list_1 _) PySem.F.entry_list_init (code_list_new _ ⟨by rw [hsz], rfl⟩) fun obj s₁ e => ?_
  obtain ⟨rfl, rfl⟩ := e
  have hS : (s.heap.push (LstObj #[] 0)).get? (n + 5) = some (LstObj #[] 0) := by rw [← hsz]; exact Heap.get?_push_size _ rfl
  have old : ∀ b o, s.heap.get? b = some o → (s.heap.push (LstObj #[] 0)).get? b = some o := fun b o e => Heap.get?_push_of_some _ e
  refine ⟨⟨_, hS, rfl⟩, PySem.F.args_list_init_2 _ _, ?_⟩
  show wpAny _ _ (Builtin.List.listItems (.ref (n + 5)) >>= _) _ _ _
  refine wpAny_bind ?_
  unfold Builtin.List.listItems
  refine wpAny_bind (wpAny_seqItems hS rfl (wpAny_pure ?_))
  show wpAny _ _ (updateSeq (n + 5) (fun _ => #[]) >>= fun _ => letGo (#[] : Array Value).toList.reverse >>= fun _ => Builtin.List.listExtendWith (.ref (n + 5)) (.ref (n + 4)) .none) _ _ _
  refine wpAny_bind (wpAny_updateSeq hS rfl ?_)
  have hS2 := Heap.get?_update_self (Obj.mapSeq (fun _ => (#[] : Array Value))) hS rfl
  have old2 : ∀ b o, b ≠ n + 5 → s.heap.get? b = some o → ((s.heap.push (LstObj #[] 0)).update (n + 5) (Obj.mapSeq (fun _ => (#[] : Array Value)))).get? b = some o := fun b o hb e => (Heap.get?_update_other _ _ (Ne.symm hb)).trans (old b o e)
  generalize ((s.heap.push (LstObj #[] 0)).update (n + 5) (Obj.mapSeq (fun _ => (#[] : Array Value)))) = h2 at hS2 old2 ⊢
  refine wpAny_bind (wpAny_letGo ?_)
  unfold Builtin.List.listExtendWith
  have ne4 : n + 4 ≠ n + 5 := by omega
  have hz2 : IsZip h2 (n + 4) (n + 2) (n + 3) .none := old2 _ _ ne4 hz
  refine wpAny_bind (wpAny_typeOf (T := "zip") ⟨_, hz2, rfl⟩ ?_)
  have q1 : Builtin.List.listSameRef (.ref (n + 5)) (.ref (n + 4)) = false := by simp [Builtin.List.listSameRef]
  have q2 : (Value.type "zip" == Value.type "list") = false := by decide
  have q3 : (Value.type "zip" == Value.type "tuple") = false := by decide
  simp only [q1, q2, q3, Bool.or_false, Bool.false_eq_true, if_false]
  refine wpAny_bind (wpAny_pyIter_zip hz2 (wpAny_bind (wpAny_holding (hint ⟨_, hz2, rfl⟩ ?_))))
  simp only [Bool.true_or, if_true]
  refine wpAny_bind (wpAny_rule ?_)
  refine wpAny_bind ?_
  show wpAny _ _ (updateSeq (n + 5) (·.push .none) >>= fun _ => updateSeq (n + 5) (·.pop)) _ _ _
  refine wpAny_bind (wpAny_updateSeq hS2 rfl ?_)
  have hS3 := Heap.get?_update_self (Obj.mapSeq (·.push Value.none)) hS2 rfl
  refine wpAny_updateSeq (hz := by seq_fits) hS3 rfl ?_
  have hS4 := Heap.get?_update_self (Obj.mapSeq (·.pop)) hS3 rfl
  have old4 : ∀ b o, b ≠ n + 5 → s.heap.get? b = some o → ((h2.update (n + 5) (Obj.mapSeq (·.push Value.none))).update (n + 5) (Obj.mapSeq (·.pop))).get? b = some o := fun b o hb e => (Heap.get?_update_other _ _ (Ne.symm hb)).trans ((Heap.get?_update_other _ _ (Ne.symm hb)).trans (old2 b o hb e))
  generalize ((h2.update (n + 5) (Obj.mapSeq (·.push Value.none))).update (n + 5) (Obj.mapSeq (·.pop))) = h4 at hS4 old4 ⊢
  have nn : ∀ b, b < n + 5 → b ≠ n + 5 := fun b e => Nat.ne_of_lt e
  obtain ⟨p, q, hq⟩ := hq
  refine wpAny_pure ⟨plainId_quiet PySem.F.plain_extend_loop _, loop (A := A.in1) (s := s) (R := wants (fun r s₂ => r = .none ∧ Q (.ref (n + 5)) s₂) E) (h₁ := s.heap) (m := min xs.size ys.size) rfl hh hu hv hmm .none (fun g tk acc c ts k e1 e2 e3 e4 => ⟨rfl, hQ g tk acc c ts k e1 e2 e3 e4⟩) (min xs.size ys.size) 0 h4 s.toks _ #[] [] (Nat.sub_zero _) (Nat.zero_le _)
    ⟨old4 _ _ (nn _ (by omega)) hp, ha.at fun o e => old4 _ o (nn _ (by omega)) e, hb.at fun o e => old4 _ o (nn _ (by omega)) e, hx.at fun o e => old4 _ o (nn _ (by omega)) e, hy.at fun o e => old4 _ o (nn _ (by omega)) e, Heap.lt_size hS4, .inl ⟨old4 _ _ ne4 hz, p, q, old4 _ _ (nn _ (by omega)) hq⟩⟩
    (fun b o hb e => old4 b o (nn _ (by omega)) e) hS4 rfl rfl ⟨List.Pairwise.nil, (fun t ht => by cases ht), fun j t hj => by simp at hj⟩⟩
end
end Zl
/-! list(zip(xs, ys)) as a rule of the hand layer. No row. -/
namespace Zl
open PySem PySem.Spec PyProof.Rows L2
def lay : Hp → List Addr → List (V × V) → Hp
  | H, t :: ts, z :: zs => lay (upd H t (.tup [z.1, z.2])) ts zs
  | H, _, _ => H
theorem lay_out {b : Addr} : ∀ (ts : List Addr) (zs : List (V × V)) (H : Hp), b ∉ ts → lay H ts zs b = H b
  | [], _, _, _ => rfl
  | _ :: _, [], _, _ => rfl
  | t :: ts, z :: zs, H, h => by
    rw [List.mem_cons, not_or] at h
    show lay (upd H t _) ts zs b = H b
    rw [lay_out ts zs _ h.2, upd_ne h.1]
theorem lay_in : ∀ (ts : List Addr) (zs : List (V × V)) (H : Hp), ts.length = zs.length → ts.Nodup → Paired (fun (t : Addr) (z : V × V) => lay H ts zs t = some (.tup [z.1, z.2])) ts zs
  | [], [], _, _, _ => .nil
  | [], _ :: _, _, h, _ => by cases h
  | _ :: _, [], _, h, _ => by cases h
  | t :: ts, z :: zs, H, h, hn => by
    rw [List.nodup_cons] at hn
    refine .cons ?_ (lay_in ts zs (upd H t (.tup [z.1, z.2])) (Nat.succ.inj h) hn.2)
    show lay (upd H t (.tup [z.1, z.2])) ts zs t = _
    rw [lay_out ts zs _ hn.1, upd_same]
theorem refs_vals : ∀ ts : List Addr, Vals (ts.map V.ref) (ts.map Value.ref)
  | [] => .nil
  | _ :: r => .cons rfl (refs_vals r)
theorem pair_mem {F : Addr → V × V → Prop} : ∀ {ts : List Addr} {zs : List (V × V)}, Paired F ts zs → ∀ {t : Addr}, t ∈ ts → ∃ (j : Nat) (z : V × V), ts[j]? = some t ∧ zs[j]? = some z ∧ F t z
  | _, _, .cons h r, t, ht => by
    rcases List.mem_cons.mp ht with e | ht
    · rw [e]; exact ⟨0, _, rfl, rfl, h⟩
    · obtain ⟨j, z, e1, e2, e3⟩ := pair_mem r ht
      exact ⟨j + 1, z, e1, e2, e3⟩
def tListZip (K : PySem.W.Frag) (ta : TA) : TE := fun σ H Q => ta σ H fun vs H1 => ∃ (a b : Addr) (xs ys : List V), vs = [.ref a, .ref b] ∧ SqL K H1 a xs ∧ SqL K H1 b ys ∧
  ∀ (H' : Hp) (p : Addr) (ts : List Addr), Same H1 H' → H1 p = none → H' p = some (.lst (ts.map V.ref)) → Paired (fun (t : Addr) (z : V × V) => H' t = some (.tup [z.1, z.2])) ts (xs.zip ys) → Q (.ref p) H'
section
variable {X : Cx}
theorem laid {pins : List (Addr × Obj)} {σ : L2.St} {H : Hp} {s : Shared} {g : Heap} {tk : Nat} {xs ys : List V} {us vs : List Value} {acc : Array Value} {c : Nat} {ts : List Addr} (I : Inv X pins σ H s) (hz : xs.length ≤ sizeLine) (rx : Vals xs us) (ry : Vals ys vs)
    (k : ∀ b o, b < s.heap.objs.size → s.heap.get? b = some o → g.get? b = some o) (hS : g.get? (s.heap.objs.size + 5) = some (LstObj acc c)) (hl : ts.length = min us.toArray.size vs.toArray.size) (G : Got s.heap.objs.size us.toArray vs.toArray g ts) (ha : acc.toList = ts.map Value.ref) :
    ∃ H' : Hp, Same H H' ∧ H (s.heap.objs.size + 5) = none ∧ H' (s.heap.objs.size + 5) = some (.lst (ts.map V.ref)) ∧ Paired (fun (t : Addr) (z : V × V) => H' t = some (.tup [z.1, z.2])) ts (xs.zip ys) ∧ Inv X pins σ H' { s with heap := g, toks := tk } := by
  have lx : xs.length = us.length := rx.length
  have ly : ys.length = vs.length := ry.length
  have lz : ts.length = (xs.zip ys).length := by rw [List.length_zip, lx, ly, hl, List.size_toArray, List.size_toArray]
  have nd : ts.Nodup := G.up.imp fun h => Nat.ne_of_lt h
  have pS : s.heap.objs.size + 5 ∉ ts := fun m => Nat.lt_irrefl _ (G.hi _ m)
  have new : ∀ {b : Addr}, s.heap.objs.size ≤ b → H b = none := fun h => I.hok.fresh h
  have gt : ∀ t ∈ ts, s.heap.objs.size ≤ t := fun t m => by have := G.hi t m; omega
  have old : ∀ b o, s.heap.get? b = some o → b ∉ ts ∧ b ≠ s.heap.objs.size + 5 ∧ g.get? b = some o := fun b o e => by
    have lt : b < s.heap.objs.size := Heap.lt_size e
    exact ⟨fun m => absurd (gt b m) (Nat.not_le.mpr lt), Nat.ne_of_lt (Nat.lt_of_lt_of_le lt (Nat.le_add_right _ _)), k b o lt e⟩
  have inn := lay_in ts (xs.zip ys) (upd H (s.heap.objs.size + 5) (.lst (ts.map V.ref))) lz nd
  have out : ∀ b, b ∉ ts → b ≠ s.heap.objs.size + 5 → lay (upd H (s.heap.objs.size + 5) (.lst (ts.map V.ref))) ts (xs.zip ys) b = H b := fun b h1 h2 => by rw [lay_out ts _ _ h1, upd_ne h2]
  have sm : Same H (lay (upd H (s.heap.objs.size + 5) (.lst (ts.map V.ref))) ts (xs.zip ys)) := fun b o e => by
    rw [out b (fun m => by rw [new (gt b m)] at e; cases e) fun z => by rw [z, new (Nat.le_add_right _ _)] at e; cases e]
    exact e
  have eS : lay (upd H (s.heap.objs.size + 5) (.lst (ts.map V.ref))) ts (xs.zip ys) (s.heap.objs.size + 5) = some (.lst (ts.map V.ref)) := by rw [lay_out ts _ _ pS, upd_same]
  generalize lay (upd H (s.heap.objs.size + 5) (.lst (ts.map V.ref))) ts (xs.zip ys) = H' at inn out sm eS
  have kg : ∀ b o, s.heap.get? b = some o → g.get? b = some o := fun b o e => (old b o e).2.2
  have un : Un (frs X.stack) [] H H' s.heap g :=
    { keep := fun b o q _ _ _ => kg b o q, slot := fun b o q _ _ _ => ⟨o.slots, kg b o q⟩, free := fun b o q h _ => by rw [out b (old b o q).1 (old b o q).2.1]; exact h,
      there := fun b o q _ => ⟨o, kg b o q⟩, tups := fun b _ q => sm b _ q, frzs := fun b _ _ q => sm b _ q, tbls := fun b ps q => ⟨#[], by rw [sm b _ q, Array.append_empty]⟩ }
  have hok : HOk X.prog X.w H' g := fun b u q => by
    by_cases hb : b ∈ ts
    · obtain ⟨j, z, e1, e2, e3⟩ := pair_mem inn hb
      rw [e3] at q
      cases q
      obtain ⟨x, y, f1, f2, f3⟩ := G.at_ j b e1
      obtain ⟨w1, w2⟩ := List.getElem?_zip_eq_some.mp e2
      obtain ⟨ux, g1, g2⟩ := rx.get w1
      obtain ⟨uy, g3, g4⟩ := ry.get w2
      have g1' : us.toArray[j]? = some ux := by simpa using g1
      have g3' : vs.toArray[j]? = some uy := by simpa using g3
      rw [f1] at g1'
      rw [f2] at g3'
      cases g1'
      cases g3'
      exact ⟨by show 2 ≤ sizeLine; decide, [x, y], .cons g2 (.cons g4 .nil), ⟨_, f3, rfl, _, rfl⟩⟩
    · by_cases h5 : b = s.heap.objs.size + 5
      · subst h5
        rw [eS] at q
        cases q
        refine ⟨by rw [List.length_map, lz, List.length_zip]; omega, acc.toList, c, by rw [ha]; exact refs_vals ts, ?_⟩
        rw [Array.toArray_toList]
        exact hS
      · rw [out b hb h5] at q
        exact (I.hok b u q).stay (fun d v _ y => kg d v y) (fun d y => sm d _ y) fun d _ y => sm d _ y
  exact ⟨H', sm, new (Nat.le_add_right _ _), eS, inn, I.call' (ch := []) rfl un hok I.bare fun b z => by cases z⟩
theorem pe_listZip {e1 e2 : Expr} {ta : TA} {p q cpos pos : Pos} (hc : X.calm = true) (ha : PA X [e1, e2] ta) (hg : Gl X "list") (hm : X.mg "list" = none) (hgz : Gl X "zip") (hmz : X.mg "zip" = none)
    (h1 : starEach [.Call (.Name "zip" q) [e1, e2] [] cpos] X.env = (false, eval (.Call (.Name "zip" q) [e1, e2] [] cpos) X.env) :: starEach [] X.env := by rfl)
    (h2 : starEach [e1, e2] X.env = (false, eval e1 X.env) :: starEach [e2] X.env := by rfl) (h3 : (backTo cpos (starEach [e2] X.env)).any (·.1) = false := by rfl) :
    PE X (.Call (.Name "list" p) [.Call (.Name "zip" q) [e1, e2] [] cpos] [] pos) (tListZip X.K ta) := by
  refine ⟨fun pins s σ H Q I h => ?_⟩
  refine wpAny_Call_Name_kw (ld_blt I hg hm PyProof.Rows.boot_list ?_)
  refine PyProof.Rows.callWith_type1 ?_ h1 rfl
  rw [h1]
  refine Calls.spliced_cons ?_
  refine Call_ (ld_blt I hgz hmz PyProof.Rows.boot_zip (PyProof.Rows.callWith_type1 (thn (ha.run cpos pins s σ H _ I h) fun us s1 ⟨vs, H1, I1, r1, z⟩ => ?_) h2 h3))
  obtain ⟨a, b, xs, ys, rfl, hx, hy, z⟩ := z
  cases r1 with
  | cons r rr =>
    cases rr with
    | cons r' rr =>
      cases rr
      cases r
      cases r'
      obtain ⟨its, rx, px, lx⟩ := I1.list hx
      obtain ⟨jts, ry, py, ly⟩ := I1.list hy
      refine call_zip_2 px.isList py.isList fun g hz hTI hTO i1 i2 hsz hk => ?_
      refine Calls.spliced_nil ?_
      have lim : min its.toArray.size jts.toArray.size ≤ sizeLine := by
        have e : its.length = xs.length := rx.length.symm
        rw [List.size_toArray, e]
        exact Nat.le_trans (Nat.min_le_left _ _) lx
      refine call_list (n := s1.heap.objs.size) (I1.ok.hd hc) hsz px.lt py.lt hz hTI ⟨_, _, hTO⟩ i1 i2 (px.isList.at fun o e => hk _ o e) (py.isList.at fun o e => hk _ o e) lim fun g' tk acc c ts k e1 e2 G e4 => ?_
      obtain ⟨H', q1, q2, q3, q4, J⟩ := laid (tk := tk) I1 lx rx ry (fun b o lt e => k b o lt (hk b o e)) e1 e2 G e4
      exact ⟨.ref _, H', J, rfl, z H' _ ts q1 q2 q3 q4⟩
end
end Zl
/-! == of two dicts whose keys are tuples and whose values are ints. No row. -/
namespace Dq
open PySem PySem.Spec PyProof.Rows L2
section
variable {prog : Program} {w : World} {K : Type} [DecidableEq K] {knd : HeapKind prog w K} {A : Around} {E : Value → Shared → Prop} {s : Shared}
theorem pairs_same {nm : String} {a b : Addr} {xa xb : List (K × Addr × Value)} {g : K → Bool} {Q : Bool → Shared → Prop} (hu : knd.room A) (sa : (a == sysModules) = false) (sb : (b == sysModules) = false)
    (da : s.heap.DictOfH knd a xa) (db : s.heap.DictOfH knd b xb) (g0 : ∀ x ∈ xa, atKey xb x.1 = none → g x.1 = false) (g1 : ∀ x ∈ xa, ∀ p, atKey xb x.1 = some p → SeqAt.EqAt A s x.2.2 p.2 (g x.1))
    (h : Q (xa.length == xb.length && xa.all fun x => g x.1) s) : wpAny (model prog w) A (Builtin.Dict.samePairs nm a b) Q E s := by
  obtain ⟨oa, ea, pa, ha, _, ta, la, ia, na⟩ := da
  obtain ⟨ob, eb, pb, hb, _, tb, lb, ib, nb⟩ := db
  have za : ea.size = xa.length := size_of_entries la
  have zb : eb.size = xb.length := size_of_entries lb
  unfold Builtin.Dict.samePairs Builtin.Dict.showsAll
  rw [if_neg (by rw [sa]; exact Bool.false_ne_true : ¬ (a == sysModules) = true), if_neg (by rw [sb]; exact Bool.false_ne_true : ¬ (b == sysModules) = true)]
  refine wpAny_bind (wpAny_pure (wpAny_bind (wpAny_pure (wpAny_bind (wpAny_dictEntries ha ta ?_)))))
  dsimp only
  refine wpAny_bind (wpAny_dictEntries hb tb ?_)
  by_cases hs : ea.size = eb.size
  case neg =>
    rw [if_pos (by simpa using hs)]
    have e : (xa.length == xb.length) = false := by rw [← za, ← zb]; simpa using hs
    rw [e, Bool.false_and] at h
    exact wpAny_bind (wpAny_rule (wpAny_pure h))
  case pos =>
    have e : (xa.length == xb.length) = true := by rw [← za, ← zb]; simpa using hs
    rw [e, Bool.true_and] at h
    rw [if_neg (by rw [hs]; simp)]
    refine wpAny_bind (wpAny_dictEpoch ha ta (wpAny_bind ?_))
    rw [Std.Legacy.Range.forIn_eq_forIn_range']
    simp only [Std.Legacy.Range.size, Nat.sub_zero, Nat.add_sub_cancel, Nat.div_one]
    refine wpAny_forIn_list _ (fun rest q s' => s' = s ∧ q = (none, ()) ∧ ∃ i, rest = List.range' i (ea.size - i) ∧ i ≤ ea.size ∧ ((xa.take i).all fun x => g x.1) = true) _ ?_ ?_ _ _ ⟨rfl, rfl, 0, by simp, Nat.zero_le _, rfl⟩
    · rintro x rest q s' ⟨rfl, rfl, i, hr, hi, hall⟩
      have lt : i < ea.size := by
        rcases Nat.lt_or_ge i ea.size with z | z
        · exact z
        · rw [Nat.sub_eq_zero_of_le z] at hr; cases hr
      obtain ⟨rfl, hrest⟩ : x = i ∧ rest = List.range' (i + 1) (ea.size - (i + 1)) := by
        rw [show ea.size - i = (ea.size - (i + 1)) + 1 by omega, List.range'_succ] at hr
        exact ⟨(List.cons.inj hr).1, (List.cons.inj hr).2⟩
      have lx : x < xa.length := by omega
      have ex : xa[x]? = some xa[x] := List.getElem?_eq_getElem lx
      have ee : ea[x]? = some (entryOfKey knd xa[x]) := by rw [entry_at la x, ex]; rfl
      have mx : xa[x] ∈ xa := List.getElem_mem lx
      refine wpAny_bind (wpAny_dictEntries ha ta ?_)
      rw [ee]
      have tk : xa.take (x + 1) = xa.take x ++ [xa[x]] := by rw [List.take_add_one, ex]; rfl
      have bad : g xa[x].1 = false → (xa.all fun x => g x.1) = false := fun z => by
        rw [List.all_eq_false]
        exact ⟨_, mx, by rw [z]; exact Bool.false_ne_true⟩
      refine wpAny_bind (wpAny_holding (wpAny_bind (wpAny_dictFind_heap hu (ia _ mx) hb tb lb ib nb (fun hno => ?_) fun j p hj => ?_)))
      · have z := g0 _ mx (atKey_none_of_get hno)
        rw [bad z] at h
        refine wpAny_pure ?_
        show wpAny _ _ (if (!false) = true then _ else _) _ _ _
        rw [if_pos (show (!false) = true from rfl)]
        exact wpAny_pure (wpAny_pure h)
      · have kj := atKey_of_get nb hj
        have ej : eb[j]? = some (entryOfKey knd (xa[x].1, p)) := by rw [entry_at lb j, hj]; rfl
        refine wpAny_bind (wpAny_dictEntries hb tb ?_)
        rw [ej]
        refine wpAny_holding (g1 _ mx p kj prog w _ _ ?_)
        cases ge : g xa[x].1 with
        | false =>
          rw [bad ge] at h
          show wpAny _ _ (if (!false) = true then _ else _) _ _ _
          rw [if_pos (show (!false) = true from rfl)]
          exact wpAny_pure (wpAny_pure h)
        | true =>
          show wpAny _ _ (if (!true) = true then _ else _) _ _ _
          rw [if_neg (show ¬ (!true) = true from Bool.false_ne_true)]
          refine wpAny_bind (wpAny_dictEpoch ha ta ?_)
          rw [if_neg (show ¬ (pa != pa) = true by simp)]
          refine wpAny_pure ⟨rfl, rfl, x + 1, hrest, lt, ?_⟩
          rw [tk, List.all_append, hall]
          simpa using ge
    · rintro q s' ⟨rfl, rfl, i, hr, hi, hall⟩
      have ei : i = ea.size := by
        rcases Nat.lt_or_ge i ea.size with z | z
        · rw [show ea.size - i = (ea.size - (i + 1)) + 1 by omega, List.range'_succ] at hr; cases hr
        · omega
      rw [ei, za, List.take_length] at hall
      rw [hall] at h
      exact wpAny_pure h
theorem dicts_eq {a b : Addr} {xa xb : List (K × Addr × Value)} {g : K → Bool} {Q : Value → Shared → Prop} (hu : A.units < cLine) (hroom : knd.room A.in1) (sa : (a == sysModules) = false) (sb : (b == sysModules) = false)
    (da : s.heap.DictOfH knd a xa) (db : s.heap.DictOfH knd b xb) (g0 : ∀ x ∈ xa, atKey xb x.1 = none → g x.1 = false) (g1 : ∀ x ∈ xa, ∀ p, atKey xb x.1 = some p → SeqAt.EqAt A.in1 s x.2.2 p.2 (g x.1))
    (h : Q (.bool (xa.length == xb.length && xa.all fun x => g x.1)) s) : wpAny (model prog w) A (compareOp .Eq (.ref a) (.ref b)) Q E s := by
  have ea := da.typeIs
  have eb := db.typeIs
  refine wpAny_richCompare_same_room (op := .Eq) ea eb F.slot_dict_eq (wpAny_call_entry F.slot_dict_eq ea F.entry_dict_eq ?_ (F.args_dict_eq_2 _ _)) hu
  refine wpAny_bind (m := Builtin.Dict.dictSlotArgs "__eq__" ⟨[.ref a, .ref b], []⟩) ?_
  unfold Builtin.Dict.dictSlotArgs
  refine wpAny_bind (wpAny_notOrdered_dict ea ?_)
  refine wpAny_pure (a := (Value.ref a, Value.ref b)) (wpAny_bind (wpAny_isInstance (T := "dict") eb F.sub_dict_dict ?_))
  simp only [Bool.not_true, Bool.false_eq_true, if_false]
  refine wpAny_bind (wpAny_pure (wpAny_bind (wpAny_pure (wpAny_bind (pairs_same hroom sa sb da db g0 g1 (wpAny_pure ⟨_, rfl, (fun z => by cases z), ?_⟩))))))
  simpa using h
end
/-- the values are ints -/
def IntVals (ks : List (List Key × V)) : Prop := ∀ p ∈ ks, ∃ i : Int, p.2 = .int i
def sameD (ka kb : List (List Key × V)) : Bool := ka.length == kb.length && ka.all fun p => decide (valV kb p.1 = valV ka p.1)
def rEqT : R2 := fun x y H Q => ∃ (a b : Addr) (ka kb : List (List Key × V)), x = .ref a ∧ y = .ref b ∧ H a = some (.dT ka) ∧ H b = some (.dT kb) ∧ IntVals ka ∧ IntVals kb ∧ (ka.map (·.1)).Nodup ∧ Q (.bl (sameD ka kb)) H
theorem kt_mem {H : Hp} : ∀ {ks : List (List Key × V)} {xs : List (List Key × Addr × Value)}, KT H ks xs → ∀ {x : List Key × Addr × Value}, x ∈ xs → ∃ p ∈ ks, p.1 = x.1 ∧ RelV p.2 x.2.2
  | _, _, .cons h r, x, hx => by
    rcases List.mem_cons.mp hx with e | hx
    · rw [e]; exact ⟨_, List.mem_cons_self, h.1, h.2.2⟩
    · obtain ⟨p, h1, h2⟩ := kt_mem r hx
      exact ⟨p, List.mem_cons_of_mem _ h1, h2⟩
theorem kt_all {H : Hp} {f : List Key → Bool} : ∀ {ks : List (List Key × V)} {xs : List (List Key × Addr × Value)}, KT H ks xs → (xs.all fun x => f x.1) = ks.all fun p => f p.1
  | _, _, .nil => rfl
  | _, _, .cons h r => by rw [List.all_cons, List.all_cons, kt_all r, h.1]
theorem valV_mem {kvs : List (List Key × V)} {k : List Key} {v : V} (h : valV kvs k = some v) : ∃ p ∈ kvs, p.2 = v ∧ p.1 = k := by
  unfold valV at h
  obtain ⟨p, hp, e⟩ := Option.map_eq_some_iff.mp h
  have z := List.find?_some hp
  exact ⟨p, List.mem_of_find?_eq_some hp, e, by simpa using z⟩
theorem valV_of {kvs : List (List Key × V)} (hn : (kvs.map (·.1)).Nodup) {p : List Key × V} (h : p ∈ kvs) : valV kvs p.1 = some p.2 := by
  induction kvs with
  | nil => cases h
  | cons q r ih =>
    rw [List.map_cons, List.nodup_cons] at hn
    rcases List.mem_cons.mp h with e | h
    · rw [e]; exact valV_pos rfl
    · rw [valV_neg fun z => hn.1 (by rw [z]; exact List.mem_map.mpr ⟨p, h, rfl⟩)]
      exact ih hn.2 h
theorem op_eqT {X : Cx} (hu : X.A.units + 64 < cLine) : OpR X (compareOp .Eq) rEqT := by
  intro pins s σ H x y v u Q I rx ry h
  obtain ⟨a, b, ka, kb, rfl, rfl, ha, hb, va, vb, na, q⟩ := h
  cases rx
  cases ry
  obtain ⟨_, sa, xa, ra, da⟩ := dt_of I.hok ha
  obtain ⟨_, sb, xb, rb, db⟩ := dt_of I.hok hb
  have hi : X.A.units < cLine := by omega
  have hroom : (tupleKind (mixKind X.prog X.w)).room X.A.in1 := by
    show X.A.units + 1 < cLine
    omega
  refine dicts_eq (g := fun k => decide (valV kb k = valV ka k)) hi hroom sa sb da db (fun z hz e => ?_) (fun z hz p e => ?_) ⟨.bl (sameD ka kb), H, I, ?_, q⟩
  · obtain ⟨p, hp, e1, _⟩ := kt_mem ra hz
    have r := rb.val z.1
    rw [e] at r
    have e2 : valV kb z.1 = none := by
      cases y : valV kb z.1 with
      | none => rfl
      | some y' => rw [y] at r; exact r.elim
    refine decide_eq_false ?_
    rw [e2, ← e1, valV_of na hp]
    intro y
    cases y
  · obtain ⟨p', hp, e1, e3⟩ := kt_mem ra hz
    obtain ⟨i, ei⟩ := va p' hp
    have r := rb.val z.1
    rw [e] at r
    obtain ⟨w', ew⟩ : ∃ w', valV kb z.1 = some w' := by
      cases y : valV kb z.1 with
      | none => rw [y] at r; exact r.elim
      | some y' => exact ⟨y', rfl⟩
    rw [ew] at r
    obtain ⟨q', hq', e4, _⟩ := valV_mem ew
    obtain ⟨j, ej⟩ := vb q' hq'
    have ew2 : w' = .int j := by rw [← e4, ej]
    subst ew2
    rw [ei] at e3
    obtain ⟨t, et⟩ := e3
    obtain ⟨t', et'⟩ : ∃ t' : Tok, p.2 = Value.int j t' := r
    have eg : decide (valV kb z.1 = valV ka z.1) = (i == j) := by
      rw [ew, ← e1, valV_of na hp, ei, Bool.eq_iff_iff, decide_eq_true_eq, beq_iff_eq]
      constructor
      · intro y
        injection y with y
        injection y with y
        exact y.symm
      · intro y
        rw [y]
    show SeqAt.EqAt _ _ z.2.2 p.2 (decide (valV kb z.1 = valV ka z.1))
    rw [eg, et, et']
    exact SeqAt.EqAt.int_int _ _ _ _
  · show Value.bool _ = Value.bool _
    rw [kt_all ra (f := fun k => decide (valV kb k = valV ka k)), ← ra.length, ← rb.length]
    rfl
end Dq
/-! The dict of a net's lines as data: the same for turned lines, another one for other lines. No row. -/
namespace My
open PySem PySem.Spec PyProof.Rows L2 Dq
structure Dist (ls : List (Nat × Nat × Int)) : Prop where
  nd : (ls.map norm).Nodup
  ne : ∀ l ∈ ls, l.1 ≠ l.2.1
theorem LsOk.dist {n : Nat} {ls : List (Nat × Nat × Int)} (h : LsOk n ls) : Dist ls := ⟨h.nd, fun l hl e => by
  have := (h.bd l hl).1
  unfold norm at this
  rw [if_neg (by omega)] at this
  have : l.1 < l.2.1 := this
  omega⟩
theorem hits_of {a b : Nat} {l : Nat × Nat × Int} (h : hits a b l = true) : (l.1 = a ∧ l.2.1 = b) ∨ (l.1 = b ∧ l.2.1 = a) := by
  unfold hits at h
  rw [Bool.or_eq_true, Bool.and_eq_true, Bool.and_eq_true, decide_eq_true_eq, decide_eq_true_eq, decide_eq_true_eq, decide_eq_true_eq] at h
  exact h
theorem hits_mk {a b : Nat} {l : Nat × Nat × Int} (h : (l.1 = a ∧ l.2.1 = b) ∨ (l.1 = b ∧ l.2.1 = a)) : hits a b l = true := by
  unfold hits
  rw [Bool.or_eq_true, Bool.and_eq_true, Bool.and_eq_true, decide_eq_true_eq, decide_eq_true_eq, decide_eq_true_eq, decide_eq_true_eq]
  exact h
theorem norm_eq {l k : Nat × Nat × Int} (h : (l.1 = k.1 ∧ l.2.1 = k.2.1) ∨ (l.1 = k.2.1 ∧ l.2.1 = k.1)) : norm l = norm k := by
  unfold norm
  rcases h with ⟨e1, e2⟩ | ⟨e1, e2⟩
  · rw [e1, e2]
  · rw [e1, e2]
    by_cases z : k.1 < k.2.1
    · rw [if_pos z, if_neg (by omega)]
    · by_cases z' : k.2.1 < k.1
      · rw [if_neg z, if_pos z']
      · have e : k.1 = k.2.1 := by omega
        rw [if_neg z, if_neg z', e]
theorem hits_norm {a b : Nat} {l k : Nat × Nat × Int} (h : hits a b l = true) (h' : hits a b k = true) : norm l = norm k := by
  refine norm_eq ?_
  rcases hits_of h with ⟨e1, e2⟩ | ⟨e1, e2⟩ <;> rcases hits_of h' with ⟨e3, e4⟩ | ⟨e3, e4⟩ <;> omega
theorem nodup_inj {α β : Type} (f : α → β) : ∀ {ls : List α}, (ls.map f).Nodup → ∀ {l k : α}, l ∈ ls → k ∈ ls → f l = f k → l = k
  | [], _, _, _, h, _, _ => by cases h
  | x :: r, hn, l, k, h1, h2, e => by
    rw [List.map_cons, List.nodup_cons] at hn
    rcases List.mem_cons.mp h1 with e1 | h1 <;> rcases List.mem_cons.mp h2 with e2 | h2
    · rw [e1, e2]
    · exact absurd (List.mem_map.mpr ⟨k, h2, by rw [← e, e1]⟩) hn.1
    · exact absurd (List.mem_map.mpr ⟨l, h1, by rw [e, e2]⟩) hn.1
    · exact nodup_inj f hn.2 h1 h2 e
def two (l : Nat × Nat × Int) : List (List Key × V) := [(key2 l.1 l.2.1, .int l.2.2), (key2 l.2.1 l.1, .int l.2.2)]
def flatD (ls : List (Nat × Nat × Int)) : List (List Key × V) := ls.flatMap two
theorem flat_mem {ls : List (Nat × Nat × Int)} {p : List Key × V} : p ∈ flatD ls ↔ ∃ l ∈ ls, (p.1 = key2 l.1 l.2.1 ∨ p.1 = key2 l.2.1 l.1) ∧ p.2 = .int l.2.2 := by
  unfold flatD two
  rw [List.mem_flatMap]
  constructor
  · rintro ⟨l, hl, h⟩
    refine ⟨l, hl, ?_⟩
    rcases List.mem_cons.mp h with e | h
    · rw [e]; exact ⟨.inl rfl, rfl⟩
    · rw [List.mem_singleton.mp h]; exact ⟨.inr rfl, rfl⟩
  · rintro ⟨l, hl, h, e⟩
    refine ⟨l, hl, ?_⟩
    obtain ⟨p1, p2⟩ := p
    rcases h with h | h
    · cases h; cases e; exact List.mem_cons_self
    · cases h; cases e; exact List.mem_cons_of_mem _ (List.mem_singleton.mpr rfl)
theorem flat_none {ls : List (Nat × Nat × Int)} {a b : Nat} (h : ∀ l ∈ ls, hits a b l = false) : valV (flatD ls) (key2 a b) = none := by
  cases e : valV (flatD ls) (key2 a b) with
  | none => rfl
  | some v =>
    obtain ⟨p, hp, _, e2⟩ := valV_mem e
    obtain ⟨l, hl, h1, _⟩ := flat_mem.mp hp
    have := h l hl
    rw [hits_mk (by
      rcases h1 with h1 | h1
      · rw [e2] at h1
        obtain ⟨z1, z2⟩ := key2_inj h1
        exact .inl ⟨z1.symm, z2.symm⟩
      · rw [e2] at h1
        obtain ⟨z1, z2⟩ := key2_inj h1
        exact .inr ⟨z2.symm, z1.symm⟩)] at this
    cases this
theorem nodup_mid {xs ys : List (Nat × Nat × Int)} {l : Nat × Nat × Int} (h : Dist (xs ++ l :: ys)) : ∀ k ∈ xs, norm k ≠ norm l := by
  intro k hk e
  have := h.nd
  rw [List.map_append, List.map_cons, List.nodup_append] at this
  exact this.2.2 _ (List.mem_map.mpr ⟨k, hk, rfl⟩) _ List.mem_cons_self e
theorem fold_flat : ∀ (ys xs : List (Nat × Nat × Int)), Dist (xs ++ ys) → ys.foldl put2 (flatD xs) = flatD (xs ++ ys)
  | [], xs, _ => by rw [List.append_nil]; rfl
  | l :: ys, xs, h => by
    have hm := nodup_mid h
    have hne : l.1 ≠ l.2.1 := h.ne l (by simp)
    have n1 : valV (flatD xs) (key2 l.1 l.2.1) = none := flat_none fun k hk => by
      cases e : hits l.1 l.2.1 k with
      | false => rfl
      | true => exact absurd (hits_norm e (hits_mk (.inl ⟨rfl, rfl⟩))) (hm k hk)
    have n2 : valV (flatD xs) (key2 l.2.1 l.1) = none := flat_none fun k hk => by
      cases e : hits l.2.1 l.1 k with
      | false => rfl
      | true => exact absurd (hits_norm e (hits_mk (.inr ⟨rfl, rfl⟩))) (hm k hk)
    have e1 : put2 (flatD xs) l = flatD (xs ++ [l]) := by
      unfold put2
      rw [putK_new _ n1, putK_new _ (by
        rw [← putK_new (.int l.2.2) n1, valV_put, if_neg (fun z => hne (key2_inj z).2), n2]), List.append_assoc]
      unfold flatD
      rw [List.flatMap_append, List.flatMap_cons, List.flatMap_nil, List.append_nil]
      rfl
    rw [List.foldl_cons, e1, fold_flat ys (xs ++ [l]) (by rw [List.append_assoc]; exact h), List.append_assoc]
    rfl
theorem delays_flat {ls : List (Nat × Nat × Int)} (h : Dist ls) : delaysOf ls = flatD ls := fold_flat ls [] h
theorem flat_len : ∀ ls : List (Nat × Nat × Int), (flatD ls).length = 2 * ls.length
  | [] => rfl
  | l :: r => by
    have := flat_len r
    unfold flatD at this ⊢
    rw [List.flatMap_cons, List.length_append, this, List.length_cons]
    show 2 + 2 * r.length = _
    omega
theorem flat_ints (ls : List (Nat × Nat × Int)) : IntVals (flatD ls) := fun p hp => by
  obtain ⟨l, _, _, e⟩ := flat_mem.mp hp
  exact ⟨_, e⟩
theorem flat_nodup : ∀ {ls : List (Nat × Nat × Int)}, Dist ls → ((flatD ls).map (·.1)).Nodup
  | [], _ => List.nodup_nil
  | l :: r, h => by
    have hd : Dist r := ⟨by have := h.nd; rw [List.map_cons, List.nodup_cons] at this; exact this.2, fun k hk => h.ne k (List.mem_cons_of_mem _ hk)⟩
    have hne : l.1 ≠ l.2.1 := h.ne l List.mem_cons_self
    have hn : ∀ k ∈ r, norm k ≠ norm l := fun k hk e => by
      have := h.nd
      rw [List.map_cons, List.nodup_cons] at this
      exact this.1 (List.mem_map.mpr ⟨k, hk, e⟩)
    have out : ∀ a b : Nat, (l.1 = a ∧ l.2.1 = b) ∨ (l.1 = b ∧ l.2.1 = a) → key2 a b ∉ (flatD r).map (·.1) := fun a b hab hm => by
      obtain ⟨p, hp, e⟩ := List.mem_map.mp hm
      obtain ⟨k, hk, h1, _⟩ := flat_mem.mp hp
      refine hn k hk (hits_norm (a := a) (b := b) (hits_mk ?_) (hits_mk hab))
      rcases h1 with h1 | h1
      · rw [e] at h1
        obtain ⟨z1, z2⟩ := key2_inj h1
        exact .inl ⟨z1.symm, z2.symm⟩
      · rw [e] at h1
        obtain ⟨z1, z2⟩ := key2_inj h1
        exact .inr ⟨z2.symm, z1.symm⟩
    show (key2 l.1 l.2.1 :: key2 l.2.1 l.1 :: (flatD r).map (·.1)).Nodup
    rw [List.nodup_cons, List.nodup_cons]
    refine ⟨fun hm => ?_, out _ _ (.inr ⟨rfl, rfl⟩), flat_nodup hd⟩
    rcases List.mem_cons.mp hm with e | hm
    · exact hne (key2_inj e).1
    · exact out _ _ (.inl ⟨rfl, rfl⟩) hm
theorem flat_val {ls : List (Nat × Nat × Int)} (h : Dist ls) {l : Nat × Nat × Int} (hl : l ∈ ls) {a b : Nat} (e : hits a b l = true) : valV (flatD ls) (key2 a b) = some (.int l.2.2) := by
  have hm : (key2 a b, V.int l.2.2) ∈ flatD ls := flat_mem.mpr ⟨l, hl, by
    rcases hits_of e with ⟨e1, e2⟩ | ⟨e1, e2⟩
    · exact .inl (by rw [e1, e2])
    · exact .inr (by rw [e1, e2]), rfl⟩
  exact valV_of (flat_nodup h) hm
theorem find_one {ls : List (Nat × Nat × Int)} (h : Dist ls) {l : Nat × Nat × Int} (hl : l ∈ ls) {a b : Nat} (e : hits a b l = true) : ls.find? (hits a b) = some l := by
  cases q : ls.find? (hits a b) with
  | none => exact absurd e (by have := List.find?_eq_none.mp q l hl; exact this)
  | some k =>
    have hk := List.mem_of_find?_eq_some q
    have e' := List.find?_some q
    rw [nodup_inj norm h.nd hk hl (hits_norm e' e)]
/-- the delay by the dict is that of the first line -/
theorem val_joined {N : NetD} (h : Dist N.ls) (a b : Nat) : (valV (delaysOf N.ls) (key2 a b)).getD .non = optV (joined N a b) := by
  rw [delays_flat h]
  unfold joined
  by_cases e : ∃ l ∈ N.ls, hits a b l = true
  · obtain ⟨l, hl, e⟩ := e
    rw [flat_val h hl e, find_one h hl e]
    rfl
  · have z : ∀ l ∈ N.ls, hits a b l = false := fun l hl => by
      cases q : hits a b l with
      | false => rfl
      | true => exact absurd ⟨l, hl, q⟩ e
    rw [flat_none z, List.find?_eq_none.mpr fun l hl => by rw [z l hl]; decide]
    rfl
theorem adj_self {N : NetD} (h : Dist N.ls) (a : Nat) : adj N a a = false := by
  unfold adj
  rw [List.any_eq_false]
  intro l hl e
  have := h.ne l hl
  rcases hits_of e with ⟨e1, e2⟩ | ⟨e1, e2⟩ <;> omega
/-! ### turned lines -/
def flip (l : Nat × Nat × Int) : Nat × Nat × Int := (l.2.1, l.1, l.2.2)
def turn (ls : List (Nat × Nat × Int)) : List (Nat × Nat × Int) := (ls.map flip).reverse
theorem norm_flip (l : Nat × Nat × Int) : norm (flip l) = norm l := norm_eq (.inr ⟨rfl, rfl⟩)
theorem hits_flip (a b : Nat) (l : Nat × Nat × Int) : hits a b (flip l) = hits a b l := by
  rw [Bool.eq_iff_iff]
  constructor
  · intro h
    rcases hits_of h with ⟨e1, e2⟩ | ⟨e1, e2⟩
    · exact hits_mk (.inr ⟨e2, e1⟩)
    · exact hits_mk (.inl ⟨e2, e1⟩)
  · intro h
    rcases hits_of h with ⟨e1, e2⟩ | ⟨e1, e2⟩
    · exact hits_mk (.inr ⟨e2, e1⟩)
    · exact hits_mk (.inl ⟨e2, e1⟩)
theorem turn_mem {ls : List (Nat × Nat × Int)} {l : Nat × Nat × Int} : l ∈ turn ls ↔ ∃ k ∈ ls, flip k = l := by
  unfold turn
  rw [List.mem_reverse, List.mem_map]
theorem Dist.turn {ls : List (Nat × Nat × Int)} (h : Dist ls) : Dist (turn ls) := ⟨by
  have e : (My.turn ls).map norm = (ls.map norm).reverse := by
    unfold My.turn
    rw [List.map_reverse, List.map_map]
    congr 2
    funext l
    exact norm_flip l
  rw [e]
  exact List.pairwise_reverse.mpr (h.nd.imp fun z => z.symm), fun l hl => by
  obtain ⟨k, hk, rfl⟩ := turn_mem.mp hl
  exact (h.ne k hk).symm⟩
theorem turn_len (ls : List (Nat × Nat × Int)) : (turn ls).length = ls.length := by
  unfold turn
  rw [List.length_reverse, List.length_map]
theorem same_turn {ls : List (Nat × Nat × Int)} (h : Dist ls) : sameD (delaysOf ls) (delaysOf (turn ls)) = true := by
  rw [delays_flat h, delays_flat h.turn]
  unfold sameD
  rw [Bool.and_eq_true]
  refine ⟨by rw [flat_len, flat_len, turn_len, beq_self_eq_true], ?_⟩
  rw [List.all_eq_true]
  intro p hp
  refine decide_eq_true ?_
  have e := valV_of (flat_nodup h) hp
  obtain ⟨l, hl, h1, h2⟩ := flat_mem.mp hp
  rw [e, h2]
  have hf : flip l ∈ turn ls := turn_mem.mpr ⟨l, hl, rfl⟩
  rcases h1 with h1 | h1
  · rw [h1]
    exact flat_val h.turn hf (by rw [hits_flip]; exact hits_mk (.inl ⟨rfl, rfl⟩))
  · rw [h1]
    exact flat_val h.turn hf (by rw [hits_flip]; exact hits_mk (.inr ⟨rfl, rfl⟩))
theorem same_len {ls ks : List (Nat × Nat × Int)} (h : Dist ls) (h' : Dist ks) (e : ls.length ≠ ks.length) : sameD (delaysOf ls) (delaysOf ks) = false := by
  rw [delays_flat h, delays_flat h']
  unfold sameD
  rw [flat_len, flat_len, beq_eq_false_iff_ne.mpr (by omega)]
  rfl
theorem same_other {ls ks : List (Nat × Nat × Int)} (h : Dist ls) (h' : Dist ks) {l k : Nat × Nat × Int} (hl : l ∈ ls) (hk : k ∈ ks) {a b : Nat} (e1 : hits a b l = true) (e2 : hits a b k = true) (e : l.2.2 ≠ k.2.2) : sameD (delaysOf ls) (delaysOf ks) = false := by
  rw [delays_flat h, delays_flat h']
  have v1 := flat_val h hl e1
  have v2 := flat_val h' hk e2
  obtain ⟨p, hp, _, e4⟩ := valV_mem v1
  unfold sameD
  rw [Bool.and_eq_false_iff]
  refine .inr ?_
  rw [List.all_eq_false]
  refine ⟨p, hp, ?_⟩
  rw [e4, v1, v2]
  intro z
  have z := of_decide_eq_true z
  injection z with z
  injection z with z
  exact e z.symm
end My
/-! Paths: what they are, the rows that are found are some; when two are separate. No row of Lean's. -/
namespace My
open PySem PySem.Spec PyProof.Rows L2
structure IsP (N : NetD) (r : List Nat) : Prop where
  two : 2 ≤ r.length
  nd : r.Nodup
  hs : ∀ k, k < r.length → host N (r.getD k 0) = (decide (k = 0) || decide (k + 1 = r.length))
  ad : ∀ k, k + 1 < r.length → adj N (r.getD k 0) (r.getD (k + 1) 0) = true
theorem app_l {r : List Nat} {b k : Nat} (h : k < r.length) : (r ++ [b]).getD k 0 = r.getD k 0 := by
  rw [List.getD_eq_getElem?_getD, List.getElem?_append_left h, ← List.getD_eq_getElem?_getD]
theorem app_r {r : List Nat} {b : Nat} : (r ++ [b]).getD r.length 0 = b := by
  rw [List.getD_eq_getElem?_getD, List.getElem?_append_right (Nat.le_refl _), Nat.sub_self]
  rfl
theorem Row.mids {N : NetD} {a : Nat} {r : List Nat} (h : Row N a r) : r.getD 0 0 = a ∧ (∀ k, 0 < k → k + 1 < r.length → host N (r.getD k 0) = false) ∧ ∀ k, k + 1 < r.length → adj N (r.getD k 0) (r.getD (k + 1) 0) = true := by
  induction h with
  | start => exact ⟨rfl, fun k _ h => by (have : k + 1 < 1 := h); omega, fun k h => by (have : k + 1 < 1 := h); omega⟩
  | @ext r b h1 h2 o hb ih =>
    obtain ⟨i1, i2, i3⟩ := ih
    have hp := h1.pos
    refine ⟨by rw [app_l (by omega)]; exact i1, fun k k0 k1 => ?_, fun k k1 => ?_⟩
    · rw [List.length_append, List.length_singleton] at k1
      rw [app_l (by omega)]
      by_cases e : k + 1 < r.length
      · exact i2 k k0 e
      · have e' : k = r.length - 1 := by omega
        rcases h2 with h2 | h2
        · rw [h2] at e'
          have : k = 0 := e'
          omega
        · unfold lastN at h2
          rw [e']
          exact h2
    · rw [List.length_append, List.length_singleton] at k1
      by_cases e : k + 1 < r.length
      · rw [app_l (by omega), app_l e]
        exact i3 k e
      · have e' : k + 1 = r.length := by omega
        have e2 : k = r.length - 1 := by omega
        rw [app_l (by omega), e', app_r, e2]
        exact (okb_mem o).2
theorem found_is {N : NetD} {t : Nat} {r : List Nat} (h : r ∈ foundOf N t) : IsP N r := by
  obtain ⟨a, ha, hh, hr, h2, _, hl⟩ := (mem_found t r).mp h
  obtain ⟨i1, i2, i3⟩ := hr.mids
  refine ⟨h2, hr.nodup, fun k hk => ?_, i3⟩
  by_cases e0 : k = 0
  · rw [e0, i1, hh]; rfl
  · by_cases e1 : k + 1 = r.length
    · unfold lastN at hl
      have e : k = r.length - 1 := by omega
      rw [e, hl, decide_eq_true (by omega : r.length - 1 + 1 = r.length), Bool.or_true]
    · rw [i2 k (by omega) (by omega), decide_eq_false e0, decide_eq_false e1]; rfl
theorem found_lt {N : NetD} {t : Nat} {r : List Nat} (h : r ∈ foundOf N t) : (∀ x ∈ r, x < N.ks.length) ∧ r.length ≤ t + 1 := by
  obtain ⟨a, ha, hh, hr, h2, h3, hl⟩ := (mem_found t r).mp h
  exact ⟨hr.lt ha, h3⟩
def inner (r : List Nat) : List Nat := (r.drop 1).take (r.length - 1 - 1)
def portsOf (r : List Nat) : List (Nat × Nat) := r.zip (r.drop 1)
theorem mem_inner {r : List Nat} {x : Nat} : x ∈ inner r ↔ ∃ k, 0 < k ∧ k + 1 < r.length ∧ r.getD k 0 = x := by
  unfold inner
  constructor
  · intro h
    obtain ⟨i, e⟩ := List.mem_iff_getElem?.mp h
    rw [List.getElem?_take] at e
    split at e
    · rename_i hi
      rw [List.getElem?_drop] at e
      exact ⟨1 + i, by omega, by omega, by rw [List.getD_eq_getElem?_getD, e]; rfl⟩
    · cases e
  · rintro ⟨k, k0, k1, e⟩
    refine List.mem_iff_getElem?.mpr ⟨k - 1, ?_⟩
    rw [List.getElem?_take, if_pos (by omega), List.getElem?_drop, show 1 + (k - 1) = k by omega, getD_at 0 (by omega), e]
theorem mem_ports {r : List Nat} {p : Nat × Nat} : p ∈ portsOf r ↔ ∃ k, k + 1 < r.length ∧ p = (r.getD k 0, r.getD (k + 1) 0) := by
  unfold portsOf
  constructor
  · intro h
    obtain ⟨i, e⟩ := List.mem_iff_getElem?.mp h
    rw [List.getElem?_zip_eq_some] at e
    obtain ⟨e1, e2⟩ := e
    rw [List.getElem?_drop] at e2
    obtain ⟨h2, _⟩ := List.getElem?_eq_some_iff.mp e2
    refine ⟨i, by omega, ?_⟩
    obtain ⟨p1, p2⟩ := p
    rw [List.getD_eq_getElem?_getD, List.getD_eq_getElem?_getD, e1, Nat.add_comm i 1, e2]
    rfl
  · rintro ⟨k, hk, e⟩
    refine List.mem_iff_getElem?.mpr ⟨k, ?_⟩
    rw [List.getElem?_zip_eq_some, List.getElem?_drop, e, Nat.add_comm 1 k]
    exact ⟨getD_at 0 (by omega), getD_at 0 hk⟩
theorem ports_len (r : List Nat) : (portsOf r).length = r.length - 1 := by
  unfold portsOf
  rw [List.length_zip, List.length_drop]
  omega
theorem ports_at {r : List Nat} {k : Nat} (hk : k + 1 < r.length) : (portsOf r)[k]? = some (r.getD k 0, r.getD (k + 1) 0) := by
  unfold portsOf
  rw [List.getElem?_zip_eq_some, List.getElem?_drop, Nat.add_comm 1 k]
  exact ⟨getD_at 0 (by omega), getD_at 0 hk⟩
theorem getD_in {r : List Nat} {k : Nat} (h : k < r.length) : r.getD k 0 ∈ r := List.mem_iff_getElem?.mpr ⟨k, getD_at 0 h⟩
theorem IsP.in_inner {N : NetD} {r : List Nat} (h : IsP N r) {x : Nat} (hx : x ∈ r) (e : host N x = false) : x ∈ inner r := by
  obtain ⟨k, ek⟩ := List.mem_iff_getElem?.mp hx
  obtain ⟨hk, _⟩ := List.getElem?_eq_some_iff.mp ek
  have ex : r.getD k 0 = x := by rw [List.getD_eq_getElem?_getD, ek]; rfl
  have := h.hs k hk
  rw [ex, e] at this
  have this := this.symm
  rw [Bool.or_eq_false_iff, decide_eq_false_iff_not, decide_eq_false_iff_not] at this
  exact mem_inner.mpr ⟨k, by omega, by omega, ex⟩
theorem IsP.inner_sw {N : NetD} {r : List Nat} (h : IsP N r) {x : Nat} (hx : x ∈ inner r) : x ∈ r ∧ host N x = false := by
  obtain ⟨k, k0, k1, e⟩ := mem_inner.mp hx
  refine ⟨by rw [← e]; exact getD_in (by omega), ?_⟩
  rw [← e, h.hs k (by omega), decide_eq_false (by omega), decide_eq_false (by omega)]
  rfl
/-- a port of a path of more than two nodes has a switch in it -/
theorem IsP.port_sw {N : NetD} {r : List Nat} (h : IsP N r) (h2 : 2 < r.length) {p : Nat × Nat} (hp : p ∈ portsOf r) : (p.1 ∈ r ∧ host N p.1 = false) ∨ (p.2 ∈ r ∧ host N p.2 = false) := by
  obtain ⟨k, hk, rfl⟩ := mem_ports.mp hp
  by_cases e : k = 0
  · refine .inr ⟨getD_in hk, ?_⟩
    show host N (r.getD (k + 1) 0) = false
    rw [h.hs (k + 1) hk, decide_eq_false (by omega), decide_eq_false (by omega)]
    rfl
  · refine .inl ⟨getD_in (by omega), ?_⟩
    show host N (r.getD k 0) = false
    rw [h.hs k (by omega), decide_eq_false (by omega), decide_eq_false (by omega)]
    rfl
theorem port_both {r : List Nat} {p : Nat × Nat} (hp : p ∈ portsOf r) : p.1 ∈ r ∧ p.2 ∈ r := by
  obtain ⟨k, hk, rfl⟩ := mem_ports.mp hp
  exact ⟨getD_in (by omega), getD_in hk⟩
def sepA (r s : List Nat) : Bool := ((inner r).filter fun x => s.contains x).isEmpty && ((portsOf r).filter fun p => (portsOf s).contains p).isEmpty
def sepB (r s : List Nat) : Bool := ((inner r).all fun x => !(inner s).contains x) && (decide (2 < r.length) || decide (2 < s.length))
theorem sep_eq {N : NetD} {r s : List Nat} (hr : IsP N r) (hs : IsP N s) (e0 : r.getD 0 0 = s.getD 0 0) (e1 : lastN r = lastN s) : sepA r s = sepB r s := by
  have hA : sepA r s = true ↔ (∀ x ∈ inner r, x ∉ s) ∧ ∀ p ∈ portsOf r, p ∉ portsOf s := by
    unfold sepA
    rw [Bool.and_eq_true, List.isEmpty_iff, List.isEmpty_iff, List.filter_eq_nil_iff, List.filter_eq_nil_iff]
    simp
  have hB : sepB r s = true ↔ (∀ x ∈ inner r, x ∉ inner s) ∧ (2 < r.length ∨ 2 < s.length) := by
    unfold sepB
    rw [Bool.and_eq_true, List.all_eq_true, Bool.or_eq_true, decide_eq_true_eq, decide_eq_true_eq]
    simp
  rw [Bool.eq_iff_iff, hA, hB]
  constructor
  · rintro ⟨h1, h2⟩
    refine ⟨fun x hx hy => h1 x hx (hs.inner_sw hy).1, ?_⟩
    by_cases q : 2 < r.length ∨ 2 < s.length
    · exact q
    · have r2 : r.length = 2 := by have := hr.two; omega
      have s2 : s.length = 2 := by have := hs.two; omega
      unfold lastN at e1
      rw [r2, s2] at e1
      refine absurd (mem_ports.mpr ⟨0, by omega, ?_⟩) (h2 (r.getD 0 0, r.getD 1 0) (mem_ports.mpr ⟨0, by omega, rfl⟩))
      rw [e0, show r.getD 1 0 = s.getD 1 0 from e1]
  · rintro ⟨h1, h2⟩
    have h3 : ∀ x, x ∈ r → x ∈ s → host N x = false → False := fun x hx hy hh => h1 x (hr.in_inner hx hh) (hs.in_inner hy hh)
    refine ⟨fun x hx hy => h3 x (hr.inner_sw hx).1 hy (hr.inner_sw hx).2, fun p hp hq => ?_⟩
    obtain ⟨p1, p2⟩ := port_both hp
    obtain ⟨q1, q2⟩ := port_both hq
    rcases h2 with h2 | h2
    · rcases hr.port_sw h2 hp with ⟨_, z⟩ | ⟨_, z⟩
      · exact h3 _ p1 q1 z
      · exact h3 _ p2 q2 z
    · rcases hs.port_sw h2 hq with ⟨_, z⟩ | ⟨_, z⟩
      · exact h3 _ p1 q1 z
      · exact h3 _ p2 q2 z
end My
/-! Windows as data, math.lcm as a rule, tests in which the heap grows. No row. -/
namespace My
open PySem PySem.Spec PyProof.Rows L2
theorem or_read2 {t u : TT} {σ : L2.St} {H : Hp} {Q : Bool → Hp → Prop} {a b : Bool} (ht : ∀ Q : Bool → Hp → Prop, (∀ H1, Same H H1 → Q a H1) → t σ H Q) (hu : ∀ H1, Same H H1 → ∀ Q : Bool → Hp → Prop, (∀ H2, Same H1 H2 → Q b H2) → u σ H1 Q) (h : ∀ H1, Same H H1 → Q (a || b) H1) : tOr t u σ H Q := by
  refine ht _ fun H1 s1 => ?_
  cases a with
  | true => exact h H1 s1
  | false => exact hu H1 s1 _ fun H2 s2 => h H2 (s1.trans s2)
theorem and_read2 {t u : TT} {σ : L2.St} {H : Hp} {Q : Bool → Hp → Prop} {a b : Bool} (ht : ∀ Q : Bool → Hp → Prop, (∀ H1, Same H H1 → Q a H1) → t σ H Q) (hu : a = true → ∀ H1, Same H H1 → ∀ Q : Bool → Hp → Prop, (∀ H2, Same H1 H2 → Q b H2) → u σ H1 Q) (h : ∀ H1, Same H H1 → Q (a && b) H1) : tAnd t u σ H Q := by
  refine ht _ fun H1 s1 => ?_
  cases a with
  | true => exact hu rfl H1 s1 _ fun H2 s2 => h H2 (s1.trans s2)
  | false => exact h H1 s1
section
variable {X : Cx}
def rLcm : List V → Hp → VK → Prop := fun vs H Q => ∃ a b : Int, vs = [.int a, .int b] ∧ a.natAbs < 2 ^ 64 ∧ b.natAbs < 2 ^ 64 ∧ Q (.int ((Nat.lcm a.natAbs b.natAbs : Nat) : Int)) H
theorem cr_lcm : CallR X (.builtin "math.lcm") rLcm := by
  intro pins s σ H vs us Q I r h
  obtain ⟨a, b, rfl, ha, hb, q⟩ := h
  obtain ⟨t, u, rfl⟩ := Vals.int2 r
  exact PySem.W.mc_lcm ha hb fun _ => ⟨.int _, H, I.tok _, ⟨_, rfl⟩, q⟩
end
theorem dec_int (a b : Int) : decide (V.int a = V.int b) = decide (a = b) := by
  by_cases h : a = b
  · rw [h]; simp
  · rw [decide_eq_false h, decide_eq_false]
    intro z
    injection z with z
    exact h z
/-- offset, length, period -/
abbrev Win := Int × Int × Int
def winV (w : Win) : List V := [.int w.1, .int w.2.1, .int w.2.2]
abbrev WinsAt (K : PySem.W.Frag) (H : Hp) (ts : List Addr) (ws : List Win) : Prop := Paired (fun (t : Addr) (w : Win) => SqT K H t (winV w)) ts ws
theorem WinsAt.same {K : PySem.W.Frag} {H H' : Hp} {ts : List Addr} {ws : List Win} (h : WinsAt K H ts ws) (e : Same H H') : WinsAt K H' ts ws := Paired.imp h fun _ _ q => same_tup e q
theorem WinsAt.butL {K : PySem.W.Frag} {H H' : Hp} {p : Addr} {ys : List V} {ts : List Addr} {ws : List Win} (h : WinsAt K H ts ws) (hp : H p = some (.lst ys)) (e : But p H H') : WinsAt K H' ts ws := Paired.imp h fun _ _ q => e.tupL hp q
/-- the tick is in a stretch -/
def hasT (w : Win) (x : Int) : Bool := decide (w.1 ≤ x) && decide ((x - w.1) % w.2.2 < w.2.1)
theorem hasT_iff {w : Win} (hp : 0 < w.2.2) (x : Int) : hasT w x = true ↔ ∃ k : Nat, w.1 + k * w.2.2 ≤ x ∧ x < w.1 + k * w.2.2 + w.2.1 := by
  unfold hasT
  rw [Bool.and_eq_true, decide_eq_true_eq, decide_eq_true_eq]
  have hd := Int.emod_add_mul_ediv (x - w.1) w.2.2
  have h0 := Int.emod_nonneg (x - w.1) (show w.2.2 ≠ 0 by omega)
  have h1 := Int.emod_lt_of_pos (x - w.1) hp
  constructor
  · rintro ⟨a, b⟩
    have hk : 0 ≤ (x - w.1) / w.2.2 := Int.ediv_nonneg (by omega) (by omega)
    refine ⟨((x - w.1) / w.2.2).toNat, ?_, ?_⟩
    · rw [Int.toNat_of_nonneg hk, Int.mul_comm]; omega
    · rw [Int.toNat_of_nonneg hk, Int.mul_comm]; omega
  · rintro ⟨k, a, b⟩
    have hk : 0 ≤ (k : Int) * w.2.2 := Int.mul_nonneg (by omega) (by omega)
    refine ⟨by omega, ?_⟩
    have e : (x - w.1) % w.2.2 = (x - w.1 - k * w.2.2) % w.2.2 := by
      rw [Int.sub_mul_emod_self_right]
    rw [e]
    have e1 := Int.emod_add_mul_ediv (x - w.1 - k * w.2.2) w.2.2
    have e2 := Int.mul_nonneg (show 0 ≤ w.2.2 by omega) (Int.ediv_nonneg (show 0 ≤ x - w.1 - k * w.2.2 by omega) (show 0 ≤ w.2.2 by omega))
    omega
/-- just the first 140 stretches are looked at -/
theorem hasT_few {w : Win} (hp : 0 < w.2.2) {x : Int} (hx : x - w.1 < 140) : hasT w x = true ↔ ∃ k : Nat, k < 140 ∧ w.1 + k * w.2.2 ≤ x ∧ x < w.1 + k * w.2.2 + w.2.1 := by
  rw [hasT_iff hp]
  constructor
  · rintro ⟨k, a, b⟩
    refine ⟨k, ?_, a, b⟩
    have : (k : Int) * 1 ≤ (k : Int) * w.2.2 := Int.mul_le_mul_of_nonneg_left (by omega) (by omega)
    omega
  · rintro ⟨k, _, a, b⟩
    exact ⟨k, a, b⟩
/-! ### the common period -/
def lcmW (ws : List Win) : Nat := ws.foldl (fun a w => a.lcm w.2.2.natAbs) 1
theorem lcmW_snoc (ws : List Win) (w : Win) : lcmW (ws ++ [w]) = (lcmW ws).lcm w.2.2.natAbs := by
  unfold lcmW
  rw [List.foldl_append]
  rfl
theorem lcm_foldl_dvd {α : Type} (f : α → Nat) : ∀ (ws : List α) (a m : Nat), ws.foldl (fun a w => a.lcm (f w)) a ∣ m ↔ a ∣ m ∧ ∀ w ∈ ws, f w ∣ m
  | [], a, m => by simp
  | w :: r, a, m => by
    rw [List.foldl_cons, lcm_foldl_dvd f r, Nat.lcm_dvd_iff]
    simp [and_assoc]
theorem lcmW_dvd {ws : List Win} {m : Nat} : lcmW ws ∣ m ↔ ∀ w ∈ ws, w.2.2.natAbs ∣ m := by
  unfold lcmW
  rw [lcm_foldl_dvd]
  simp
theorem dvd_lcmW {ws : List Win} {w : Win} (h : w ∈ ws) : w.2.2.natAbs ∣ lcmW ws := lcmW_dvd.mp (Nat.dvd_refl _) w h
theorem lcmW_pos : ∀ {ws : List Win}, (∀ w ∈ ws, 0 < w.2.2) → 0 < lcmW ws := by
  intro ws
  unfold lcmW
  suffices h : ∀ (ws : List Win) (a : Nat), 0 < a → (∀ w ∈ ws, 0 < w.2.2) → 0 < ws.foldl (fun a w => a.lcm w.2.2.natAbs) a from h ws 1 (by decide)
  intro ws
  induction ws with
  | nil => intro a ha _; exact ha
  | cons w r ih =>
    intro a ha h
    have := h w List.mem_cons_self
    exact ih _ (Nat.lcm_pos ha (by omega)) fun x hx => h x (List.mem_cons_of_mem _ hx)
theorem lcm_le_mul (a b : Nat) : a.lcm b ≤ a * b := PySem.W.mc_lcm_le a b
theorem lcmW_le {m : Nat} (hm : 1 ≤ m) : ∀ {ws : List Win}, (∀ w ∈ ws, w.2.2.natAbs ≤ m) → lcmW ws ≤ m ^ ws.length := by
  intro ws
  unfold lcmW
  suffices h : ∀ (ws : List Win) (a : Nat), (∀ w ∈ ws, w.2.2.natAbs ≤ m) → ws.foldl (fun a w => a.lcm w.2.2.natAbs) a ≤ a * m ^ ws.length by
    intro hw
    have := h ws 1 hw
    omega
  intro ws
  induction ws with
  | nil => intro a _; simp
  | cons w r ih =>
    intro a h
    have h1 := ih (a.lcm w.2.2.natAbs) fun x hx => h x (List.mem_cons_of_mem _ hx)
    have h2 := lcm_le_mul a w.2.2.natAbs
    have h3 := h w List.mem_cons_self
    rw [List.foldl_cons, List.length_cons, Nat.pow_succ]
    calc _ ≤ a.lcm w.2.2.natAbs * m ^ r.length := h1
      _ ≤ (a * m) * m ^ r.length := Nat.mul_le_mul_right _ (Nat.le_trans h2 (Nat.mul_le_mul_left _ h3))
      _ = a * (m ^ r.length * m) := by rw [Nat.mul_assoc, Nat.mul_comm m]
/-- what the drawn windows are like -/
structure WG (w : Win) : Prop where
  p0 : 1 ≤ w.2.2
  p1 : w.2.2 ≤ 60
  l0 : 0 ≤ w.2.1
  l1 : w.2.1 ≤ 100
/-! ### data -/
def dWin (w : Win) : PyData := .tuple [.int w.1, .int w.2.1, .int w.2.2]
def dWins (ws : List Win) : PyData := .list (ws.map dWin)
theorem shp_win (w : Win) : Shp 1 (dWin w) := shp_tuple fun d hd => by
  rcases List.mem_cons.mp hd with e | hd
  · rw [e]; exact shp_int _
  · rcases List.mem_cons.mp hd with e | hd
    · rw [e]; exact shp_int _
    · rw [List.mem_singleton.mp hd]; exact shp_int _
theorem eqv_win (p q : Win) : PyData.eqv (dWin p) (dWin q) = decide (p = q) := by
  obtain ⟨a, b, c⟩ := p
  obtain ⟨d, e, f⟩ := q
  unfold dWin
  rw [PyData.eqv, PyData.eqvAll, PyData.eqvAll, PyData.eqvAll, PyData.eqvAll, eqv_int, eqv_int, eqv_int, beq_dec, beq_dec, beq_dec, Bool.and_true, Bool.eq_iff_iff, Bool.and_eq_true, Bool.and_eq_true, decide_eq_true_eq, decide_eq_true_eq, decide_eq_true_eq, decide_eq_true_eq, Prod.mk.injEq, Prod.mk.injEq]
theorem shp_wins (ws : List Win) : Shp 2 (dWins ws) := shp_list (shp_map shp_win)
theorem eqv_wins (a b : List Win) : PyData.eqv (dWins a) (dWins b) = decide (a = b) := by
  unfold dWins
  rw [PyData.eqv, eqv_map dWin eqv_win]
theorem dp_win {K : PySem.W.Frag} {H : Hp} {t : Addr} {w : Win} (h : SqT K H t (winV w)) : Dp K H (.ref t) (dWin w) := .tup h (.cons (.int _) (.cons (.int _) (.cons (.int _) .nil)))
theorem dp_wins {K : PySem.W.Frag} {H : Hp} {a : Addr} {ts : List Addr} {ws : List Win} (h : SqL K H a (ts.map V.ref)) (hw : WinsAt K H ts ws) : Dp K H (.ref a) (dWins ws) := .lst h (dp_paired dWin (fun _ _ q => dp_win q) hw)
theorem refs_at {ts : List Addr} {i : Nat} {x : V} (h : (ts.map V.ref)[i]? = some x) : ∃ t, ts[i]? = some t ∧ x = .ref t := by
  rw [List.getElem?_map] at h
  cases e : ts[i]? with
  | none => rw [e] at h; cases h
  | some t => rw [e] at h; exact ⟨t, rfl, (Option.some.inj h).symm⟩
theorem bls_any (bs : List Bool) : inV (.bl true) (bs.map V.bl) = bs.any id := by
  unfold inV
  rw [List.any_map]
  congr 1
  funext b
  cases b <;> rfl
theorem bls_flat (bs : List Bool) : (bs.map V.bl).all flatV = true := by
  rw [List.all_map]
  exact List.all_eq_true.mpr fun _ _ => rfl
theorem eqL_self {α : Type} [DecidableEq α] (f : α → PyData) (h : ∀ x y, PyData.eqv (f x) (f y) = decide (x = y)) (x : α) : PyData.eqv (f x) (f x) = true := by rw [h, decide_eq_true rfl]
theorem andv {ta tb : TE} {σ : L2.St} {H : Hp} {Q : V → Hp → Prop} {a b : Bool} (ha : ∀ Q : V → Hp → Prop, Q (.bl a) H → ta σ H Q) (hb : a = true → ∀ Q : V → Hp → Prop, Q (.bl b) H → tb σ H Q) (h : Q (.bl (a && b)) H) : tAndV ta tb σ H Q := by
  refine ha _ ⟨a, rfl, ?_⟩
  cases a with
  | true => exact iteT (hb rfl _ h)
  | false => exact iteF h
theorem orv {ta tb : TE} {σ : L2.St} {H : Hp} {Q : V → Hp → Prop} {a b : Bool} (ha : ∀ Q : V → Hp → Prop, Q (.bl a) H → ta σ H Q) (hb : a = false → ∀ Q : V → Hp → Prop, Q (.bl b) H → tb σ H Q) (h : Q (.bl (a || b)) H) : tOrV ta tb σ H Q := by
  refine ha _ ⟨a, rfl, ?_⟩
  cases a with
  | true => exact iteT h
  | false => exact iteF (hb rfl _ h)
end My
namespace My
open PySem PySem.Spec PyProof.Rows L2
def top (i : Nat) : Stmt := PySem.Challenge.pw_metronet_k20_texts_of_plans.main.body.getD i (.Pass ⟨0, 0, 0, 0⟩)
abbrev sDraw : Stmt := top 17 /-_law_draw-/
abbrev sCell : Stmt := top 18 /-_law_cell-/
/-- the built-in names that the module leaves -/
structure Blt (mg : Str → Option Value) : Prop where
  range : mg "range" = none
  len : mg "len" = none
  int : mg "int" = none
  list : mg "list" = none
  enum : mg "enumerate" = none
section
variable {P : Program} {w : World} {K : PySem.W.Frag} {mg : Str → Option Value} {base : Heap}
/-! ### _law_draw -/
theorem scDraw : FnScope ["cell", "many", "bound", "numbers", "k", "seed", "mixed"] ["cell", "many", "bound"] (defScope sDraw) := ⟨rfl, rfl, rfl, by decide +kernel, rfl, by decide +kernel, by decide +kernel⟩
def spDraw : Sp := fun vs H Q _ => ∃ (c b : Int) (m : Nat), vs = [.int c, .int (m : Int), .int b] ∧ m ≤ 1000 ∧ 0 < b ∧ b < 2 ^ 64 ∧
  ∀ (H' : Hp) (p : Addr) (ns : List Int), Same H H' → H p = none → H' p = some (.lst (ns.map V.int)) → ns.length = m → (∀ x ∈ ns, 0 ≤ x ∧ x < b) → Q (.ref p) H'
theorem ok_draw {f : Addr} {fd : FuncData} {k : Nat} (F : Fun K "_law_draw" "_law_draw" sDraw f fd) (T : Blt mg) : FnOk P w K mg base CX0 (k + 1) f fd ["cell", "many", "bound"] spDraw := by
  refine F.ok scDraw (fun vs H Q E h => ?_) (fun cdv A outer s H vs Q E hr h => ?_)
  · obtain ⟨c, b, m, rfl, _⟩ := h
    rfl
  · obtain ⟨c, b, m, rfl, hm, hb0, hb1, q⟩ := h
    have nd := scDraw.nd
    refine ⟨_, pss_cons (ps_set (i := 3) nd rfl (.inl rfl) (pe_lst pa_nil))
      (pss_cons (ps_if (pt_cmpR op_ge (pv 0) (pe_op op_pow pe_int pe_int) (nomark _))
        (pss_cons (ps_for PassesOwn.never rfl (pi_range1 (by rfl) T.range (pa_cons (pv 1) pa_nil)) (pg_name (i := 4) nd rfl (.inl rfl))
          (pss_cons (ps_expr (pe_bm PySem.F.plainAttrs_list PySem.F.slot_list_append PySem.F.type_list_append mt_append (pv 3)
              (pa_cons (pe_op op_mod (pe_callTy call_int1 (by rfl) T.int (by decide +kernel) (pa_cons (pv 0) pa_nil)) (pv 2)) pa_nil)))
          (pss_one (ps_set (i := 0) nd rfl (.inl rfl) (pe_op op_fdivW (pv 0) (pv 2))))))
        (pss_one (ps_ret (pv 3)))) pss_nil)
      (pss_cons (ps_set (i := 5) nd rfl (.inl rfl) (pe_op op_mod (pe_callTy call_int1 (by rfl) T.int (by decide +kernel) (pa_cons (pv 0) pa_nil)) pe_int))
      (pss_cons (ps_for PassesOwn.never rfl (pi_range1 (by rfl) T.range (pa_cons (pv 1) pa_nil)) (pg_name (i := 4) nd rfl (.inl rfl))
          (pss_cons (ps_set (i := 5) nd rfl (.inl rfl) (pe_op op_mod (pe_callTy call_int1 (by rfl) T.int (by decide +kernel)
              (pa_cons (pe_op op_add (pe_op op_add (pe_op op_mul (pv 5) pe_int) pe_int) (pv 4)) pa_nil)) pe_int))
          (pss_cons (ps_set (i := 6) nd rfl (.inl rfl) (pe_op op_mod (pe_callTy call_int1 (by rfl) T.int (by decide +kernel)
              (pa_cons (pe_op op_add (pe_op op_mul (pv 5) pe_int) (pe_op op_mul pe_int (pv 4))) pa_nil)) pe_int))
          (pss_one (ps_expr (pe_bm PySem.F.plainAttrs_list PySem.F.slot_list_append PySem.F.type_list_append mt_append (pv 3)
              (pa_cons (pe_op op_mod (pe_callTy call_int1 (by rfl) T.int (by decide +kernel) (pa_cons (pe_op op_fdiv (pv 6) pe_int) pa_nil)) (pv 2)) pa_nil)))))))
      (pss_one (ps_ret (pv 3)))))), ?_⟩
    -- numbers = []
    refine ⟨Nat.zero_le _, fun p np => ?_⟩
    have s1 : Same H (upd H p (.lst [])) := same_new np
    -- cell >= 10 ** 18
    refine ⟨_, rfl, _, _, rfl, rfl, ⟨by decide, by decide, by decide⟩, _, _, rfl, rfl, _, rfl, ite2 (fun _ => ?_) (fun _ => ?_)⟩
    · refine ⟨_, rfl, (m : Int), rfl, by omega, by omega, for_range (n := m) (fun i σ H' => ∃ (c' : Int) (ns : List Int) (v4 v5 v6 : Option V), σ = [some (.int c'), some (.int m), some (.int b), some (.ref p), v4, v5, v6] ∧
        Same H H' ∧ H' p = some (.lst (ns.map V.int)) ∧ ns.length = i ∧ ∀ x ∈ ns, 0 ≤ x ∧ x < b) ⟨c, [], none, none, none, rfl, s1, upd_same, rfl, fun x hx => by cases hx⟩ ?_ ?_⟩
      · rintro i σ H' hi ⟨c', ns, v4, v5, v6, rfl, sm, hp, hl, hx⟩
        refine ⟨_, rfl, .inl ⟨rfl, _, SqL.of hp⟩, _, rfl, .inl ⟨_, rfl, _, rfl, _, _, rfl, rfl, hb0, ?_⟩⟩
        refine ⟨p, _, _, rfl, rfl, hp, by rw [List.length_map]; exact small1000 (by omega), ?_⟩
        refine ⟨_, rfl, _, rfl, _, _, rfl, rfl, wide_div (b := 64) hb0 (by omega) (by decide) (by decide), ?_⟩
        refine ⟨c' / b, ns ++ [c' % b], _, v5, v6, rfl, same_mut sm np, ?_, by rw [List.length_append, hl]; rfl, ?_⟩
        · rw [upd_same, List.map_append]; rfl
        · intro x hm
          rcases List.mem_append.mp hm with h1 | h1
          · exact hx x h1
          · rw [List.mem_singleton.mp h1]
            exact ⟨Int.emod_nonneg _ (by omega), Int.emod_lt_of_pos _ hb0⟩
      · rintro σ H' ⟨c', ns, v4, v5, v6, rfl, sm, hp, hl, hx⟩
        exact ⟨_, rfl, q H' p ns sm np hp hl hx⟩
    · refine ⟨_, rfl, .inl ⟨_, rfl, _, _, rfl, rfl, (by show (0 : Int) < 2147483647; decide), ?_⟩⟩
      refine ⟨_, rfl, (m : Int), rfl, by omega, by omega, for_range (n := m) (fun i σ H' => ∃ (c' sd : Int) (ns : List Int) (v4 v6 : Option V), σ = [some (.int c'), some (.int m), some (.int b), some (.ref p), v4, some (.int sd), v6] ∧
        0 ≤ sd ∧ sd < 2147483647 ∧ Same H H' ∧ H' p = some (.lst (ns.map V.int)) ∧ ns.length = i ∧ ∀ x ∈ ns, 0 ≤ x ∧ x < b)
        ⟨c, c % 2147483647, [], none, none, rfl, Int.emod_nonneg _ (by decide), Int.emod_lt_of_pos _ (by decide), s1, upd_same, rfl, fun x hx => by cases hx⟩ ?_ ?_⟩
      · rintro i σ H' hi ⟨c', sd, ns, v4, v6, rfl, d0, d1, sm, hp, hl, hx⟩
        refine ⟨_, rfl, _, _, rfl, rfl, .inl ⟨by omega, by omega⟩, _, _, rfl, rfl, _, rfl, _, _, rfl, rfl, .inl ⟨_, rfl, _, _, rfl, rfl, (by show (0 : Int) < 2147483647; decide), ?_⟩⟩
        have e0 : 0 ≤ (sd * 48271 + 12345 + (0 + (i : Int))) % 2147483647 := Int.emod_nonneg _ (by decide)
        have e1 : (sd * 48271 + 12345 + (0 + (i : Int))) % 2147483647 < 2147483647 := Int.emod_lt_of_pos _ (by decide)
        refine ⟨_, rfl, _, _, rfl, rfl, .inl ⟨by omega, by omega⟩, _, rfl, _, _, rfl, rfl, .inl ⟨by decide, by decide⟩, _, _, rfl, rfl, .inl ⟨_, rfl, _, _, rfl, rfl, (by show (0 : Int) < 2147483629; decide), ?_⟩⟩
        refine ⟨_, rfl, .inl ⟨rfl, _, SqL.of hp⟩, _, rfl, _, _, rfl, rfl, ⟨by decide, by decide⟩, .inl ⟨_, rfl, _, rfl, _, _, rfl, rfl, hb0, ?_⟩⟩
        refine ⟨p, _, _, rfl, rfl, hp, by rw [List.length_map]; exact small1000 (by omega), ?_⟩
        refine ⟨c', _, ns ++ [((sd * 48271 + 12345 + (0 + (i : Int))) % 2147483647 * 69621 + 977 * (0 + (i : Int))) % 2147483629 / 3 % b], _, _, rfl, e0, e1, same_mut sm np, ?_, by rw [List.length_append, hl]; rfl, ?_⟩
        · rw [upd_same, List.map_append]; rfl
        · intro x hm
          rcases List.mem_append.mp hm with h1 | h1
          · exact hx x h1
          · rw [List.mem_singleton.mp h1]
            exact ⟨Int.emod_nonneg _ (by omega), Int.emod_lt_of_pos _ hb0⟩
      · rintro σ H' ⟨c', sd, ns, v4, v6, rfl, d0, d1, sm, hp, hl, hx⟩
        exact ⟨_, rfl, q H' p ns sm np hp hl hx⟩
/-! ### _law_cell -/
theorem scCell : FnScope ["script", "k"] ["script", "k"] (defScope sCell) := ⟨rfl, rfl, rfl, by decide +kernel, rfl, by decide +kernel, by decide +kernel⟩
def spCell (K : PySem.W.Frag) : Sp := fun vs H Q _ => ∃ (a : Addr) (ns : List Int) (j : Nat), vs = [.ref a, .int (j : Int)] ∧ SqL K H a (ns.map V.int) ∧ Q (.int (ns.getD j 0)) H
theorem ok_cell {f : Addr} {fd : FuncData} {k : Nat} (F : Fun K "_law_cell" "_law_cell" sCell f fd) (T : Blt mg) : FnOk P w K mg base CX0 (k + 1) f fd ["script", "k"] (spCell K) := by
  refine F.ok scCell (fun vs H Q E h => ?_) (fun cdv A outer s H vs Q E hr h => ?_)
  · obtain ⟨a, ns, j, rfl, _⟩ := h
    rfl
  · obtain ⟨a, ns, j, rfl, hS, q⟩ := h
    refine ⟨_, pss_cons (ps_if (pt_cmpR op_lt (pv 1) (pe_callB call_len_seq (by rfl) T.len PySem.boot_len (pa_cons (pv 0) pa_nil)) (nomark _))
        (pss_one (ps_ret (pe_ix ix_list (pv 0) (pv 1) (fun _ _ => rfl)))) pss_nil) (pss_one (ps_ret pe_int)), ?_⟩
    refine ⟨_, rfl, _, rfl, a, _, rfl, .inl hS, _, _, rfl, rfl, _, rfl, ite2 (fun e => ?_) (fun e => ?_)⟩
    · have hj : j < ns.length := by
        have := of_decide_eq_true e
        rw [List.length_map] at this
        omega
      refine ⟨_, rfl, _, rfl, a, _, _, _, rfl, rfl, hS, atI_int hj, ?_⟩
      rw [List.getD_eq_getElem?_getD, List.getElem?_eq_getElem hj] at q
      exact q
    · have hj : ns.length ≤ j := by
        rcases Nat.lt_or_ge j ns.length with h | h
        · exact absurd (decide_eq_true (by rw [List.length_map]; omega)) e
        · exact h
      rw [List.getD_eq_getElem?_getD, List.getElem?_eq_none hj] at q
      exact q
/-- what a def's caller knows of it -/
structure Callee (P : Program) (w : World) (K : PySem.W.Frag) (mg : Str → Option Value) (base : Heap) (k : Nat) (x : Str) (ps : List Str) (sp : Sp) (f : Addr) (fd : FuncData) : Prop where
  ok : FnOk P w K mg base CX0 k f fd ps sp
  mg : mg x = some (.ref f)
  kp : PySem.W.keepIn K (.ref f) = true
  b : Binds K fd ps []
end
end My
namespace My
open PySem PySem.Spec PyProof.Rows L2
abbrev sNet : Stmt := top 4 /-Net-/
abbrev sInit : Stmt := inClass sNet 0 /-Net.__init__-/
abbrev sNb : Stmt := inClass sNet 3 /-Net.neighbours-/
section
variable {P : Program} {w : World} {K : PySem.W.Frag} {mg : Str → Option Value} {base : Heap}
/-! ### Net.__init__ -/
theorem scInit : FnScope ["self", "kinds", "lines", "processing", "error", "a", "b", "ticks"] ["self", "kinds", "lines", "processing", "error"] (defScope sInit) := ⟨rfl, rfl, rfl, by decide +kernel, rfl, by decide +kernel, by decide +kernel⟩
abbrev FunInit (K : PySem.W.Frag) (f : Addr) (fd : FuncData) : Prop := FunD K "__init__" "Net.__init__" (defArgs sInit) (defBody sInit) (defScope sInit) [] [("processing", .int 0), ("error", .int 0)] f fd
/-- a Net stands at p, its lists are new -/
def NetNew (K : PySem.W.Frag) (C : Addr) (H H' : Hp) (p : Addr) (N : NetD) : Prop := ∃ (dx lk ll ld : Addr) (ts : List Addr), H' p = some (.ins C dx (netF lk ll N.pr N.er ld)) ∧ H' lk = some (.lst (N.ks.map kindV)) ∧ H' ll = some (.lst (ts.map V.ref)) ∧
  LinesAt K H' ts N.ls ∧ H' ld = some (.dT (delaysOf N.ls)) ∧ H lk = none ∧ H ll = none
theorem NetNew.at {K : PySem.W.Frag} {C : Addr} {H H' : Hp} {p : Addr} {N : NetD} (h : NetNew K C H H' p N) : NetAt K C H' p N := by
  obtain ⟨dx, lk, ll, ld, ts, h1, h2, h3, h4, h5, _⟩ := h
  exact ⟨dx, lk, ll, ld, ts, h1, h2, h3, h4, h5⟩
def spInit (K : PySem.W.Frag) (C : Addr) : Sp := fun vs H Q _ => ∃ (p dx l0 l1 : Addr) (ts : List Addr) (N : NetD), vs = [.ref p, .ref l0, .ref l1, .int N.pr, .int N.er] ∧ H p = some (.ins C dx []) ∧
  SqL K H l0 (N.ks.map kindV) ∧ SqL K H l1 (ts.map V.ref) ∧ LinesAt K H ts N.ls ∧ N.ls.length ≤ 1000 ∧
  ∀ H', (∀ b o, H b = some o → b ≠ p → H' b = some o) → NetNew K C H H' p N → Q .non H'
theorem ok_init {f C : Addr} {fd : FuncData} {k : Nat} (F : FunInit K f fd) (T : Blt mg) (c : NetC K C) : FnOk P w K mg base CX0 (k + 1) f fd ["self", "kinds", "lines", "processing", "error"] (spInit K C) := by
  refine F.ok scInit (fun vs H Q E h => ?_) (fun cdv A outer s H vs Q E hr h => ?_)
  · obtain ⟨p, dx, l0, l1, ts, N, rfl, _⟩ := h
    rfl
  · obtain ⟨p, dx, l0, l1, ts, N, rfl, hp, h0, h1, hts, hlen, q⟩ := h
    have nd := scInit.nd
    have hu := hu_of hr
    refine ⟨_, PSs.nox (pss_cons (ps_fld (pv 0) (pe_callTy call_list_of (by rfl) T.list (by decide +kernel) (pa_cons (pv 1) pa_nil)) rfl)
      (pss_cons (ps_fld (pv 0) (pe_callTy call_list_of (by rfl) T.list (by decide +kernel) (pa_cons (pv 2) pa_nil)) rfl)
      (pss_cons (ps_fld (pv 0) (pv 3) rfl) (pss_cons (ps_fld (pv 0) (pv 4) rfl) (pss_cons (ps_fld (pv 0) pe_dnewT rfl)
      (pss_one (ps_for PassesOwn.never rfl (pi_list (pe_fld (pv 0) rfl))
        (pg_tup rfl (pgs_cons (pg_name (i := 5) nd rfl (.inl rfl)) (pgs_cons (pg_name (i := 6) nd rfl (.inl rfl)) (pgs_cons (pg_name (i := 7) nd rfl (.inl rfl)) pgs_nil))))
        (pss_cons (ps_dput hu (pe_fld (pv 0) rfl) (pe_tup (pa_cons (pv 5) (pa_cons (pv 6) pa_nil))) (pv 7) rfl)
        (pss_one (ps_dput hu (pe_fld (pv 0) rfl) (pe_tup (pa_cons (pv 6) (pa_cons (pv 5) pa_nil))) (pv 7) rfl)))))))))), ?_⟩
    have pnn : ∀ {H1 : Hp} {a : Addr} {u : HO}, H1 p = some u → H1 a = none → p ≠ a := fun e n => ne_of_none e n
    -- self.kinds = list(kinds)
    refine ⟨_, rfl, l0, _, rfl, .inl h0, fun lk nk => ?_⟩
    have npk := pnn hp nk
    refine ⟨_, rfl, p, C, dx, [], rfl, (by rw [upd_ne npk]; exact hp), c.cl, c.n1, (by show 0 < 1000; decide), ?_⟩
    have k1 : But p H _ := but_new (u := .ins C dx (putF "kinds" (.ref lk) [])) (o := .lst (N.ks.map kindV)) nk
    have a1 : (upd (upd H lk (.lst (N.ks.map kindV))) p (.ins C dx (putF "kinds" (.ref lk) []))) lk = some (.lst (N.ks.map kindV)) := by rw [upd_ne npk.symm, upd_same]
    have p1 : (upd (upd H lk (.lst (N.ks.map kindV))) p (.ins C dx (putF "kinds" (.ref lk) []))) p = some (.ins C dx (putF "kinds" (.ref lk) [])) := upd_same
    generalize (upd (upd H lk (.lst (N.ks.map kindV))) p (.ins C dx (putF "kinds" (.ref lk) []))) = H1 at k1 a1 p1 ⊢
    rw [f1] at p1
    -- self.lines = list(lines)
    refine ⟨_, rfl, l1, ts.map V.ref, rfl, .inl (k1.seq hp h1), fun ll nl => ?_⟩
    have npl := pnn p1 nl
    have nlH : H ll = none := by
      cases e : H ll with
      | none => rfl
      | some o =>
        have z := k1 _ _ e npl.symm
        rw [nl] at z
        cases z
    refine ⟨_, rfl, p, C, dx, _, rfl, (by rw [upd_ne npl]; exact p1), c.cl, c.n2, (by show 1 < 1000; decide), ?_⟩
    have k2 : But p H1 _ := but_new (u := .ins C dx (putF "lines" (.ref ll) [(("kinds" : Str), V.ref lk)])) (o := .lst (ts.map V.ref)) nl
    have b2 : (upd (upd H1 ll (.lst (ts.map V.ref))) p (.ins C dx (putF "lines" (.ref ll) [(("kinds" : Str), V.ref lk)]))) ll = some (.lst (ts.map V.ref)) := by rw [upd_ne npl.symm, upd_same]
    have p2 : (upd (upd H1 ll (.lst (ts.map V.ref))) p (.ins C dx (putF "lines" (.ref ll) [(("kinds" : Str), V.ref lk)]))) p = some (.ins C dx (putF "lines" (.ref ll) [(("kinds" : Str), V.ref lk)])) := upd_same
    generalize (upd (upd H1 ll (.lst (ts.map V.ref))) p (.ins C dx (putF "lines" (.ref ll) [(("kinds" : Str), V.ref lk)]))) = H2 at k2 b2 p2 ⊢
    rw [f2] at p2
    have a2 := k2 _ _ a1 npk.symm
    have q2 := k1.trans k2
    -- self.processing, self.error
    refine ⟨_, rfl, _, rfl, p, C, dx, _, rfl, p2, c.cl, c.n3, (by show 2 < 1000; decide), ?_⟩
    refine ⟨_, rfl, _, rfl, p, C, dx, _, rfl, upd_same, c.cl, c.n4, (by rw [f3]; show 3 < 1000; decide), ?_⟩
    have k3 : But p H2 _ := but_self (u := .ins C dx (putF "processing" (.int N.pr) [(("kinds" : Str), V.ref lk), ("lines", V.ref ll)]))
    have k4 : But p _ _ := but_self (H := upd H2 p (.ins C dx (putF "processing" (.int N.pr) [(("kinds" : Str), V.ref lk), ("lines", V.ref ll)]))) (u := .ins C dx (putF "error" (.int N.er) (putF "processing" (.int N.pr) [(("kinds" : Str), V.ref lk), ("lines", V.ref ll)])))
    have q4 := (q2.trans k3).trans k4
    have k34 := k3.trans k4
    have p4 : (upd (upd H2 p (.ins C dx (putF "processing" (.int N.pr) [(("kinds" : Str), V.ref lk), ("lines", V.ref ll)]))) p (.ins C dx (putF "error" (.int N.er) (putF "processing" (.int N.pr) [(("kinds" : Str), V.ref lk), ("lines", V.ref ll)])))) p = some (.ins C dx (putF "error" (.int N.er) (putF "processing" (.int N.pr) [(("kinds" : Str), V.ref lk), ("lines", V.ref ll)]))) := upd_same
    clear k3 k4
    generalize (upd (upd H2 p (.ins C dx (putF "processing" (.int N.pr) [(("kinds" : Str), V.ref lk), ("lines", V.ref ll)]))) p (.ins C dx (putF "error" (.int N.er) (putF "processing" (.int N.pr) [(("kinds" : Str), V.ref lk), ("lines", V.ref ll)])))) = H4 at k34 q4 p4 ⊢
    rw [f3, f4] at p4
    have a4 := k34 _ _ a2 npk.symm
    have b4 := k34 _ _ b2 npl.symm
    -- self._delays = {}
    refine fun ld nd5 => ?_
    have npd := pnn p4 nd5
    refine ⟨_, rfl, p, C, dx, _, rfl, (by rw [upd_ne npd]; exact p4), c.cl, c.n5, (by show 4 < 1000; decide), ?_⟩
    rw [f5]
    have k5 : But p H4 _ := but_new (u := .ins C dx (netF lk ll N.pr N.er ld)) (o := .dT []) nd5
    have c5 : (upd (upd H4 ld (.dT [])) p (.ins C dx (netF lk ll N.pr N.er ld))) ld = some (.dT []) := by rw [upd_ne npd.symm, upd_same]
    have p5 : (upd (upd H4 ld (.dT [])) p (.ins C dx (netF lk ll N.pr N.er ld))) p = some (.ins C dx (netF lk ll N.pr N.er ld)) := upd_same
    generalize (upd (upd H4 ld (.dT [])) p (.ins C dx (netF lk ll N.pr N.er ld))) = H5 at k5 c5 p5 ⊢
    have a5 := k5 _ _ a4 npk.symm
    have b5 := k5 _ _ b4 npl.symm
    have q5 := q4.trans k5
    have ldH : H ld = none := by
      cases z : H ld with
      | none => rfl
      | some u => rw [q4 _ _ z npd.symm] at nd5; cases nd5
    have nkd : lk ≠ ld := fun z => by rw [z, nd5] at a4; cases a4
    have nld : ll ≠ ld := fun z => by rw [z, nd5] at b4; cases b4
    have tlen : ts.length = N.ls.length := hts.length
    -- the loop
    refine ⟨_, rfl, p, C, dx, _, _, rfl, p5, c.cl, c.n2, g2, ll, rfl, ⟨_, SqL.of b5⟩, for_list (K := K) (a := ll) (xs := ts.map V.ref) (fun i σ H' => ∃ (v5 v6 v7 : Option V), σ = [some (.ref p), some (.ref l0), some (.ref l1), some (.int N.pr), some (.int N.er), v5, v6, v7] ∧
      But p H H' ∧ H' p = some (.ins C dx (netF lk ll N.pr N.er ld)) ∧ H' lk = some (.lst (N.ks.map kindV)) ∧ H' ll = some (.lst (ts.map V.ref)) ∧ H' ld = some (.dT (delaysOf (N.ls.take i))))
      ⟨none, none, none, rfl, q5, p5, a5, b5, c5⟩ (fun i σ H' _ ⟨_, _, _, _, _, _, _, hl, _⟩ => SqL.of hl) ?_ ?_⟩
    · rintro i x σ H' hi ⟨v5, v6, v7, rfl, kb, hp', hk', hl', hd'⟩
      rw [List.getElem?_map] at hi
      cases ht : ts[i]? with
      | none => rw [ht] at hi; cases hi
      | some t =>
        rw [ht] at hi
        cases hi
        obtain ⟨l, el, hT⟩ := Paired.at hts ht
        have hT' := kb.tup hp hT
        refine ⟨t, _, rfl, hT', rfl, _, _, rfl, _, _, rfl, _, _, rfl, rfl, ?_⟩
        have hsz : (delaysOf (N.ls.take i)).length ≤ 2000 := by
          have := delays_len (N.ls.take i)
          rw [List.length_take] at this
          omega
        -- self._delays[a, b] = ticks
        refine ⟨_, rfl, _, rfl, p, C, dx, _, _, rfl, hp', c.cl, c.n5, g5, _, rfl, _, rfl, by show 2 ≤ sizeLine; decide, fun k1 nk1 => ?_⟩
        have z1 := same_new (o := .tup [.int (l.1 : Int), .int (l.2.1 : Int)]) nk1
        refine ⟨ld, _, rfl, DPut.t (k := key2 l.1 l.2.1) (z1 _ _ hd') upd_same (szl (by omega)), ?_⟩
        have nk1d : ld ≠ k1 := ne_of_none hd' nk1
        have pd' : p ≠ ld := npd
        refine ⟨_, rfl, _, rfl, p, C, dx, _, _, rfl, by rw [upd_ne pd']; exact z1 _ _ hp', c.cl, c.n5, g5, _, rfl, _, rfl, by show 2 ≤ sizeLine; decide, fun k2 nk2 => ?_⟩
        have z2 := same_new (o := .tup [.int (l.2.1 : Int), .int (l.1 : Int)]) nk2
        refine ⟨ld, _, rfl, DPut.t (k := key2 l.2.1 l.1) (z2 _ _ upd_same) upd_same (szl (by have := length_putK (delaysOf (N.ls.take i)) (key2 l.1 l.2.1) (V.int l.2.2); omega)), ?_⟩
        have all : ∀ b o, H' b = some o → b ≠ ld → (upd (upd (upd (upd H' k1 (.tup [.int (l.1 : Int), .int (l.2.1 : Int)])) ld (.dT (putK (delaysOf (N.ls.take i)) (key2 l.1 l.2.1) (.int l.2.2)))) k2 (.tup [.int (l.2.1 : Int), .int (l.1 : Int)])) ld
            (.dT (putK (putK (delaysOf (N.ls.take i)) (key2 l.1 l.2.1) (.int l.2.2)) (key2 l.2.1 l.1) (.int l.2.2)))) b = some o := fun b o e n => by
          rw [upd_ne n]
          refine z2 _ _ ?_
          rw [upd_ne n]
          exact z1 _ _ e
        refine ⟨_, _, _, rfl, fun b o e n => all _ _ (kb _ _ e n) (ne_of_none e ldH), all _ _ hp' pd', all _ _ hk' nkd, all _ _ hl' nld, ?_⟩
        rw [upd_same, take_snoc el, delays_snoc]
        rfl
    · rintro σ H' ⟨v5, v6, v7, rfl, kb, hp', hk', hl', hd'⟩
      rw [List.length_map, tlen, List.take_length] at hd'
      exact q H' kb ⟨dx, lk, ll, ld, ts, hp', hk', hl', Paired.imp hts fun _ _ z => kb.tup hp z, hd', nk, nlH⟩
/-! ### Net.neighbours -/
theorem scNb : FnScope ["self", "a", "b"] ["self", "a"] (defScope sNb) := ⟨rfl, rfl, rfl, by decide +kernel, rfl, by decide +kernel, by decide +kernel⟩
def spNb (K : PySem.W.Frag) (C : Addr) : Sp := fun vs H Q _ => ∃ (p : Addr) (a : Nat) (N : NetD), vs = [.ref p, .int (a : Int)] ∧ NetAt K C H p N ∧ N.ks.length ≤ 1000 ∧
  ∀ (H' : Hp) (D : Addr), Same H H' → H D = none → H' D = some (.lst (natsV (nbs N a))) → Q (.ref D) H'
theorem ok_nb {f C : Addr} {fd : FuncData} {k : Nat} (F : Fun K "neighbours" "Net.neighbours" sNb f fd) (T : Blt mg) (c : NetC K C) : FnOk P w K mg base CX0 (k + 1) f fd ["self", "a"] (spNb K C) := by
  refine F.ok scNb (fun vs H Q E h => ?_) (fun cdv A outer s H vs Q E hr h => ?_)
  · obtain ⟨p, a, N, rfl, _⟩ := h
    rfl
  · obtain ⟨p, a, N, rfl, hN, hlen, q⟩ := h
    have nd := scNb.nd
    have hu := hu_of hr
    refine ⟨_, pss_one (ps_ret (pe_lc (own := [("b", 2)]) (g := gName 2) rfl nd
      (pi_range1 (by rfl) T.range (pa_cons (pe_callB call_len_seq (by rfl) T.len PySem.boot_len (pa_cons (pe_fld (pv 0) rfl) pa_nil)) pa_nil))
      (blkOk_by (own := [("b", 2)]) (N := ["self", "a", "b"]) (sc := defScope sNb) (by decide +kernel))
      (fun _ _ _ _ _ => pg_name (i := 2) nd rfl (Or.inl rfl))
      (fun _ _ _ _ _ => pts_one (pt_cmp (pc_din hu (pe_tup (pa_cons (pv 1) (pa_cons (pv 2) pa_nil))) (pe_fldK (K := K) (pv 0)))))
      (fun _ _ _ _ _ => pv 2))), ?_⟩
    obtain ⟨dx, lk, ll, ld, ts, e1, e2, e3, e4, e5⟩ := id hN
    refine ⟨_, rfl, p, C, dx, _, _, rfl, e1, c.cl, c.n1, g1, lk, _, rfl, .inl (SqL.of e2), _, rfl, by omega, by rw [List.length_map]; omega, fun D nD => ?_⟩
    have sD := same_new (o := .lst []) nD
    have en : (N.ks.map kindV).length = N.ks.length := List.length_map ..
    refine lc_range (lo := 0) (n := (N.ks.map kindV).length) (fun i H' => Same H H' ∧ H' D = some (.lst (natsV ((List.range i).filter (adj N a))))) ⟨sD, upd_same⟩ ?_ ?_
    · rintro i H' hi ⟨sm, hD⟩
      refine ⟨rfl, ?_⟩
      refine ⟨_, rfl, _, rfl, by show 2 ≤ sizeLine; decide, fun t nt => ?_⟩
      have st := same_new (o := .tup [.int (a : Int), .int (0 + (i : Int))]) nt
      have e5t := st _ _ (sm _ _ e5)
      have nDt : D ≠ t := ne_of_none hD nt
      refine ⟨_, rfl, p, C, dx, _, _, rfl, st _ _ (sm _ _ e1), c.cl, c.n5, g5, ld, valV (delaysOf N.ls) (key2 a i), rfl, ?_, _, rfl, ?_⟩
      · refine DGet.t e5t (k := key2 a i) ?_
        rw [upd_same, Int.zero_add]
        rfl
      · rw [adj_val]
        refine ite2 (fun ea => ?_) (fun ea => ?_)
        · refine ⟨_, rfl, _, by rw [upd_ne nDt]; exact hD, ?_, ?_, ?_⟩
          · rw [natsV, List.length_map]
            have := List.length_filter_le (adj N a) (List.range i)
            rw [List.length_range] at this
            exact small1000 (by omega)
          · exact fun b o e => by
              rw [upd_ne (ne_of_none e nD)]
              exact st _ _ (sm _ _ e)
          · rw [upd_same, List.range_succ, List.filter_append, List.filter_cons, if_pos ea, natsV, natsV, List.map_append, Int.zero_add]
            rfl
        · refine ⟨fun b o e => st _ _ (sm _ _ e), ?_⟩
          rw [upd_ne nDt, List.range_succ, List.filter_append, List.filter_cons, if_neg ea]
          simpa using hD
    · rintro H' ⟨sm, hD⟩
      rw [en] at hD
      exact q H' D sm nD hD
end
end My
namespace My
open PySem PySem.Spec PyProof.Rows L2
abbrev sLNet : Stmt := top 19 /-_law_net-/
/-- how Net(..) is called by its keywords -/
abbrev KBNet (K : PySem.W.Frag) (fd : FuncData) (mv : List Value) : Prop := KBn K fd ["self", "kinds", "lines", "processing", "error"] 3 ["processing", "error"] (fun us ws => us ++ ws) (fun vs zs => vs ++ zs)
theorem kb_net {K : PySem.W.Frag} {f : Addr} {fd : FuncData} (F : FunInit K f fd) : KBn K fd ["self", "kinds", "lines", "processing", "error"] 3 ["processing", "error"] (fun us ws => us ++ ws) (fun vs zs => vs ++ zs) := by
  obtain ⟨mv, h⟩ := F.kbinds0 (ps := ["self", "kinds", "lines", "processing", "error"]) 3 ["processing", "error"] [] (fun us _ ws => us ++ ws) (by simp) (fun q hq => by cases hq) (fun r1 _ r3 => r1.append r3)
    (fun D doc pm an cdv ct us mv ws h1 _ h3 => match us, ws, h1, h3 with | [_, _, _], [_, _], _, _ => rfl)
  exact h
section
variable {P : Program} {w : World} {K : PySem.W.Frag} {mg : Str → Option Value} {base : Heap}
theorem scLNet : FnScope ["cell", "more", "numbers", "hosts", "switches", "kinds", "k", "pairs", "a", "b", "draws", "lines", "near"] ["cell", "more"] (defScope sLNet) := ⟨rfl, rfl, rfl, by decide +kernel, rfl, by decide +kernel, by decide +kernel⟩
def spLNet (K : PySem.W.Frag) (C : Addr) : Sp := fun vs H Q _ => ∃ (c m : Int), vs = [.int c, .int m] ∧
  ∀ (H' : Hp) (p : Addr) (N : NetD), Same H H' → H p = none → NetAt K C H' p N → NetWf N → Q (.ref p) H'
structure NetMk (P : Program) (w : World) (K : PySem.W.Frag) (mg : Str → Option Value) (base : Heap) (C f : Addr) (fd : FuncData) : Prop where
  ok : FnOk P w K mg base CX0 1 f fd ["self", "kinds", "lines", "processing", "error"] (spInit K C)
  mg : mg "Net" = some (.ref C)
  mkC : Mk K C f
  kb : KBn K fd ["self", "kinds", "lines", "processing", "error"] 3 ["processing", "error"] (fun us ws => us ++ ws) (fun vs zs => vs ++ zs)
theorem er_at {z : Int} (h0 : 0 ≤ z) (h1 : z < 4) : ∃ e : Int, atI [V.int 0, V.int 1, V.int 0, V.int 2] z = some (.int e) ∧ 0 ≤ e ∧ e ≤ 2 := by
  have : z = 0 ∨ z = 1 ∨ z = 2 ∨ z = 3 := by omega
  rcases this with rfl | rfl | rfl | rfl
  · exact ⟨0, rfl, by decide, by decide⟩
  · exact ⟨1, rfl, by decide, by decide⟩
  · exact ⟨0, rfl, by decide, by decide⟩
  · exact ⟨2, rfl, by decide, by decide⟩
theorem ok_lnet {f C fD fI : Addr} {fd fdD fdI : FuncData} {k : Nat} (F : Fun K "_law_net" "_law_net" sLNet f fd) (T : Blt mg) (D : Callee P w K mg base 1 "_law_draw" ["cell", "many", "bound"] spDraw fD fdD) (G : NetMk P w K mg base C fI fdI) :
    FnOk P w K mg base CX0 (k + 3) f fd ["cell", "more"] (spLNet K C) := by
  refine F.ok scLNet (fun vs H Q E h => ?_) (fun cdv A outer s H vs Q E hr h => ?_)
  · obtain ⟨c, m, rfl, _⟩ := h
    rfl
  · obtain ⟨c, m, rfl, q⟩ := h
    have nd := scLNet.nd
    have hr1 : Room 1 _ := hr.mono (by omega)
    have hr2 : Room 2 _ := hr.mono (by omega)
    refine ⟨_, pss_cons (ps_set (i := 2) nd rfl (.inl rfl) (pe_call D.ok hr1 (by rfl) D.mg D.kp D.b .nil pass0 (pa_cons (pv 0) (pa_cons pe_int (pa_cons (pe_op op_shl pe_int pe_int) pa_nil))))) <| pss_cons (ps_set (i := 3) nd rfl (.inl rfl) (pe_op op_add pe_int (pe_op op_mod (pe_ix ix_list (pv 2) pe_int (fun _ _ => rfl)) pe_int))) <| pss_cons (ps_set (i := 4) nd rfl (.inl rfl) (pe_op op_add pe_int (pe_op op_mod (pe_ix ix_list (pv 2) pe_int (fun _ _ => rfl)) pe_int))) <| pss_cons (ps_set (i := 5) nd rfl (.inl rfl) (pe_op op_rep (pe_lst (pa_cons pe_str pa_nil)) (pv 3))) <| pss_cons (ps_for PassesOwn.never rfl (pi_range1 (by rfl) T.range (pa_cons (pv 4) pa_nil)) (pg_name (i := 6) nd rfl (.inl rfl)) (pss_one (ps_expr (pe_bm PySem.F.plainAttrs_list PySem.F.slot_list_insert PySem.F.type_list_insert mt_insert (pv 5) (pa_cons (pe_op op_mod (pe_ix ix_list (pv 2) (pe_op op_add pe_int (pv 6)) (fun _ _ => rfl)) (pe_op op_add (pe_callB call_len_seq (by rfl) T.len PySem.boot_len (pa_cons (pv 5) pa_nil)) pe_int)) (pa_cons pe_str pa_nil)))))) <| pss_cons (ps_set (i := 7) nd rfl (.inl rfl) (pe_lst pa_nil)) <| pss_cons (ps_for PassesOwn.never rfl (pi_range1 (by rfl) T.range (pa_cons (pe_callB call_len_seq (by rfl) T.len PySem.boot_len (pa_cons (pv 5) pa_nil)) pa_nil)) (pg_name (i := 8) nd rfl (.inl rfl)) (pss_one (ps_for PassesOwn.never rfl (pi_range1 (by rfl) T.range (pa_cons (pv 8) pa_nil)) (pg_name (i := 9) nd rfl (.inl rfl)) (pss_one (ps_if (PW.pt (pw_or (pt_cmpR op_eq (pe_ix ix_list (pv 5) (pv 8) (fun _ _ => rfl)) pe_str (nomark _)) (pw_or1 (pt_cmpR op_eq (pe_ix ix_list (pv 5) (pv 9) (fun _ _ => rfl)) pe_str (nomark _))))) (pss_one (ps_expr (pe_bm PySem.F.plainAttrs_list PySem.F.slot_list_append PySem.F.type_list_append mt_append (pv 7) (pa_cons (pe_tup (pa_cons (pv 8) (pa_cons (pv 9) pa_nil))) pa_nil)))) (pss_nil)))))) <| pss_cons (ps_set (i := 10) nd rfl (.inl rfl) (pe_call D.ok hr1 (by rfl) D.mg D.kp D.b .nil pass0 (pa_cons (pv 1) (pa_cons (pe_op op_mul pe_int (pe_callB call_len_seq (by rfl) T.len PySem.boot_len (pa_cons (pv 7) pa_nil))) (pa_cons (pe_op op_shl pe_int pe_int) pa_nil))))) <| pss_cons (ps_set (i := 11) nd rfl (.inl rfl) (pe_lst pa_nil)) <| pss_cons (ps_for PassesOwn.never rfl (pi_range1 (by rfl) T.range (pa_cons (pe_callB call_len_seq (by rfl) T.len PySem.boot_len (pa_cons (pv 7) pa_nil)) pa_nil)) (pg_name (i := 6) nd rfl (.inl rfl)) (pss_cons (ps_asg (pe_ix ix_list (pv 7) (pv 6) (fun _ _ => rfl)) (pg_tup rfl (pgs_cons (pg_name (i := 8) nd rfl (.inl rfl)) (pgs_cons (pg_name (i := 9) nd rfl (.inl rfl)) pgs_nil)))) <| pss_cons (ps_set (i := 12) nd rfl (.inl rfl) (pe_cmpR op_ne (pe_ix ix_list (pv 5) (pv 8) (fun _ _ => rfl)) (pe_ix ix_list (pv 5) (pv 9) (fun _ _ => rfl)) (nomark _))) <| pss_one (ps_if (PW.pt (pw_or (pt_cmpR op_lt (pe_op op_mod (pe_ix ix_list (pv 10) (pe_op op_mul pe_int (pv 6)) (fun _ _ => rfl)) pe_int) pe_int (nomark _)) (pw_or1 (PW.pt (pw_and (pt_val (pv 12)) (pw_and1 (pt_cmpR op_eq (pe_op op_mod (pe_ix ix_list (pv 10) (pe_op op_mul pe_int (pv 6)) (fun _ _ => rfl)) pe_int) pe_int (nomark _)))))))) (pss_one (ps_if (pt_cmpR op_eq (pe_op op_mod (pe_ix ix_list (pv 10) (pe_op op_add (pe_op op_mul pe_int (pv 6)) pe_int) (fun _ _ => rfl)) pe_int) pe_int (nomark _)) (pss_one (ps_expr (pe_bm PySem.F.plainAttrs_list PySem.F.slot_list_append PySem.F.type_list_append mt_append (pv 11) (pa_cons (pe_tup (pa_cons (pv 8) (pa_cons (pv 9) (pa_cons (pe_op op_mod (pe_op op_fdiv (pe_ix ix_list (pv 10) (pe_op op_add (pe_op op_mul pe_int (pv 6)) pe_int) (fun _ _ => rfl)) pe_int) pe_int) pa_nil)))) pa_nil)))) (pss_one (ps_expr (pe_bm PySem.F.plainAttrs_list PySem.F.slot_list_append PySem.F.type_list_append mt_append (pv 11) (pa_cons (pe_tup (pa_cons (pv 9) (pa_cons (pv 8) (pa_cons (pe_op op_mod (pe_op op_fdiv (pe_ix ix_list (pv 10) (pe_op op_add (pe_op op_mul pe_int (pv 6)) pe_int) (fun _ _ => rfl)) pe_int) pe_int) pa_nil)))) pa_nil)))))) (pss_nil)))) <| pss_cons (ps_if (pt_cmpR op_eq (pe_op op_mod (pe_ix ix_list (pv 2) pe_int (fun _ _ => rfl)) pe_int) pe_int (nomark _)) (pss_one (ps_for PassesOwn.never rfl (pi_range1 (by rfl) T.range (pa_cons (pe_callB call_len_seq (by rfl) T.len PySem.boot_len (pa_cons (pv 5) pa_nil)) pa_nil)) (pg_name (i := 8) nd rfl (.inl rfl)) (pss_one (ps_for PassesOwn.never rfl (pi_range1 (by rfl) T.range (pa_cons (pv 8) pa_nil)) (pg_name (i := 9) nd rfl (.inl rfl)) (pss_one (ps_if (PW.pt (pw_and (pt_cmpR op_eq (pe_ix ix_list (pv 5) (pv 8) (fun _ _ => rfl)) pe_str (nomark _)) (pw_and (pt_cmpR op_eq (pe_ix ix_list (pv 5) (pv 9) (fun _ _ => rfl)) pe_str (nomark _)) (pw_and1 (pt_cmpR op_lt (pe_callB call_len_seq (by rfl) T.len PySem.boot_len (pa_cons (pv 11) pa_nil)) pe_int (nomark _)))))) (pss_one (ps_expr (pe_bm PySem.F.plainAttrs_list PySem.F.slot_list_append PySem.F.type_list_append mt_append (pv 11) (pa_cons (pe_tup (pa_cons (pv 8) (pa_cons (pv 9) (pa_cons (pe_op op_mod (pe_ix ix_list (pv 2) pe_int (fun _ _ => rfl)) pe_int) pa_nil)))) pa_nil)))) (pss_nil))))))) (pss_nil)) <| pss_one (ps_ret (pe_makeK G.mkC G.ok hr2 (by rfl) G.mg G.kb pass0 (pa_cons (pv 5) (pa_cons (pv 11) pa_nil)) (pk_cons (pe_op op_mod (pe_op op_fdiv (pe_ix ix_list (pv 2) pe_int (fun _ _ => rfl)) pe_int) pe_int) (pk_cons (pe_ix ix_list (pe_lst (pa_cons pe_int (pa_cons pe_int (pa_cons pe_int (pa_cons pe_int pa_nil))))) (pe_op op_mod (pe_ix ix_list (pv 2) pe_int (fun _ _ => rfl)) pe_int) (fun _ _ => rfl)) pk_nil)))), ?_⟩
    -- numbers
    refine ⟨_, rfl, _, _, rfl, rfl, ⟨by decide, by decide, by decide⟩, c, _, 8, rfl, by decide, by decide, by decide, fun H1 pn ns s1 npn hn ln bn => ?_⟩
    have bd : ∀ j, j < 8 → 0 ≤ ns.getD j 0 ∧ ns.getD j 0 < 1048576 := fun j hj => bn _ (getD_mem (by omega))
    -- hosts, switches
    refine ⟨_, rfl, pn, _, _, _, rfl, rfl, SqL.of hn, atI_ints (j := 0) rfl (by omega), _, _, rfl, rfl, (by show (0 : Int) < 3; decide), _, _, rfl, rfl, ?_⟩
    refine ⟨_, rfl, pn, _, _, _, rfl, rfl, SqL.of hn, atI_ints (j := 1) rfl (by omega), _, _, rfl, rfl, (by show (0 : Int) < 3; decide), _, _, rfl, rfl, ?_⟩
    have x0 : 0 ≤ ns.getD 0 0 % 3 := Int.emod_nonneg _ (by decide)
    have x1 : ns.getD 0 0 % 3 < 3 := Int.emod_lt_of_pos _ (by decide)
    have y0 : 0 ≤ ns.getD 1 0 % 3 := Int.emod_nonneg _ (by decide)
    have y1 : ns.getD 1 0 % 3 < 3 := Int.emod_lt_of_pos _ (by decide)
    have hh : 2 ≤ (2 + ns.getD 0 0 % 3).toNat ∧ (2 + ns.getD 0 0 % 3).toNat ≤ 4 := by omega
    have hs : 1 ≤ (1 + ns.getD 1 0 % 3).toNat ∧ (1 + ns.getD 1 0 % 3).toNat ≤ 3 := by omega
    -- kinds = ["host"] * hosts
    refine ⟨by show 1 ≤ sizeLine; decide, fun p0 np0 => ?_⟩
    have s2 : Same H1 (upd H1 p0 (.lst [V.str "host"])) := same_new np0
    refine ⟨_, rfl, p0, _, _, rfl, rfl, upd_same, by omega, by omega, (by show 1 * (2 + ns.getD 0 0 % 3).toNat ≤ sizeLine; exact sz (by omega)), fun pk npk => ?_⟩
    have s3 := same_new (o := .lst (List.replicate (2 + ns.getD 0 0 % 3).toNat [V.str "host"]).flatten) npk
    have hn2 := (s2.trans s3) _ _ hn
    have hk0 : (upd (upd H1 p0 (.lst [V.str "host"])) pk (.lst (List.replicate (2 + ns.getD 0 0 % 3).toNat [V.str "host"]).flatten)) pk = some (.lst ((List.replicate (2 + ns.getD 0 0 % 3).toNat true).map kindV)) := by
      rw [upd_same, rep_flat, List.map_replicate]
      rfl
    have S2 := (s1.trans s2).trans s3
    have npkH : H pk = none := (s1.trans s2).free npk
    have nnk : pn ≠ pk := ne_of_none (s2 _ _ hn) npk
    generalize (upd (upd H1 p0 (.lst [V.str "host"])) pk (.lst (List.replicate (2 + ns.getD 0 0 % 3).toNat [V.str "host"]).flatten)) = H2 at S2 hn2 hk0 ⊢
    clear s2 s3 np0 npk
    -- the switches are put in
    refine ⟨_, rfl, 1 + ns.getD 1 0 % 3, rfl, by omega, by omega, for_range (n := (1 + ns.getD 1 0 % 3).toNat) (fun i σ H' => ∃ (v6 : Option V) (ks : List Bool), σ = [some (.int c), some (.int m), some (.ref pn), some (.int (2 + ns.getD 0 0 % 3)), some (.int (1 + ns.getD 1 0 % 3)), some (.ref pk), v6, none, none, none, none, none, none] ∧
      But pk H2 H' ∧ H' pk = some (.lst (ks.map kindV)) ∧ ks.count true = (2 + ns.getD 0 0 % 3).toNat ∧ ks.count false = i) ⟨none, _, rfl, But.refl _ _, hk0, List.count_replicate_self, by rw [List.count_replicate]; rfl⟩ ?_ ?_⟩
    · rintro i σ H' hi ⟨v6, ks, rfl, kb, hk, c1, c0⟩
      have lk := len_count ks
      have hn' := kb _ _ hn2 nnk
      refine ⟨_, rfl, .inl ⟨rfl, _, SqL.of hk⟩, _, rfl, _, rfl, _, _, rfl, rfl, pn, _, _, _, rfl, rfl, SqL.of hn', atI_ints (j := 2 + i) (by omega) (by omega), _, rfl, pk, _, rfl, .inl (SqL.of hk), _, _, rfl, rfl, _, _, rfl, rfl, (by rw [List.length_map]; omega), ?_⟩
      rw [List.length_map]
      have z0 : 0 ≤ ns.getD (2 + i) 0 % ((ks.length : Int) + 1) := Int.emod_nonneg _ (by omega)
      have z1 : ns.getD (2 + i) 0 % ((ks.length : Int) + 1) < (ks.length : Int) + 1 := Int.emod_lt_of_pos _ (by omega)
      refine ⟨pk, _, _, _, rfl, rfl, hk, szl (by rw [List.length_map]; omega), z0, by omega, ?_⟩
      refine ⟨_, ks.take (ns.getD (2 + i) 0 % ((ks.length : Int) + 1)).toNat ++ [false] ++ ks.drop (ns.getD (2 + i) 0 % ((ks.length : Int) + 1)).toNat, rfl, kb.trans but_self, ?_, ?_, ?_⟩
      · rw [upd_same, List.map_append, List.map_append, List.map_take, List.map_drop]
        rfl
      · rw [count_ins, c1]
        rfl
      · rw [count_ins, c0]
        rfl
    rintro σ H3 ⟨v6, ks, rfl, kb3, hk3, c1, c0⟩
    have lk := len_count ks
    have lks : ks.length ≤ 7 := by omega
    have lkm : (ks.map kindV).length = ks.length := List.length_map ..
    have S3 := same_but S2 npkH kb3
    have hn3 := kb3 _ _ hn2 nnk
    -- pairs = []
    refine ⟨Nat.zero_le _, fun pp npp => ?_⟩
    have s4 := same_new (o := .lst []) npp
    have nppH := S3.free npp
    have S4 := S3.trans s4
    have hk4 := s4 _ _ hk3
    have hn4 := s4 _ _ hn3
    have nkp : pk ≠ pp := ne_of_none hk3 npp
    have nnp : pn ≠ pp := ne_of_none hn3 npp
    have hp4 : (upd H3 pp (.lst [])) pp = some (.lst []) := upd_same
    generalize (upd H3 pp (.lst [])) = H4 at S4 hk4 hn4 hp4 ⊢
    clear s4 npp
    -- the pairs
    refine ⟨_, rfl, pk, _, rfl, .inl (SqL.of hk4), _, rfl, by omega, by omega, for_range (n := (ks.map kindV).length) (fun i σ H' => ∃ (v8 v9 : Option V) (ts : List Addr) (ps : List (Nat × Nat)), σ = [some (.int c), some (.int m), some (.ref pn), some (.int (2 + ns.getD 0 0 % 3)), some (.int (1 + ns.getD 1 0 % 3)), some (.ref pk), v6, some (.ref pp), v8, v9, none, none, none] ∧
      But pp H4 H' ∧ H' pp = some (.lst (ts.map V.ref)) ∧ PairsAt K H' ts ps ∧ PInv ks ps i 0) ⟨none, none, [], [], rfl, But.refl _ _, hp4, .nil, PInv.nil⟩ ?_ ?_⟩
    · rintro i σ H' hi ⟨v8, v9, ts, ps, rfl, kb, hp, ht, hI⟩
      rw [lkm] at hi
      rw [Int.zero_add]
      refine ⟨_, rfl, (i : Int), rfl, by omega, by omega, for_range (n := i) (fun j σ H' => ∃ (v9 : Option V) (ts : List Addr) (ps : List (Nat × Nat)), σ = [some (.int c), some (.int m), some (.ref pn), some (.int (2 + ns.getD 0 0 % 3)), some (.int (1 + ns.getD 1 0 % 3)), some (.ref pk), v6, some (.ref pp), some (.int (i : Int)), v9, none, none, none] ∧
        But pp H4 H' ∧ H' pp = some (.lst (ts.map V.ref)) ∧ PairsAt K H' ts ps ∧ PInv ks ps i j) ⟨v9, ts, ps, rfl, kb, hp, ht, hI⟩ ?_ ?_⟩
      · rintro j σ H5 hj ⟨v9, ts, ps, rfl, kb, hp, ht, hI⟩
        rw [Int.zero_add]
        have hk5 := kb _ _ hk4 nkp
        refine or_read (a := decide (kindV (ks.getD i true) = V.str "switch")) (b := decide (kindV (ks.getD j true) = V.str "switch")) (fun Q q => ?_) (fun Q q => ?_) ?_
        · exact ⟨_, rfl, _, rfl, pk, _, _, _, rfl, rfl, SqL.of hk5, atI_kind rfl hi, rfl, _, rfl, q⟩
        · exact ⟨_, rfl, _, rfl, pk, _, _, _, rfl, rfl, SqL.of hk5, atI_kind rfl (by omega), rfl, _, rfl, q⟩
        · refine ite2 (fun e => ?_) (fun e => ?_)
          · have e2 : ks.getD i true = false ∨ ks.getD j true = false := by
              rw [Bool.or_eq_true] at e
              exact e.imp (fun z => kind_sw (of_decide_eq_true z)) (fun z => kind_sw (of_decide_eq_true z))
            refine ⟨_, rfl, .inl ⟨rfl, _, SqL.of hp⟩, _, rfl, _, rfl, by show 2 ≤ sizeLine; decide, fun t nt => ?_⟩
            have st := same_new (o := .tup [V.int (i : Int), V.int (j : Int)]) nt
            have hp' := st _ _ hp
            have nf := hI.few
            have lt := ht.length
            refine ⟨pp, _, _, rfl, rfl, hp', szl (by rw [List.length_map]; omega), ?_⟩
            refine ⟨_, ts ++ [t], ps ++ [(i, j)], rfl, kb.trans (but_app nt), ?_, ?_, hI.snoc hi hj e2⟩
            · rw [upd_same, List.map_append]
              rfl
            · have kb2 : But pp (upd H5 t (.tup [V.int (i : Int), V.int (j : Int)])) (upd (upd H5 t (.tup [V.int (i : Int), V.int (j : Int)])) pp (.lst (ts.map V.ref ++ [V.ref t]))) := but_self
              exact PairsAt.snoc (PairsAt.mono ht fun a b z => kb2.tupL hp' (same_tup st z)) (kb2.tupL hp' (SqT.of upd_same))
          · exact ⟨_, ts, ps, rfl, kb, hp, ht, hI.skip⟩
      · rintro σ H5 ⟨v9, ts, ps, rfl, kb, hp, ht, hI⟩
        exact ⟨_, v9, ts, ps, rfl, kb, hp, ht, hI.next (by omega)⟩
    rintro σ H5 ⟨v8, v9, ts, ps, rfl, kb5, hp5, ht5, hI⟩
    rw [lkm] at hI
    have S5 := same_but S4 nppH kb5
    have hk5 := kb5 _ _ hk4 nkp
    have hn5 := kb5 _ _ hn4 nnp
    have ltp : ts.length = ps.length := ht5.length
    have lpm : (ts.map V.ref).length = ps.length := by rw [List.length_map]; exact ltp
    have nf := hI.few
    -- draws
    refine ⟨_, rfl, _, rfl, pp, _, rfl, .inl (SqL.of hp5), _, _, rfl, rfl, .inl ⟨by decide, by decide⟩, _, _, rfl, rfl, ⟨by decide, by decide, by decide⟩, m, 1048576, 2 * ps.length, ?_, by omega, by decide, by decide, fun H6 pd ds s6 npd hd ld bdd => ?_⟩
    · rw [lpm]
      rfl
    have S6 := S5.trans s6
    have hk6 := s6 _ _ hk5
    have hn6 := s6 _ _ hn5
    have hp6 := s6 _ _ hp5
    have ht6 : PairsAt K H6 ts ps := PairsAt.mono ht5 fun _ _ z => same_tup s6 z
    -- lines = []
    refine ⟨Nat.zero_le _, fun pl npl => ?_⟩
    have s7 := same_new (o := .lst []) npl
    have nplH := S6.free npl
    have S7 := S6.trans s7
    have hk7 := s7 _ _ hk6
    have hn7 := s7 _ _ hn6
    have hp7 := s7 _ _ hp6
    have hd7 := s7 _ _ hd
    have ht7 : PairsAt K (upd H6 pl (.lst [])) ts ps := PairsAt.mono ht6 fun _ _ z => same_tup s7 z
    have nkl : pk ≠ pl := ne_of_none hk6 npl
    have nnl : pn ≠ pl := ne_of_none hn6 npl
    have npl' : pp ≠ pl := ne_of_none hp6 npl
    have ndl : pd ≠ pl := ne_of_none hd npl
    have hl7 : (upd H6 pl (.lst [])) pl = some (.lst []) := upd_same
    generalize (upd H6 pl (.lst [])) = H7 at S7 hk7 hn7 hp7 hd7 ht7 hl7 ⊢
    clear s7 npl
    -- the lines
    refine ⟨_, rfl, pp, _, rfl, .inl (SqL.of hp7), _, rfl, by omega, by omega, for_range (n := (ts.map V.ref).length) (fun i σ H' => ∃ (v6 v8 v9 v12 : Option V) (us : List Addr) (ls : List (Nat × Nat × Int)), σ = [some (.int c), some (.int m), some (.ref pn), some (.int (2 + ns.getD 0 0 % 3)), some (.int (1 + ns.getD 1 0 % 3)), some (.ref pk), v6, some (.ref pp), v8, v9, some (.ref pd), some (.ref pl), v12] ∧
      But pl H7 H' ∧ H' pl = some (.lst (us.map V.ref)) ∧ LinesAt K H' us ls ∧ LInv ps ls i) ⟨v6, v8, v9, none, [], [], rfl, But.refl _ _, hl7, .nil, LInv.nil⟩ ?_ ?_⟩
    · rintro i σ H8 hi ⟨v6, v8, v9, v12, us, ls, rfl, kb, hl, hu, hL⟩
      rw [lpm] at hi
      rw [Int.zero_add]
      have hp8 := kb _ _ hp7 npl'
      have hk8 := kb _ _ hk7 nkl
      have hd8 := kb _ _ hd7 ndl
      have eti : ts[i]? = some ts[i] := List.getElem?_eq_getElem (by omega)
      obtain ⟨pr, epr, hT⟩ := Paired.at ht7 eti
      have hT8 := kb.tupL hl7 hT
      obtain ⟨pa, pb⟩ := pr
      obtain ⟨o1, o2, o3, o4⟩ := hI.ok _ (List.mem_of_getElem? epr)
      have o1 : pb < pa := o1
      have o2 : pa < ks.length := o2
      have eix : atI (ts.map V.ref) (i : Int) = some (V.ref ts[i]) := atI_nat (by rw [List.getElem?_map, eti]; rfl)
      refine ⟨_, rfl, _, rfl, pp, _, _, _, rfl, rfl, SqL.of hp8, eix, ts[i], _, rfl, hT8, rfl, _, _, rfl, _, _, rfl, rfl, ?_⟩
      refine ⟨_, rfl, _, rfl, pk, _, _, _, rfl, rfl, SqL.of hk8, atI_kind rfl o2, _, rfl, _, rfl, pk, _, _, _, rfl, rfl, SqL.of hk8, atI_kind rfl (by omega), rfl, ?_⟩
      have ix0 : atI (ds.map V.int) (2 * (i : Int)) = some (.int (ds.getD (2 * i) 0)) := atI_ints (by omega) (by omega)
      have ix1 : atI (ds.map V.int) (2 * (i : Int) + 1) = some (.int (ds.getD (2 * i + 1) 0)) := atI_ints (by omega) (by omega)
      have few := hL.few
      have lu : us.length = ls.length := hu.length
      have t0 : 0 ≤ ds.getD (2 * i + 1) 0 / 2 % 4 := Int.emod_nonneg _ (by decide)
      have t1 : ds.getD (2 * i + 1) 0 / 2 % 4 < 4 := Int.emod_lt_of_pos _ (by decide)
      dsimp only [gName]
      refine or_read (a := decide (ds.getD (2 * i) 0 % 5 < 3)) (b := (!decide (kindV (ks.getD pa true) = kindV (ks.getD pb true))) && decide (V.int (ds.getD (2 * i) 0 % 5) = V.int 3)) (fun Q q => ?_) (fun Q q => ?_) ?_
      · exact ⟨_, rfl, _, rfl, _, _, rfl, rfl, .inl ⟨by decide, by decide⟩, pd, _, _, _, rfl, rfl, SqL.of hd8, ix0, _, _, rfl, rfl, (by show (0 : Int) < 5; decide), _, _, rfl, rfl, _, rfl, q⟩
      · refine and_read (fun Q q => ?_) (fun _ Q q => ?_) q
        · exact ⟨_, rfl, _, rfl, q⟩
        · exact ⟨_, rfl, _, rfl, _, _, rfl, rfl, .inl ⟨by decide, by decide⟩, pd, _, _, _, rfl, rfl, SqL.of hd8, ix0, _, _, rfl, rfl, (by show (0 : Int) < 5; decide), rfl, _, rfl, q⟩
      · refine ite2 (fun _ => ?_) (fun _ => ?_)
        · refine ⟨_, rfl, _, rfl, _, _, rfl, rfl, .inl ⟨by decide, by decide⟩, _, _, rfl, rfl, pd, _, _, _, rfl, rfl, SqL.of hd8, ix1, _, _, rfl, rfl, (by show (0 : Int) < 2; decide), rfl, _, rfl, ite2 (fun _ => ?_) (fun _ => ?_)⟩
          · refine ⟨_, rfl, .inl ⟨rfl, _, SqL.of hl⟩, _, rfl, _, rfl, _, rfl, _, rfl, _, _, rfl, rfl, .inl ⟨by decide, by decide⟩, _, _, rfl, rfl, pd, _, _, _, rfl, rfl, SqL.of hd8, ix1, _, _, rfl, rfl, ⟨by decide, by decide⟩, _, _, rfl, rfl, (by show (0 : Int) < 4; decide), by show 3 ≤ sizeLine; decide, fun t nt => ?_⟩
            have st := same_new (o := .tup [V.int (pa : Int), V.int (pb : Int), V.int (ds.getD (2 * i + 1) 0 / 2 % 4)]) nt
            have hl' := st _ _ hl
            refine ⟨pl, _, _, rfl, rfl, hl', szl (by rw [List.length_map]; omega), ?_⟩
            refine ⟨_, _, _, _, us ++ [t], ls ++ [(pa, pb, ds.getD (2 * i + 1) 0 / 2 % 4)], rfl, kb.trans (but_app nt), ?_, ?_, hL.snoc hI.nd (by rw [norm_gt o1]; exact epr) ⟨t0, Int.le_of_lt t1⟩⟩
            · rw [upd_same, List.map_append]
              rfl
            · have kb2 : But pl (upd H8 t (.tup [V.int (pa : Int), V.int (pb : Int), V.int (ds.getD (2 * i + 1) 0 / 2 % 4)])) (upd (upd H8 t (.tup [V.int (pa : Int), V.int (pb : Int), V.int (ds.getD (2 * i + 1) 0 / 2 % 4)])) pl (.lst (us.map V.ref ++ [V.ref t]))) := but_self
              exact LinesAt.snoc (LinesAt.mono hu fun a b z => kb2.tupL hl' (same_tup st z)) (kb2.tupL hl' (SqT.of upd_same))
          · refine ⟨_, rfl, .inl ⟨rfl, _, SqL.of hl⟩, _, rfl, _, rfl, _, rfl, _, rfl, _, _, rfl, rfl, .inl ⟨by decide, by decide⟩, _, _, rfl, rfl, pd, _, _, _, rfl, rfl, SqL.of hd8, ix1, _, _, rfl, rfl, ⟨by decide, by decide⟩, _, _, rfl, rfl, (by show (0 : Int) < 4; decide), by show 3 ≤ sizeLine; decide, fun t nt => ?_⟩
            have st := same_new (o := .tup [V.int (pb : Int), V.int (pa : Int), V.int (ds.getD (2 * i + 1) 0 / 2 % 4)]) nt
            have hl' := st _ _ hl
            refine ⟨pl, _, _, rfl, rfl, hl', szl (by rw [List.length_map]; omega), ?_⟩
            refine ⟨_, _, _, _, us ++ [t], ls ++ [(pb, pa, ds.getD (2 * i + 1) 0 / 2 % 4)], rfl, kb.trans (but_app nt), ?_, ?_, hL.snoc hI.nd (by rw [norm_lt o1]; exact epr) ⟨t0, Int.le_of_lt t1⟩⟩
            · rw [upd_same, List.map_append]
              rfl
            · have kb2 : But pl (upd H8 t (.tup [V.int (pb : Int), V.int (pa : Int), V.int (ds.getD (2 * i + 1) 0 / 2 % 4)])) (upd (upd H8 t (.tup [V.int (pb : Int), V.int (pa : Int), V.int (ds.getD (2 * i + 1) 0 / 2 % 4)])) pl (.lst (us.map V.ref ++ [V.ref t]))) := but_self
              exact LinesAt.snoc (LinesAt.mono hu fun a b z => kb2.tupL hl' (same_tup st z)) (kb2.tupL hl' (SqT.of upd_same))
        · exact ⟨_, _, _, _, us, ls, rfl, kb, hl, hu, hL.skip⟩
    rintro σ H8 ⟨v6, v8, v9, v12, us, ls, rfl, kb8, hl8, hu8, hL⟩
    rw [lpm] at hL
    have hH : HInv ks ps ls 0 0 := hL.host (by omega)
    have hn8 := kb8 _ _ hn7 nnl
    have hk8 := kb8 _ _ hk7 nkl
    -- the end, from any such state
    have fin : ∀ (H9 : Hp) (us : List Addr) (ls : List (Nat × Nat × Int)), But pl H7 H9 → H9 pl = some (.lst (us.map V.ref)) → LinesAt K H9 us ls → LsOk ks.length ls →
        ∀ (H10 : Hp), Same H9 H10 → ∀ (x dx : Addr), H10 x = none → H10 dx = none → dx ≠ x → ∀ er : Int, 0 ≤ er → er ≤ 2 →
          spInit K C [.ref x, .ref pk, .ref pl, .int (ns.getD 6 0 / 5 % 3), .int er] (upd (upd H10 dx (.own x)) x (.ins C dx [])) (fun v H' => v = .non ∧ Q (.ref x) H') E0 := by
      intro H9 us ls kb hl hu hL H10 s10 x dx nx ndx ne er e0 e1
      have S9 : Same H H9 := same_but S7 nplH kb
      have z : ∀ b o, H10 b = some o → b ≠ x ∧ (upd (upd H10 dx (.own x)) x (.ins C dx [])) b = some o := fun b o e => by
        have h1 := ne_of_none e nx
        exact ⟨h1, by rw [upd_ne h1, upd_ne (ne_of_none e ndx)]; exact e⟩
      have zs : Same H10 (upd (upd H10 dx (.own x)) x (.ins C dx [])) := fun b o e => (z b o e).2
      refine ⟨x, dx, pk, pl, us, ⟨ks, ls, ns.getD 6 0 / 5 % 3, er⟩, rfl, upd_same, SqL.of (zs _ _ (s10 _ _ (kb _ _ hk7 nkl))), SqL.of (zs _ _ (s10 _ _ hl)), LinesAt.mono hu fun a ys t => same_tup zs (same_tup s10 t), ?_, fun H' kb' hN => ⟨rfl, ?_⟩⟩
      · have := hL.few
        show ls.length ≤ 1000
        omega
      · refine q H' x _ (fun b o e => ?_) (S9.free (s10.free nx)) hN.at ⟨by show 2 ≤ ks.count true; omega, by show ks.count true ≤ 4; omega, by show 1 ≤ ks.count false; omega, by show ks.count false ≤ 3; omega, hL, Int.emod_nonneg _ (by decide), ?_, e0, e1⟩
        · obtain ⟨z1, z2⟩ := z b o (s10 _ _ (S9 _ _ e))
          exact kb' b o z2 z1
        · have : ns.getD 6 0 / 5 % 3 < 3 := Int.emod_lt_of_pos _ (by decide)
          show ns.getD 6 0 / 5 % 3 ≤ 2
          omega
    have u0 : 0 ≤ ns.getD 7 0 % 4 := Int.emod_nonneg _ (by decide)
    have u1 : ns.getD 7 0 % 4 < 4 := Int.emod_lt_of_pos _ (by decide)
    obtain ⟨er, ee, er0, er1⟩ := er_at u0 u1
    -- if numbers[5] % 7 == 0
    refine ⟨_, rfl, pn, _, _, _, rfl, rfl, SqL.of hn8, atI_ints (j := 5) rfl (by omega), _, _, rfl, rfl, (by show (0 : Int) < 7; decide), rfl, _, rfl, ite2 (fun _ => ?_) (fun _ => ?_)⟩
    · refine ⟨_, rfl, pk, _, rfl, .inl (SqL.of hk8), _, rfl, by omega, by omega, for_range (n := (ks.map kindV).length) (fun i σ H' => ∃ (v8 v9 : Option V) (us : List Addr) (ls : List (Nat × Nat × Int)), σ = [some (.int c), some (.int m), some (.ref pn), some (.int (2 + ns.getD 0 0 % 3)), some (.int (1 + ns.getD 1 0 % 3)), some (.ref pk), v6, some (.ref pp), v8, v9, some (.ref pd), some (.ref pl), v12] ∧
        But pl H7 H' ∧ H' pl = some (.lst (us.map V.ref)) ∧ LinesAt K H' us ls ∧ HInv ks ps ls i 0) ⟨v8, v9, us, ls, rfl, kb8, hl8, hu8, hH⟩ ?_ ?_⟩
      · rintro i σ H9 hi ⟨v8, v9, us, ls, rfl, kb, hl, hu, hL⟩
        rw [lkm] at hi
        rw [Int.zero_add]
        refine ⟨_, rfl, (i : Int), rfl, by omega, by omega, for_range (n := i) (fun j σ H' => ∃ (v9 : Option V) (us : List Addr) (ls : List (Nat × Nat × Int)), σ = [some (.int c), some (.int m), some (.ref pn), some (.int (2 + ns.getD 0 0 % 3)), some (.int (1 + ns.getD 1 0 % 3)), some (.ref pk), v6, some (.ref pp), some (.int (i : Int)), v9, some (.ref pd), some (.ref pl), v12] ∧
          But pl H7 H' ∧ H' pl = some (.lst (us.map V.ref)) ∧ LinesAt K H' us ls ∧ HInv ks ps ls i j) ⟨v9, us, ls, rfl, kb, hl, hu, hL⟩ ?_ ?_⟩
        · rintro j σ H9 hj ⟨v9, us, ls, rfl, kb, hl, hu, hL⟩
          rw [Int.zero_add]
          have hk9 := kb _ _ hk7 nkl
          have hn9 := kb _ _ hn7 nnl
          have lu : us.length = ls.length := hu.length
          have few := hL.few
          refine and_read (a := decide (kindV (ks.getD i true) = V.str "host")) (b := decide (kindV (ks.getD j true) = V.str "host") && decide ((((us.map V.ref).length : Nat) : Int) < 20)) (fun Q q => ?_) (fun _ Q q => ?_) ?_
          · exact ⟨_, rfl, _, rfl, pk, _, _, _, rfl, rfl, SqL.of hk9, atI_kind rfl hi, rfl, _, rfl, q⟩
          · refine and_read (fun Q q => ?_) (fun _ Q q => ?_) q
            · exact ⟨_, rfl, _, rfl, pk, _, _, _, rfl, rfl, SqL.of hk9, atI_kind rfl (by omega), rfl, _, rfl, q⟩
            · exact ⟨_, rfl, pl, _, rfl, .inl (SqL.of hl), _, _, rfl, rfl, _, rfl, q⟩
          · refine ite2 (fun e => ?_) (fun e => ?_)
            · rw [Bool.and_eq_true, Bool.and_eq_true] at e
              obtain ⟨e1, e2, e3⟩ := e
              have e1 := kind_ho (of_decide_eq_true e1)
              have e2 := kind_ho (of_decide_eq_true e2)
              have e3 := of_decide_eq_true e3
              rw [List.length_map] at e3
              have t0 : 0 ≤ ns.getD 6 0 % 5 := Int.emod_nonneg _ (by decide)
              have t1 : ns.getD 6 0 % 5 < 5 := Int.emod_lt_of_pos _ (by decide)
              refine ⟨_, rfl, .inl ⟨rfl, _, SqL.of hl⟩, _, rfl, _, rfl, _, rfl, pn, _, _, _, rfl, rfl, SqL.of hn9, atI_ints (j := 6) rfl (by omega), _, _, rfl, rfl, (by show (0 : Int) < 5; decide), by show 3 ≤ sizeLine; decide, fun t nt => ?_⟩
              have st := same_new (o := .tup [V.int (i : Int), V.int (j : Int), V.int (ns.getD 6 0 % 5)]) nt
              have hl' := st _ _ hl
              refine ⟨pl, _, _, rfl, rfl, hl', szl (by rw [List.length_map]; omega), ?_⟩
              refine ⟨_, us ++ [t], ls ++ [(i, j, ns.getD 6 0 % 5)], rfl, kb.trans (but_app nt), ?_, ?_, hL.snoc hI hi hj e1 e2 ⟨t0, by omega⟩ (by omega)⟩
              · rw [upd_same, List.map_append]
                rfl
              · have kb2 : But pl (upd H9 t (.tup [V.int (i : Int), V.int (j : Int), V.int (ns.getD 6 0 % 5)])) (upd (upd H9 t (.tup [V.int (i : Int), V.int (j : Int), V.int (ns.getD 6 0 % 5)])) pl (.lst (us.map V.ref ++ [V.ref t]))) := but_self
                exact LinesAt.snoc (LinesAt.mono hu fun a b z => kb2.tupL hl' (same_tup st z)) (kb2.tupL hl' (SqT.of upd_same))
            · exact ⟨_, us, ls, rfl, kb, hl, hu, hL.skip⟩
        · rintro σ H9 ⟨v9, us, ls, rfl, kb, hl, hu, hL⟩
          exact ⟨_, v9, us, ls, rfl, kb, hl, hu, hL.next⟩
      · rintro σ H9 ⟨v8, v9, us, ls, rfl, kb, hl, hu, hL⟩
        have hn9 := kb _ _ hn7 nnl
        refine ⟨_, rfl, _, rfl, _, rfl, pn, _, _, _, rfl, rfl, SqL.of hn9, atI_ints (j := 6) rfl (by omega), _, _, rfl, rfl, ⟨by decide, by decide⟩, _, _, rfl, rfl, (by show (0 : Int) < 3; decide), by show 4 ≤ sizeLine; decide, fun pe npe => ?_⟩
        have se := same_new (o := .lst [V.int 0, V.int 1, V.int 0, V.int 2]) npe
        refine ⟨_, rfl, pn, _, _, _, rfl, rfl, SqL.of (se _ _ hn9), atI_ints (j := 7) rfl (by omega), _, _, rfl, rfl, (by show (0 : Int) < 4; decide), pe, _, _, _, rfl, rfl, SqL.of upd_same, ee, rfl, rfl, fun x dx nx ndx ne => ?_⟩
        exact fin H9 us ls kb hl hu (hL.ok hI) _ se x dx nx ndx ne er er0 er1
    · refine ⟨_, rfl, _, rfl, _, rfl, pn, _, _, _, rfl, rfl, SqL.of hn8, atI_ints (j := 6) rfl (by omega), _, _, rfl, rfl, ⟨by decide, by decide⟩, _, _, rfl, rfl, (by show (0 : Int) < 3; decide), by show 4 ≤ sizeLine; decide, fun pe npe => ?_⟩
      have se := same_new (o := .lst [V.int 0, V.int 1, V.int 0, V.int 2]) npe
      refine ⟨_, rfl, pn, _, _, _, rfl, rfl, SqL.of (se _ _ hn8), atI_ints (j := 7) rfl (by omega), _, _, rfl, rfl, (by show (0 : Int) < 4; decide), pe, _, _, _, rfl, rfl, SqL.of upd_same, ee, rfl, rfl, fun x dx nx ndx ne => ?_⟩
      exact fin H8 us ls kb8 hl8 hu8 (hH.ok hI) _ se x dx nx ndx ne er er0 er1
end
end My
namespace My
open PySem PySem.Spec PyProof.Rows L2
abbrev sJoined : Stmt := top 20 /-_law_joined-/
abbrev sPaths : Stmt := top 21 /-_law_paths-/
section
variable {P : Program} {w : World} {K : PySem.W.Frag} {mg : Str → Option Value} {base : Heap}
/-! ### _law_joined -/
theorem scJ : FnScope ["net", "a", "b", "first", "second", "ticks"] ["net", "a", "b"] (defScope sJoined) := ⟨rfl, rfl, rfl, by decide +kernel, rfl, by decide +kernel, by decide +kernel⟩
def spJoined (K : PySem.W.Frag) (C : Addr) : Sp := fun vs H Q _ => ∃ (p : Addr) (a b : Nat) (N : NetD), vs = [.ref p, .int (a : Int), .int (b : Int)] ∧ NetAt K C H p N ∧ Q (optV (joined N a b)) H
theorem ok_joined {f C : Addr} {fd : FuncData} {k : Nat} (F : Fun K "_law_joined" "_law_joined" sJoined f fd) (c : NetC K C) : FnOk P w K mg base CX0 (k + 1) f fd ["net", "a", "b"] (spJoined K C) := by
  refine F.ok scJ (fun vs H Q E h => ?_) (fun cdv A outer s H vs Q E hr h => ?_)
  · obtain ⟨p, a, b, N, rfl, _⟩ := h
    rfl
  · obtain ⟨p, a, b, N, rfl, hN, q⟩ := h
    have nd := scJ.nd
    refine ⟨_, pss_cons (ps_for PassesOwn.never rfl (pi_list (pe_fld (pv 0) rfl)) (pg_tup rfl (pgs_cons (pg_name (i := 3) nd rfl (.inl rfl)) (pgs_cons (pg_name (i := 4) nd rfl (.inl rfl)) (pgs_cons (pg_name (i := 5) nd rfl (.inl rfl)) pgs_nil)))) (pss_one (ps_if (PW.pt (pw_or (PW.pt (pw_and (pt_cmpR op_eq (pv 3) (pv 1) (nomark _)) (pw_and1 (pt_cmpR op_eq (pv 4) (pv 2) (nomark _))))) (pw_or1 (PW.pt (pw_and (pt_cmpR op_eq (pv 3) (pv 2) (nomark _)) (pw_and1 (pt_cmpR op_eq (pv 4) (pv 1) (nomark _)))))))) (pss_one (ps_ret (pv 5))) (pss_nil)))) <| pss_one (ps_ret pe_non), ?_⟩
    obtain ⟨dx, lk, ll, ld, ts, e1, e2, e3, e4, e5⟩ := id hN
    have tlen : ts.length = N.ls.length := e4.length
    refine ⟨_, rfl, p, C, dx, _, _, rfl, e1, c.cl, c.n2, g2, ll, rfl, ⟨_, SqL.of e3⟩, for_list (K := K) (a := ll) (xs := ts.map V.ref) (fun i σ H' => ∃ (v3 v4 v5 : Option V), σ = [some (.ref p), some (.int (a : Int)), some (.int (b : Int)), v3, v4, v5] ∧ H' = H ∧ (N.ls.take i).find? (hits a b) = none)
      ⟨none, none, none, rfl, rfl, rfl⟩ (fun i σ H' _ ⟨_, _, _, _, z, _⟩ => by rw [z]; exact SqL.of e3) ?_ ?_⟩
    · rintro i x σ H' hi ⟨v3, v4, v5, rfl, rfl, hf⟩
      rw [List.getElem?_map] at hi
      cases ht : ts[i]? with
      | none => rw [ht] at hi; cases hi
      | some t =>
        rw [ht] at hi
        cases hi
        obtain ⟨l, el, hT⟩ := Paired.at e4 ht
        refine ⟨t, _, rfl, hT, rfl, _, _, rfl, _, _, rfl, _, _, rfl, rfl, ?_⟩
        have eb : (decide (V.int (l.1 : Int) = V.int (a : Int)) && decide (V.int (l.2.1 : Int) = V.int (b : Int)) || decide (V.int (l.1 : Int) = V.int (b : Int)) && decide (V.int (l.2.1 : Int) = V.int (a : Int))) = hits a b l := by
          rw [dec_nat, dec_nat, dec_nat, dec_nat]
          rfl
        refine or_read (a := decide (V.int (l.1 : Int) = V.int (a : Int)) && decide (V.int (l.2.1 : Int) = V.int (b : Int))) (b := decide (V.int (l.1 : Int) = V.int (b : Int)) && decide (V.int (l.2.1 : Int) = V.int (a : Int))) (fun Q q => ?_) (fun Q q => ?_) ?_
        · exact and_read (fun Q q => ⟨_, rfl, _, rfl, rfl, _, rfl, q⟩) (fun _ Q q => ⟨_, rfl, _, rfl, rfl, _, rfl, q⟩) q
        · exact and_read (fun Q q => ⟨_, rfl, _, rfl, rfl, _, rfl, q⟩) (fun _ Q q => ⟨_, rfl, _, rfl, rfl, _, rfl, q⟩) q
        · rw [eb]
          refine ite2 (fun e => ?_) (fun e => ?_)
          · have ej : joined N a b = some l.2.2 := by
              unfold joined
              rw [find_take (hits a b) el hf e]
              rfl
            rw [ej] at q
            exact ⟨_, rfl, q⟩
          · exact ⟨_, _, _, rfl, rfl, find_skip (hits a b) el hf e⟩
    · rintro σ H' ⟨v3, v4, v5, rfl, rfl, hf⟩
      rw [List.length_map, tlen, List.take_length] at hf
      have ej : joined N a b = none := by
        unfold joined
        rw [hf]
        rfl
      rw [ej] at q
      exact q
/-! ### _law_paths -/
theorem scP : FnScope ["net", "most", "found", "rows", "turn", "longer", "row", "b", "a"] ["net", "most"] (defScope sPaths) := ⟨rfl, rfl, rfl, by decide +kernel, rfl, by decide +kernel, by decide +kernel⟩
def spPaths (K : PySem.W.Frag) (C : Addr) : Sp := fun vs H Q _ => ∃ (p : Addr) (m : Nat) (N : NetD), vs = [.ref p, .int ((m : Int) + 1)] ∧ NetAt K C H p N ∧ N.ks.length ≤ 7 ∧ m ≤ 4 ∧
  ∀ (H' : Hp) (pf : Addr) (fs : List Addr), Same H H' → H pf = none → H' pf = some (.lst (fs.map V.ref)) → RowsAt H' fs (foundOf N m) → Q (.ref pf) H'
theorem ok_paths {f C fJ : Addr} {fd fdJ : FuncData} {k : Nat} (F : Fun K "_law_paths" "_law_paths" sPaths f fd) (T : Blt mg) (c : NetC K C) (J : Callee P w K mg base 1 "_law_joined" ["net", "a", "b"] (spJoined K C) fJ fdJ) :
    FnOk P w K mg base CX0 (k + 2) f fd ["net", "most"] (spPaths K C) := by
  refine F.ok scP (fun vs H Q E h => ?_) (fun cdv A outer s H vs Q E hr h => ?_)
  · obtain ⟨p, m, N, rfl, _⟩ := h
    rfl
  · obtain ⟨p, m, N, rfl, hN, hn, hm, q⟩ := h
    have nd := scP.nd
    have hr1 : Room 1 _ := hr.mono (by omega)
    refine ⟨_, pss_cons (ps_set (i := 2) nd rfl (.inl rfl) (pe_lst pa_nil)) <| pss_cons (ps_setLc (i := 3) (own := [("a", 8)]) (g := gName 8) rfl nd rfl rfl (sw_true rfl rfl rfl (by decide +kernel)) (pi_range1 (by rfl) T.range (pa_cons (pe_callB call_len_seq (by rfl) T.len PySem.boot_len (pa_cons (pe_fld (pv 0) rfl) pa_nil)) pa_nil)) (blkOk_by (own := [("a", 8)]) (N := ["net", "most", "found", "rows", "turn", "longer", "row", "b", "a"]) (sc := defScope sPaths) (by decide +kernel)) (fun _ _ _ _ _ => pg_name (i := 8) nd rfl (Or.inl rfl)) (fun _ _ _ _ _ => pts_one (pt_cmpR op_eq (pe_ix (ix_listK (K := K)) (pe_fldK (K := K) (pv 0)) (pv 8) (fun _ _ => rfl)) pe_str (nomark _))) (fun _ _ _ _ _ => (pe_lst (pa_cons (pv 8) pa_nil)))) <| pss_cons (ps_for PassesOwn.never rfl (pi_range1 (by rfl) T.range (pa_cons (pe_op op_sub (pv 1) pe_int) pa_nil)) (pg_name (i := 4) nd rfl (.inl rfl)) (pss_cons (ps_set (i := 5) nd rfl (.inl rfl) (pe_lst pa_nil)) <| pss_cons (ps_for PassesOwn.never rfl (pi_list (pv 3)) (pg_name (i := 6) nd rfl (.inl rfl)) (pss_one (ps_for PassesOwn.never rfl (pi_range1 (by rfl) T.range (pa_cons (pe_callB call_len_seq (by rfl) T.len PySem.boot_len (pa_cons (pe_fld (pv 0) rfl) pa_nil)) pa_nil)) (pg_name (i := 7) nd rfl (.inl rfl)) (pss_one (ps_if (PW.pt (pw_and (pt_cmpR op_notIn_seq (pv 7) (pv 6) rfl) (pw_and1 (pt_cmpR op_notN (pe_call J.ok hr1 (by rfl) J.mg J.kp J.b .nil pass0 (pa_cons (pv 0) (pa_cons (pe_ix ix_list (pv 6) (pe_op op_sub (pe_callB call_len_seq (by rfl) T.len PySem.boot_len (pa_cons (pv 6) pa_nil)) pe_int) (fun _ _ => rfl)) (pa_cons (pv 7) pa_nil)))) pe_non (nomark _))))) (pss_one (ps_if (pt_cmpR op_eq (pe_ix ix_list (pe_fld (pv 0) rfl) (pv 7) (fun _ _ => rfl)) pe_str (nomark _)) (pss_one (ps_expr (pe_bm PySem.F.plainAttrs_list PySem.F.slot_list_append PySem.F.type_list_append mt_append (pv 2) (pa_cons (pe_op op_cat (pv 6) (pe_lst (pa_cons (pv 7) pa_nil))) pa_nil)))) (pss_one (ps_expr (pe_bm PySem.F.plainAttrs_list PySem.F.slot_list_append PySem.F.type_list_append mt_append (pv 5) (pa_cons (pe_op op_cat (pv 6) (pe_lst (pa_cons (pv 7) pa_nil))) pa_nil)))))) (pss_nil)))))) <| pss_one (ps_set (i := 3) nd rfl (.inl rfl) (pv 5)))) <| pss_one (ps_ret (pv 2)), ?_⟩
    have eN := hN
    obtain ⟨dx, lk, ll, ld, ts, e1, e2, e3, e4, e5⟩ := hN
    have en : (N.ks.map kindV).length = N.ks.length := List.length_map ..
    -- found = []
    refine ⟨Nat.zero_le _, fun pf npf => ?_⟩
    have s1 := same_new (o := .lst []) npf
    have hf1 : (upd H pf (.lst [])) pf = some (.lst []) := upd_same
    generalize (upd H pf (.lst [])) = H1 at s1 hf1 ⊢
    -- rows = [[a] for a in range(len(net.kinds)) if net.kinds[a] == "host"]
    refine ⟨_, rfl, p, C, dx, _, _, rfl, s1 _ _ e1, c.cl, c.n1, g1, lk, _, rfl, .inl (SqL.of (s1 _ _ e2)), _, rfl, by omega, by omega, fun D nD => ?_⟩
    have nfD : pf ≠ D := ne_of_none hf1 nD
    refine lc_range (lo := 0) (n := (N.ks.map kindV).length) (fun i H' => Same H H' ∧ H' pf = some (.lst []) ∧ ∃ rs : List Addr, H' D = some (.lst (rs.map V.ref)) ∧ RowsAt H' rs (((List.range i).filter (host N)).map fun a => [a]) ∧ rs.length ≤ i)
      ⟨s1.trans (same_new nD), by rw [upd_ne nfD]; exact hf1, [], upd_same, .nil, Nat.le_refl _⟩ ?_ ?_
    · rintro i H' hi ⟨sm, hf, rs, hD, hR, hl⟩
      rw [en] at hi
      rw [Int.zero_add]
      refine ⟨rfl, ?_⟩
      refine ⟨_, rfl, p, C, dx, _, _, rfl, sm _ _ e1, c.cl, c.n1, g1, _, rfl, lk, _, _, _, rfl, rfl, SqL.of (sm _ _ e2), atI_kind rfl hi, rfl, _, rfl, ?_⟩
      have eb : decide (kindV (N.ks.getD i true) = V.str "host") = host N i := by
        unfold host
        cases N.ks.getD i true <;> decide +kernel
      rw [eb]
      refine ite2 (fun e => ?_) (fun e => ?_)
      · refine ⟨_, rfl, by show 1 ≤ sizeLine; decide, fun t nt => ?_⟩
        have st := same_new (o := .lst [V.int (i : Int)]) nt
        have hD' := st _ _ hD
        refine ⟨_, hD', szl (by rw [List.length_map]; omega), ?_⟩
        have kb : But D (upd H' t (.lst [V.int (i : Int)])) (upd (upd H' t (.lst [V.int (i : Int)])) D (.lst (rs.map V.ref ++ [V.ref t]))) := but_self
        have ntD : t ≠ D := fun z => by rw [z, hD] at nt; cases nt
        refine ⟨same_but (sm.trans st) (s1.free nD) kb, kb _ _ (st _ _ hf) nfD, rs ++ [t], ?_, ?_, by rw [List.length_append, List.length_singleton]; omega⟩
        · rw [upd_same, List.map_append]
          rfl
        · rw [filt_succ, if_pos e]
          refine RowsAt.snoc ((hR.same st).but hD' kb) (by simp) ?_
          rw [upd_ne ntD, upd_same]
          rfl
      · refine ⟨sm, hf, rs, hD, ?_, by omega⟩
        rw [filt_succ, if_neg e, List.append_nil]
        exact hR
    rintro H2 ⟨s2, hf2, rs, hD2, hR2, _⟩
    rw [en] at hR2
    -- the turns
    refine ⟨_, rfl, _, _, rfl, rfl, (m : Int) + 1 - 1, rfl, by omega, by omega, for_range (n := ((m : Int) + 1 - 1).toNat) (fun t σ H' => ∃ (pr : Addr) (rs fs : List Addr) (v4 v5 v6 v7 v8 : Option V), σ = [some (.ref p), some (.int ((m : Int) + 1)), some (.ref pf), some (.ref pr), v4, v5, v6, v7, v8] ∧
      Same H H' ∧ pr ≠ pf ∧ H' pf = some (.lst (fs.map V.ref)) ∧ RowsAt H' fs (foundOf N t) ∧ H' pr = some (.lst (rs.map V.ref)) ∧ RowsAt H' rs (rowsOf N t))
      ⟨D, rs, [], _, _, _, _, _, rfl, s2, nfD.symm, hf2, .nil, hD2, hR2⟩ ?_ ?_⟩
    · rintro t σ H3 ht ⟨pr, rs, fs, v4, v5, v6, v7, v8, rfl, s3, nrf, hf3, hF3, hr3, hR3⟩
      have ht4 : t < 4 := by omega
      have lrs : rs.length = (rowsOf N t).length := hR3.length
      have lfs : fs.length = (foundOf N t).length := hF3.length
      have b1 := rows_len N hn t
      have b2 := found_len N hn t
      have b3 : 8 ^ (t + 1) ≤ 8 ^ 4 := Nat.pow_le_pow_right (by decide) (by omega)
      have b4 : (8 : Nat) ^ 4 = 4096 := by decide
      -- longer = []
      refine ⟨Nat.zero_le _, fun pl npl => ?_⟩
      have s4 := same_new (o := .lst []) npl
      have nfl : pf ≠ pl := ne_of_none hf3 npl
      have nrl : pr ≠ pl := ne_of_none hr3 npl
      have nplH := s3.free npl
      have hl4 : (upd H3 pl (.lst [])) pl = some (.lst []) := upd_same
      have hf4 := s4 _ _ hf3
      have hr4 := s4 _ _ hr3
      have hF4 := hF3.same s4
      have hR4 := hR3.same s4
      have S4 := s3.trans s4
      generalize (upd H3 pl (.lst [])) = H4 at s4 hl4 hf4 hr4 hF4 hR4 S4 ⊢
      -- for row in rows
      refine ⟨_, rfl, pr, rfl, ⟨_, SqL.of hr4⟩, for_list (K := K) (a := pr) (xs := rs.map V.ref) (fun i σ H' => ∃ (fs ls : List Addr) (v6 v7 : Option V), σ = [some (.ref p), some (.int ((m : Int) + 1)), some (.ref pf), some (.ref pr), some (.int (0 + (t : Int))), some (.ref pl), v6, v7, v8] ∧
        Same H H' ∧ H' pf = some (.lst (fs.map V.ref)) ∧ RowsAt H' fs (foundOf N t ++ ((rowsOf N t).take i).flatMap (exH N)) ∧ H' pl = some (.lst (ls.map V.ref)) ∧ RowsAt H' ls (((rowsOf N t).take i).flatMap (exS N)) ∧ H' pr = some (.lst (rs.map V.ref)) ∧ RowsAt H' rs (rowsOf N t))
        ⟨fs, [], v6, v7, rfl, S4, hf4, by simpa using hF4, hl4, .nil, hr4, hR4⟩ (fun i σ H' _ ⟨_, _, _, _, _, _, _, _, _, _, z, _⟩ => SqL.of z) ?_ ?_⟩
      · rintro i x σ H5 hi ⟨fs, ls, v6, v7, rfl, s5, hf5, hF5, hl5, hL5, hr5, hR5⟩
        rw [List.getElem?_map] at hi
        cases htr : rs[i]? with
        | none => rw [htr] at hi; cases hi
        | some ra =>
          rw [htr] at hi
          cases hi
          obtain ⟨row, erow, rne, hrow⟩ := Paired.at hR5 htr
          have hii : i < (rowsOf N t).length := (List.getElem?_eq_some_iff.mp erow).1
          have f1 := len_flat (exH N) 7 (fun a => Nat.le_trans (exH_len N a) hn) ((rowsOf N t).take i)
          have f2 := len_flat (exS N) 7 (fun a => Nat.le_trans (exS_len N a) hn) ((rowsOf N t).take i)
          have f3 : ((rowsOf N t).take i).length ≤ 4096 := by rw [List.length_take]; omega
          refine ⟨_, rfl, p, C, dx, _, _, rfl, s5 _ _ e1, c.cl, c.n1, g1, lk, _, rfl, .inl (SqL.of (s5 _ _ e2)), _, rfl, by omega, by omega, for_range (n := (N.ks.map kindV).length) (fun j σ H' => ∃ (fs ls : List Addr) (v7 : Option V), σ = [some (.ref p), some (.int ((m : Int) + 1)), some (.ref pf), some (.ref pr), some (.int (0 + (t : Int))), some (.ref pl), some (.ref ra), v7, v8] ∧
            Same H H' ∧ H' pf = some (.lst (fs.map V.ref)) ∧ RowsAt H' fs (foundOf N t ++ ((rowsOf N t).take i).flatMap (exH N) ++ ((List.range j).filter fun b => okb N row b && host N b).map fun b => row ++ [b]) ∧
            H' pl = some (.lst (ls.map V.ref)) ∧ RowsAt H' ls (((rowsOf N t).take i).flatMap (exS N) ++ ((List.range j).filter fun b => okb N row b && !host N b).map fun b => row ++ [b]) ∧ H' pr = some (.lst (rs.map V.ref)) ∧ RowsAt H' rs (rowsOf N t) ∧ H' ra = some (.lst (natsV row)))
            ⟨fs, ls, v7, rfl, s5, hf5, by simpa using hF5, hl5, by simpa using hL5, hr5, hR5, hrow⟩ ?_ ?_⟩
          · rintro j σ H6 hj ⟨fs, ls, v7, rfl, s6, hf6, hF6, hl6, hL6, hr6, hR6, hrow6⟩
            rw [en] at hj
            rw [Int.zero_add]
            have lf := hF6.length
            have ll' := hL6.length
            rw [List.length_append, List.length_append, List.length_map] at lf
            rw [List.length_append, List.length_map] at ll'
            have lq1 := List.length_filter_le (fun b => okb N row b && host N b) (List.range j)
            have lq2 := List.length_filter_le (fun b => okb N row b && !host N b) (List.range j)
            rw [List.length_range] at lq1 lq2
            have rl : 0 < row.length := List.length_pos_iff.mpr rne
            have rlc : row.length ≤ 100 := by rw [rows_row N t row (List.mem_of_getElem? erow)]; omega
            have elast : atI (natsV row) (((natsV row).length : Int) - 1) = some (.int ((lastN row : Nat) : Int)) := by
              have h1 : row.length - 1 < row.length := by omega
              have h2 : (((natsV row).length : Int) - 1) = ((row.length - 1 : Nat) : Int) := by rw [natsV_len]; omega
              rw [h2]
              exact atI_nat (natsV_at (getD_at 0 h1))
            refine and_read (a := !(row.contains j)) (b := adj N (lastN row) j) (fun Q q => ?_) (fun _ Q q => ?_) ?_
            · refine ⟨_, rfl, _, rfl, ra, natsV row, rfl, .inl (SqL.of hrow6), rfl, natsV_flat row, _, rfl, ?_⟩
              show Q (!inV (V.int (j : Int)) (natsV row)) H6
              rw [natsV_in]
              exact q
            · refine ⟨_, rfl, _, rfl, _, rfl, ra, _, rfl, .inl (SqL.of hrow6), _, _, rfl, rfl, ra, _, _, _, rfl, rfl, SqL.of hrow6, elast, _, rfl, p, lastN row, j, N, rfl, eN.same s6, ?_⟩
              refine ⟨rfl, _, rfl, ?_⟩
              rw [optV_non, joined_some]
              exact q
            · show (if okb N row j = true then _ else _)
              refine ite2 (fun e => ?_) (fun e => ?_)
              · have eb : decide (kindV (N.ks.getD j true) = V.str "host") = host N j := by
                  unfold host
                  cases N.ks.getD j true <;> decide +kernel
                refine ⟨_, rfl, p, C, dx, _, _, rfl, s6 _ _ e1, c.cl, c.n1, g1, _, rfl, lk, _, _, _, rfl, rfl, SqL.of (s6 _ _ e2), atI_kind rfl hj, rfl, _, rfl, ?_⟩
                rw [eb]
                refine ite2 (fun eh => ?_) (fun eh => ?_)
                · refine ⟨_, rfl, .inl ⟨rfl, _, SqL.of hf6⟩, _, rfl, _, rfl, by show 1 ≤ sizeLine; decide, fun u nu => ?_⟩
                  have su := same_new (o := .lst [V.int (j : Int)]) nu
                  refine ⟨ra, u, _, _, rfl, rfl, su _ _ hrow6, upd_same, sz (by rw [natsV_len]; show row.length + 1 ≤ 100000; omega), fun y ny => ?_⟩
                  have sy := same_new (o := .lst (natsV row ++ [V.int (j : Int)])) ny
                  have suy := su.trans sy
                  refine ⟨pf, _, _, rfl, rfl, suy _ _ hf6, szl (by rw [List.length_map]; omega), ?_⟩
                  have hy : (upd (upd H6 u (.lst [V.int (j : Int)])) y (.lst (natsV row ++ [V.int (j : Int)]))) y = some (.lst (natsV (row ++ [j]))) := by rw [upd_same, natsV_app]
                  have nyf : y ≠ pf := fun z => by rw [z, su _ _ hf6] at ny; cases ny
                  generalize (upd (upd H6 u (.lst [V.int (j : Int)])) y (.lst (natsV row ++ [V.int (j : Int)]))) = H7 at suy hy ⊢
                  have kb : But pf H7 (upd H7 pf (.lst (fs.map V.ref ++ [V.ref y]))) := but_self
                  have hf7 := suy _ _ hf6
                  refine ⟨fs ++ [y], ls, _, rfl, same_but (s6.trans suy) npf kb, by rw [upd_same, List.map_append]; rfl, ?_, kb _ _ (suy _ _ hl6) nfl.symm, ?_, kb _ _ (suy _ _ hr6) nrf, (hR6.same suy).but hf7 kb, kb _ _ (suy _ _ hrow6) (row_ne rne (suy _ _ hrow6) hf7)⟩
                  · rw [filt_succ, if_pos (by rw [e, eh]; rfl), ← List.append_assoc]
                    exact RowsAt.snoc ((hF6.same suy).but hf7 kb) (by simp) (kb _ _ hy nyf)
                  · rw [filt_succ, if_neg (by rw [e, eh]; decide), List.append_nil]
                    exact (hL6.same suy).but hf7 kb
                · have eh' : host N j = false := Bool.eq_false_iff.mpr eh
                  refine ⟨_, rfl, .inl ⟨rfl, _, SqL.of hl6⟩, _, rfl, _, rfl, by show 1 ≤ sizeLine; decide, fun u nu => ?_⟩
                  have su := same_new (o := .lst [V.int (j : Int)]) nu
                  refine ⟨ra, u, _, _, rfl, rfl, su _ _ hrow6, upd_same, sz (by rw [natsV_len]; show row.length + 1 ≤ 100000; omega), fun y ny => ?_⟩
                  have sy := same_new (o := .lst (natsV row ++ [V.int (j : Int)])) ny
                  have suy := su.trans sy
                  refine ⟨pl, _, _, rfl, rfl, suy _ _ hl6, szl (by rw [List.length_map]; omega), ?_⟩
                  have hy : (upd (upd H6 u (.lst [V.int (j : Int)])) y (.lst (natsV row ++ [V.int (j : Int)]))) y = some (.lst (natsV (row ++ [j]))) := by rw [upd_same, natsV_app]
                  have nyl : y ≠ pl := fun z => by rw [z, su _ _ hl6] at ny; cases ny
                  generalize (upd (upd H6 u (.lst [V.int (j : Int)])) y (.lst (natsV row ++ [V.int (j : Int)]))) = H7 at suy hy ⊢
                  have kb : But pl H7 (upd H7 pl (.lst (ls.map V.ref ++ [V.ref y]))) := but_self
                  have hl7 := suy _ _ hl6
                  refine ⟨fs, ls ++ [y], _, rfl, same_but (s6.trans suy) nplH kb, kb _ _ (suy _ _ hf6) nfl, ?_, by rw [upd_same, List.map_append]; rfl, ?_, kb _ _ (suy _ _ hr6) nrl, (hR6.same suy).but hl7 kb, kb _ _ (suy _ _ hrow6) (row_ne rne (suy _ _ hrow6) hl7)⟩
                  · rw [filt_succ, if_neg (by rw [e, eh']; decide), List.append_nil]
                    exact (hF6.same suy).but hl7 kb
                  · rw [filt_succ, if_pos (by rw [e, eh']; rfl), ← List.append_assoc]
                    exact RowsAt.snoc ((hL6.same suy).but hl7 kb) (by simp) (kb _ _ hy nyl)
              · have e' : okb N row j = false := Bool.eq_false_iff.mpr e
                refine ⟨fs, ls, _, rfl, s6, hf6, ?_, hl6, ?_, hr6, hR6, hrow6⟩
                · rw [filt_succ, if_neg (by rw [e']; simp), List.append_nil]
                  exact hF6
                · rw [filt_succ, if_neg (by rw [e']; simp), List.append_nil]
                  exact hL6
          · rintro σ H6 ⟨fs, ls, v7, rfl, s6, hf6, hF6, hl6, hL6, hr6, hR6, hrow6⟩
            rw [en] at hF6 hL6
            refine ⟨fs, ls, _, v7, rfl, s6, hf6, ?_, hl6, ?_, hr6, hR6⟩
            · rw [flat_take (exH N) erow, ← List.append_assoc]
              exact hF6
            · rw [flat_take (exS N) erow]
              exact hL6
      · rintro σ H5 ⟨fs, ls, v6, v7, rfl, s5, hf5, hF5, hl5, hL5, hr5, hR5⟩
        rw [List.length_map, lrs, List.take_length] at hF5 hL5
        refine ⟨_, rfl, pl, ls, fs, _, _, _, _, _, rfl, s5, nfl.symm, hf5, hF5, hl5, hL5⟩
    · rintro σ H3 ⟨pr, rs, fs, v4, v5, v6, v7, v8, rfl, s3, nrf, hf3, hF3, hr3, hR3⟩
      have em : ((m : Int) + 1 - 1).toNat = m := by omega
      rw [em] at hF3
      exact ⟨_, rfl, q H3 pf fs s3 npf hf3 hF3⟩
end
end My
namespace My
open PySem PySem.Spec PyProof.Rows L2
abbrev sDelay : Stmt := inClass sNet 2 /-Net.delay-/
abbrev sPorts : Stmt := top 6 /-ports_of-/
theorem u65 {k : Nat} {A : Around} (r : Room k A) : A.units + 65 < cLine := by
  have := r.un
  omega
theorem cut1 (xs : List V) : cutV xs (some 1) none = xs.drop 1 := by
  unfold cutV
  have e1 : HT.sIx xs.length 0 (some 1) = min 1 xs.length := HT.sIx_nat _ _ 1
  rw [e1, HT.sIx_none]
  cases xs with
  | nil => rfl
  | cons x r =>
    rw [List.length_cons, Nat.min_eq_left (by omega)]
    show (r.take (r.length + 1 - 1)) = r
    rw [Nat.add_sub_cancel, List.take_length]
theorem natsV_drop (r : List Nat) (n : Nat) : (natsV r).drop n = natsV (r.drop n) := by
  unfold natsV
  rw [List.map_drop]
theorem natsV_take (r : List Nat) (n : Nat) : (natsV r).take n = natsV (r.take n) := by
  unfold natsV
  rw [List.map_take]
theorem zip_ports {K : PySem.W.Frag} {H : Hp} : ∀ {a b : List Nat} {ts : List Addr}, Paired (fun (t : Addr) (z : V × V) => H t = some (.tup [z.1, z.2])) ts ((natsV a).zip (natsV b)) → PairsAt K H ts (a.zip b)
  | [], _, _, h => by
    cases h
    exact .nil
  | x :: a, [], _, h => by
    cases h
    exact .nil
  | x :: a, y :: b, _, h => by
    cases h with
    | cons r t => exact .cons (SqT.of r) (zip_ports t)
theorem nats_at {r : List Nat} {i : Nat} {x : V} (h : (natsV r)[i]? = some x) : ∃ n, r[i]? = some n ∧ x = .int (n : Int) := by
  unfold natsV at h
  rw [List.getElem?_map] at h
  cases e : r[i]? with
  | none => rw [e] at h; cases h
  | some n => rw [e] at h; exact ⟨n, rfl, (Option.some.inj h).symm⟩
section
variable {P : Program} {w : World} {K : PySem.W.Frag} {mg : Str → Option Value} {base : Heap}
structure MethOf (P : Program) (w : World) (K : PySem.W.Frag) (mg : Str → Option Value) (base : Heap) (k : Nat) (ps : List Str) (sp : Sp) (f : Addr) (fd : FuncData) : Prop where
  ok : FnOk P w K mg base CX0 k f fd ps sp
  b : Binds K fd ps []
/-! ### Net.delay -/
theorem scDelay : FnScope ["self", "a", "b"] ["self", "a", "b"] (defScope sDelay) := ⟨rfl, rfl, rfl, by decide +kernel, rfl, by decide +kernel, by decide +kernel⟩
def spDelay (K : PySem.W.Frag) (C : Addr) : Sp := fun vs H Q _ => ∃ (p : Addr) (a b : Nat) (N : NetD), vs = [.ref p, .int (a : Int), .int (b : Int)] ∧ NetAt K C H p N ∧ Dist N.ls ∧ ∀ H' : Hp, Same H H' → Q (optV (joined N a b)) H'
theorem ok_delay {f C : Addr} {fd : FuncData} {k : Nat} (F : Fun K "delay" "Net.delay" sDelay f fd) (c : NetC K C) : FnOk P w K mg base CX0 (k + 1) f fd ["self", "a", "b"] (spDelay K C) := by
  refine F.ok scDelay (fun vs H Q E h => ?_) (fun cdv A outer s H vs Q E hr h => ?_)
  · obtain ⟨p, a, b, N, rfl, _⟩ := h
    rfl
  · obtain ⟨p, a, b, N, rfl, hN, hD, q⟩ := h
    have nd := scDelay.nd
    have hu := hu_of hr
    refine ⟨_, pss_one (ps_ret (pe_dget1 hu (pe_fld (pv 0) rfl) (pe_tup (pa_cons (pv 1) (pa_cons (pv 2) pa_nil))) ⟨rfl, rfl, rfl, rfl⟩)), ?_⟩
    obtain ⟨dx, lk, ll, ld, ts, e1, e2, e3, e4, e5⟩ := hN
    refine ⟨_, rfl, p, C, dx, _, _, rfl, e1, c.cl, c.n5, g5, ld, rfl, .inr ⟨_, .inl e5⟩, _, rfl, _, rfl, by show 2 ≤ sizeLine; decide, fun t nt => ?_⟩
    have st := same_new (o := .tup [V.int (a : Int), V.int (b : Int)]) nt
    refine ⟨valV (delaysOf N.ls) (key2 a b), DGet.t (st _ _ e5) (k := key2 a b) (by rw [upd_same]; rfl), ?_⟩
    rw [val_joined hD]
    exact q _ st
/-! ### ports_of -/
theorem scPo : FnScope ["path"] ["path"] (defScope sPorts) := ⟨rfl, rfl, rfl, by decide +kernel, rfl, by decide +kernel, by decide +kernel⟩
def spPo (K : PySem.W.Frag) : Sp := fun vs H Q _ => ∃ (l : Addr) (r : List Nat), vs = [.ref l] ∧ H l = some (.lst (natsV r)) ∧ ∀ (H' : Hp) (D : Addr) (ts : List Addr), Same H H' → H D = none → H' D = some (.lst (ts.map V.ref)) → PairsAt K H' ts (portsOf r) → Q (.ref D) H'
theorem ok_ports {f : Addr} {fd : FuncData} {k : Nat} (F : Fun K "ports_of" "ports_of" sPorts f fd) (T : Blt mg) (hzip : mg "zip" = none) : FnOk P w K mg base CX0 (k + 1) f fd ["path"] (spPo K) := by
  refine F.ok scPo (fun vs H Q E h => ?_) (fun cdv A outer s H vs Q E hr h => ?_)
  · obtain ⟨l, r, rfl, _⟩ := h
    rfl
  · obtain ⟨l, r, rfl, hl, q⟩ := h
    have nd := scPo.nd
    refine ⟨_, pss_one (ps_ret (Zl.pe_listZip rfl (pa_cons (pv 0) (pa_cons (pe_slice sl_list (pv 0) (po_some pe_int) po_none) pa_nil)) (by rfl) T.list (by rfl) hzip)), ?_⟩
    refine ⟨_, rfl, _, rfl, _, rfl, l, _, rfl, SqL.of hl, fun y ny => ?_⟩
    have sy := same_new (o := .lst (cutV (natsV r) (some 1) none)) ny
    rw [cut1, natsV_drop] at *
    refine ⟨l, y, natsV r, natsV (r.drop 1), rfl, SqL.of (sy _ _ hl), SqL.of upd_same, fun H' p ts sm np hp hP => ?_⟩
    exact q H' p ts (sy.trans sm) (sy.free np) hp (zip_ports hP)
end
end My
/-! Streams and entries as data, how the heap bears them. No row. -/
namespace My
open PySem PySem.Spec PyProof.Rows L2
theorem Paired.imp2 {α β : Type} {F G : α → β → Prop} {p : β → Prop} : ∀ {l1 : List α} {l2 : List β}, Paired F l1 l2 → (∀ b ∈ l2, p b) → (∀ a b, F a b → p b → G a b) → Paired G l1 l2
  | _, _, .nil, _, _ => .nil
  | _, _, .cons r t, h, f => .cons (f _ _ r (h _ List.mem_cons_self)) (Paired.imp2 t (fun b hb => h b (List.mem_cons_of_mem _ hb)) f)
structure StrD where
  pe : Int
  ln : Int
  dl : Int
  path : List Nat
deriving DecidableEq
structure EntD where
  s : StrD
  os : List Int
deriving DecidableEq
def stF (pe ln dl : Int) (lp : Addr) : List (Str × V) := [("period", .int pe), ("length", .int ln), ("deadline", .int dl), ("path", .ref lp)]
theorem sf1 {pe : Int} : putF "period" (.int pe) [] = [(("period" : Str), V.int pe)] := rfl
theorem sf2 {pe ln : Int} : putF "length" (.int ln) [(("period" : Str), V.int pe)] = [(("period" : Str), V.int pe), ("length", .int ln)] := putF_new rfl
theorem sf3 {pe ln dl : Int} : putF "deadline" (.int dl) [(("period" : Str), V.int pe), ("length", .int ln)] = [(("period" : Str), V.int pe), ("length", .int ln), ("deadline", .int dl)] := putF_new rfl
theorem sf4 {pe ln dl : Int} {lp : Addr} : putF "path" (.ref lp) [(("period" : Str), V.int pe), ("length", .int ln), ("deadline", .int dl)] = stF pe ln dl lp := putF_new rfl
section
variable {pe ln dl : Int} {lp : Addr}
theorem sg1 : (stF pe ln dl lp).lookup ("period" : Str) = some (.int pe) := rfl
theorem sg2 : (stF pe ln dl lp).lookup ("length" : Str) = some (.int ln) := rfl
theorem sg3 : (stF pe ln dl lp).lookup ("deadline" : Str) = some (.int dl) := rfl
theorem sg4 : (stF pe ln dl lp).lookup ("path" : Str) = some (.ref lp) := rfl
end
/-- the class Stream's facts -/
structure StrC (K : PySem.W.Frag) (C : Addr) : Prop where
  cl : Cls K C
  n1 : NoAttr K C "period"
  n2 : NoAttr K C "length"
  n3 : NoAttr K C "deadline"
  n4 : NoAttr K C "path"
/-- a Stream stands at p -/
def StreamAt (C : Addr) (H : Hp) (p : Addr) (s : StrD) : Prop := ∃ dx lp, H p = some (.ins C dx (stF s.pe s.ln s.dl lp)) ∧ H lp = some (.lst (natsV s.path))
theorem StreamAt.same {C : Addr} {H H' : Hp} {p : Addr} {s : StrD} (h : StreamAt C H p s) (e : Same H H') : StreamAt C H' p s := by
  obtain ⟨dx, lp, h1, h2⟩ := h
  exact ⟨dx, lp, e _ _ h1, e _ _ h2⟩
/-- .. its list is new -/
def StreamNew (C : Addr) (H H' : Hp) (p : Addr) (s : StrD) : Prop := ∃ dx lp, H' p = some (.ins C dx (stF s.pe s.ln s.dl lp)) ∧ H' lp = some (.lst (natsV s.path)) ∧ H lp = none
theorem StreamNew.at {C : Addr} {H H' : Hp} {p : Addr} {s : StrD} (h : StreamNew C H H' p s) : StreamAt C H' p s := by
  obtain ⟨dx, lp, h1, h2, _⟩ := h
  exact ⟨dx, lp, h1, h2⟩
/-- an entry stands at t -/
def EntAt (K : PySem.W.Frag) (C : Addr) (H : Hp) (t : Addr) (e : EntD) : Prop := ∃ p lo, SqT K H t [.ref p, .ref lo] ∧ StreamAt C H p e.s ∧ SqL K H lo (e.os.map V.int)
theorem EntAt.same {K : PySem.W.Frag} {C : Addr} {H H' : Hp} {t : Addr} {e : EntD} (h : EntAt K C H t e) (sm : Same H H') : EntAt K C H' t e := by
  obtain ⟨p, lo, h1, h2, h3⟩ := h
  exact ⟨p, lo, same_tup sm h1, h2.same sm, sm.seq h3⟩
/-- the entries of a plan -/
abbrev EntsAt (K : PySem.W.Frag) (C : Addr) (H : Hp) (ts : List Addr) (es : List EntD) : Prop := Paired (fun (t : Addr) (e : EntD) => EntAt K C H t e) ts es
theorem EntsAt.same {K : PySem.W.Frag} {C : Addr} {H H' : Hp} {ts : List Addr} {es : List EntD} (h : EntsAt K C H ts es) (e : Same H H') : EntsAt K C H' ts es := Paired.imp h fun _ _ q => q.same e
/-- the ticks from the first one at a port to the node behind it -/
def travel (N : NetD) (s : StrD) (h : Nat) : Int := s.ln + (joined N (s.path.getD h 0) (s.path.getD (h + 1) 0)).getD 0 + (if host N (s.path.getD (h + 1) 0) then 0 else N.pr)
def arr (N : NetD) (e : EntD) (h : Nat) : Int := e.os.getD h 0 + travel N e.s h
def winOf (e : EntD) (h : Nat) : Win := (e.os.getD h 0, e.s.ln, e.s.pe)
/-- its path is one of the net -/
structure PathOk (N : NetD) (s : StrD) : Prop where
  is : IsP N s.path
  lt : ∀ x ∈ s.path, x < N.ks.length
  le : s.path.length ≤ 10
theorem PathOk.joined {N : NetD} {s : StrD} (h : PathOk N s) {k : Nat} (hk : k + 1 < s.path.length) : ∃ d, joined N (s.path.getD k 0) (s.path.getD (k + 1) 0) = some d := by
  have := joined_some N (s.path.getD k 0) (s.path.getD (k + 1) 0)
  rw [h.is.ad k hk] at this
  exact Option.isSome_iff_exists.mp this
theorem PathOk.ltk {N : NetD} {s : StrD} (h : PathOk N s) {k : Nat} (hk : k < s.path.length) : s.path.getD k 0 < N.ks.length := h.lt _ (getD_in hk)
end My
namespace My
open PySem PySem.Spec PyProof.Rows L2
abbrev sStream : Stmt := top 8 /-Stream-/
abbrev sSInit : Stmt := inClass sStream 0 /-Stream.__init__-/
section
variable {P : Program} {w : World} {K : PySem.W.Frag} {mg : Str → Option Value} {base : Heap}
/-! ### Stream.__init__ -/
theorem scSInit : FnScope ["self", "period", "length", "deadline", "path"] ["self", "period", "length", "deadline", "path"] (defScope sSInit) := ⟨rfl, rfl, rfl, by decide +kernel, rfl, by decide +kernel, by decide +kernel⟩
def spSInit (K : PySem.W.Frag) (C : Addr) : Sp := fun vs H Q _ => ∃ (p dx l0 : Addr) (s : StrD), vs = [.ref p, .int s.pe, .int s.ln, .int s.dl, .ref l0] ∧ H p = some (.ins C dx []) ∧ SqL K H l0 (natsV s.path) ∧
  ∀ H', (∀ b o, H b = some o → b ≠ p → H' b = some o) → StreamNew C H H' p s → Q .non H'
theorem ok_sinit {f C : Addr} {fd : FuncData} {k : Nat} (F : Fun K "__init__" "Stream.__init__" sSInit f fd) (T : Blt mg) (c : StrC K C) : FnOk P w K mg base CX0 (k + 1) f fd ["self", "period", "length", "deadline", "path"] (spSInit K C) := by
  refine F.ok scSInit (fun vs H Q E h => ?_) (fun cdv A outer s H vs Q E hr h => ?_)
  · obtain ⟨p, dx, l0, s, rfl, _⟩ := h
    rfl
  · obtain ⟨p, dx, l0, s, rfl, hp, h0, q⟩ := h
    have nd := scSInit.nd
    refine ⟨_, PSs.nox (pss_cons (ps_fld (pv 0) (pv 1) rfl) <| pss_cons (ps_fld (pv 0) (pv 2) rfl) <| pss_cons (ps_fld (pv 0) (pv 3) rfl) <| pss_one (ps_fld (pv 0) (pe_callTy call_list_of (by rfl) T.list (by decide +kernel) (pa_cons (pv 4) pa_nil)) rfl)), ?_⟩
    refine ⟨_, rfl, _, rfl, p, C, dx, [], rfl, hp, c.cl, c.n1, (by show 0 < 1000; decide), ?_⟩
    refine ⟨_, rfl, _, rfl, p, C, dx, _, rfl, upd_same, c.cl, c.n2, (by rw [sf1]; show 1 < 1000; decide), ?_⟩
    refine ⟨_, rfl, _, rfl, p, C, dx, _, rfl, upd_same, c.cl, c.n3, (by rw [sf1, sf2]; show 2 < 1000; decide), ?_⟩
    rw [sf1, sf2, sf3]
    have k3 : But p H (upd (upd (upd H p (.ins C dx [(("period" : Str), V.int s.pe)])) p (.ins C dx [(("period" : Str), V.int s.pe), ("length", .int s.ln)])) p (.ins C dx [(("period" : Str), V.int s.pe), ("length", .int s.ln), ("deadline", .int s.dl)])) := (but_self.trans but_self).trans but_self
    have p3 : (upd (upd (upd H p (.ins C dx [(("period" : Str), V.int s.pe)])) p (.ins C dx [(("period" : Str), V.int s.pe), ("length", .int s.ln)])) p (.ins C dx [(("period" : Str), V.int s.pe), ("length", .int s.ln), ("deadline", .int s.dl)])) p = some (.ins C dx [(("period" : Str), V.int s.pe), ("length", .int s.ln), ("deadline", .int s.dl)]) := upd_same
    generalize (upd (upd (upd H p (.ins C dx [(("period" : Str), V.int s.pe)])) p (.ins C dx [(("period" : Str), V.int s.pe), ("length", .int s.ln)])) p (.ins C dx [(("period" : Str), V.int s.pe), ("length", .int s.ln), ("deadline", .int s.dl)])) = H3 at k3 p3 ⊢
    refine ⟨_, rfl, l0, _, rfl, .inl (k3.seq hp h0), fun lp nl => ?_⟩
    have npl : p ≠ lp := ne_of_none p3 nl
    refine ⟨_, rfl, p, C, dx, _, rfl, (by rw [upd_ne npl]; exact p3), c.cl, c.n4, (by show 3 < 1000; decide), ?_⟩
    rw [sf4]
    have nlH : H lp = none := by
      cases e : H lp with
      | none => rfl
      | some o =>
        have z := k3 _ _ e npl.symm
        rw [nl] at z
        cases z
    refine q _ (k3.trans (but_new nl)) ⟨dx, lp, upd_same, ?_, nlH⟩
    rw [upd_ne npl.symm, upd_same]
/-- how a Stream is made -/
structure StrMk (P : Program) (w : World) (K : PySem.W.Frag) (mg : Str → Option Value) (base : Heap) (C f : Addr) (fd : FuncData) : Prop where
  ok : FnOk P w K mg base CX0 1 f fd ["self", "period", "length", "deadline", "path"] (spSInit K C)
  mg : mg "Stream" = some (.ref C)
  mkC : Mk K C f
  b : Binds K fd ["self", "period", "length", "deadline", "path"] []
  kp : PySem.W.keepIn K (.ref C) = true
end
end My
namespace My
open PySem PySem.Spec PyProof.Rows L2
abbrev sReady : Stmt := top 22 /-_law_ready-/
abbrev sEntry : Stmt := top 23 /-_law_entry-/
theorem gl {xs : List Int} {y : Int} {j : Nat} (h : j < xs.length) : (xs ++ [y]).getD j 0 = xs.getD j 0 := by
  rw [List.getD_eq_getElem?_getD, List.getElem?_append_left h, ← List.getD_eq_getElem?_getD]
theorem gr {xs : List Int} {y : Int} : (xs ++ [y]).getD xs.length 0 = y := by
  rw [List.getD_eq_getElem?_getD, List.getElem?_append_right (Nat.le_refl _), Nat.sub_self]
  rfl
/-- offsets as they are drawn -/
structure OsOk (N : NetD) (s : StrD) (os : List Int) : Prop where
  nn : ∀ h, h < os.length → 0 ≤ os.getD h 0
  fst : os.getD 0 0 < s.pe
  lo : ∀ h, h + 1 < os.length → os.getD h 0 + travel N s h + 2 * N.er - 1 ≤ os.getD (h + 1) 0
  hi : ∀ h, h + 1 < os.length → os.getD (h + 1) 0 ≤ max 0 (os.getD h 0 + travel N s h + 2 * N.er + 3)
theorem OsOk.snoc {N : NetD} {s : StrD} {os : List Int} {x : Int} (h : OsOk N s os) (h1 : 1 ≤ os.length) (x0 : 0 ≤ x) (lo : os.getD (os.length - 1) 0 + travel N s (os.length - 1) + 2 * N.er - 1 ≤ x) (hi : x ≤ max 0 (os.getD (os.length - 1) 0 + travel N s (os.length - 1) + 2 * N.er + 3)) : OsOk N s (os ++ [x]) := by
  have ll : (os ++ [x]).length = os.length + 1 := by rw [List.length_append]; rfl
  refine ⟨fun k hk => ?_, ?_, fun k hk => ?_, fun k hk => ?_⟩
  · rcases Nat.lt_or_ge k os.length with c | c
    · rw [gl c]; exact h.nn k c
    · have : k = os.length := by omega
      rw [this, gr]; exact x0
  · rw [gl (by omega)]; exact h.fst
  · rcases Nat.lt_or_ge (k + 1) os.length with c | c
    · rw [gl c, gl (by omega)]; exact h.lo k c
    · have e : k + 1 = os.length := by omega
      have e2 : k = os.length - 1 := by omega
      rw [e, gr, gl (by omega), e2]; exact lo
  · rcases Nat.lt_or_ge (k + 1) os.length with c | c
    · rw [gl c, gl (by omega)]; exact h.hi k c
    · have e : k + 1 = os.length := by omega
      have e2 : k = os.length - 1 := by omega
      rw [e, gr, gl (by omega), e2]; exact hi
/-- entries as they are drawn -/
structure EntWf (N : NetD) (R : List (List Nat)) (e : EntD) : Prop where
  mem : e.s.path ∈ R
  len : e.os.length + 1 = e.s.path.length
  p0 : 4 ≤ e.s.pe
  p1 : e.s.pe ≤ 12
  l0 : 1 ≤ e.s.ln
  l1 : e.s.ln ≤ 3
  d0 : 1 ≤ e.s.dl
  os : OsOk N e.s e.os
theorem pe_at {z : Int} (h0 : 0 ≤ z) (h1 : z < 6) : ∃ e : Int, atI [V.int 6, V.int 8, V.int 12, V.int 5, V.int 10, V.int 4] z = some (.int e) ∧ 4 ≤ e ∧ e ≤ 12 := by
  have : z = 0 ∨ z = 1 ∨ z = 2 ∨ z = 3 ∨ z = 4 ∨ z = 5 := by omega
  rcases this with rfl | rfl | rfl | rfl | rfl | rfl
  · exact ⟨6, rfl, by decide, by decide⟩
  · exact ⟨8, rfl, by decide, by decide⟩
  · exact ⟨12, rfl, by decide, by decide⟩
  · exact ⟨5, rfl, by decide, by decide⟩
  · exact ⟨10, rfl, by decide, by decide⟩
  · exact ⟨4, rfl, by decide, by decide⟩
section
variable {P : Program} {w : World} {K : PySem.W.Frag} {mg : Str → Option Value} {base : Heap}
/-! ### _law_ready -/
theorem scReady : FnScope ["net", "stream", "offsets", "hop", "a", "b", "ticks"] ["net", "stream", "offsets"] (defScope sReady) := ⟨rfl, rfl, rfl, by decide +kernel, rfl, by decide +kernel, by decide +kernel⟩
def spReady (K : PySem.W.Frag) (C C2 : Addr) : Sp := fun vs H Q _ => ∃ (p u l : Addr) (N : NetD) (s : StrD) (os : List Int), vs = [.ref p, .ref u, .ref l] ∧ NetAt K C H p N ∧ StreamAt C2 H u s ∧ SqL K H l (os.map V.int) ∧ PathOk N s ∧ 1 ≤ os.length ∧ os.length < s.path.length ∧ Q (.int (os.getD (os.length - 1) 0 + travel N s (os.length - 1))) H
theorem ok_ready {f C C2 fJ : Addr} {fd fdJ : FuncData} {k : Nat} (F : Fun K "_law_ready" "_law_ready" sReady f fd) (T : Blt mg) (c : NetC K C) (c2 : StrC K C2) (GJ : Callee P w K mg base 1 "_law_joined" ["net", "a", "b"] (spJoined K C) fJ fdJ) : FnOk P w K mg base CX0 (k + 2) f fd ["net", "stream", "offsets"] (spReady K C C2) := by
  refine F.ok scReady (fun vs H Q E h => ?_) (fun cdv A outer s0 H vs Q E hr h => ?_)
  · obtain ⟨p, u, l, N, s, os, rfl, _⟩ := h
    rfl
  · obtain ⟨p, u, l, N, s, os, rfl, hN, hS, hl, hP, o1, o2, q⟩ := h
    have nd := scReady.nd
    have hr1 : Room 1 _ := hr.mono (by omega)
    have eN := hN
    obtain ⟨dx, lk, ll, ld, ts, e1, e2, e3, e4, e5⟩ := hN
    obtain ⟨dy, lp, d1, d2⟩ := hS
    obtain ⟨h, eh⟩ : ∃ h, os.length = h + 1 := ⟨os.length - 1, by omega⟩
    have ez : ((os.map V.int).length : Int) - 1 = (h : Int) := by rw [List.length_map]; omega
    rw [show os.length - 1 = h by omega] at q
    obtain ⟨d, ed⟩ := hP.joined (k := h) (by omega)
    have hb := hP.ltk (k := h + 1) (by omega)
    have ek : (decide (kindV (N.ks.getD (s.path.getD (h + 1) 0) true) = V.str "switch")) = !host N (s.path.getD (h + 1) 0) := by
      unfold host
      cases N.ks.getD (s.path.getD (h + 1) 0) true <;> decide +kernel
    have et : os.getD h 0 + travel N s h = os.getD h 0 + s.ln + d + (if host N (s.path.getD (h + 1) 0) then 0 else N.pr) := by
      unfold travel
      rw [ed]
      show os.getD h 0 + (s.ln + d + _) = _
      omega
    rw [et] at q
    refine ⟨_, pss_cons (ps_set (i := 3) nd rfl (.inl rfl) (pe_op op_sub (pe_callB call_len_seq (by rfl) T.len PySem.boot_len (pa_cons (pv 2) pa_nil)) pe_int)) <| pss_cons (ps_set (i := 4) nd rfl (.inl rfl) (pe_ix ix_list (pe_fld (pv 1) rfl) (pv 3) (fun _ _ => rfl))) <| pss_cons (ps_set (i := 5) nd rfl (.inl rfl) (pe_ix ix_list (pe_fld (pv 1) rfl) (pe_op op_add (pv 3) pe_int) (fun _ _ => rfl))) <| pss_cons (ps_set (i := 6) nd rfl (.inl rfl) (pe_op op_add (pe_op op_add (pe_ix ix_list (pv 2) (pv 3) (fun _ _ => rfl)) (pe_fld (pv 1) rfl)) (pe_call GJ.ok hr1 (by rfl) GJ.mg GJ.kp GJ.b .nil pass0 (pa_cons (pv 0) (pa_cons (pv 4) (pa_cons (pv 5) pa_nil)))))) <| pss_cons (ps_if (pt_cmpR op_eq (pe_ix ix_list (pe_fld (pv 0) rfl) (pv 5) (fun _ _ => rfl)) pe_str (nomark _)) (pss_one (ps_set (i := 6) nd rfl (.inl rfl) (pe_op op_add (pv 6) (pe_fld (pv 0) rfl)))) (pss_nil)) <| pss_one (ps_ret (pv 6)), ?_⟩
    refine ⟨_, rfl, l, _, rfl, .inl hl, _, _, rfl, rfl, ?_⟩
    refine ⟨_, rfl, u, C2, dy, _, _, rfl, d1, c2.cl, c2.n4, sg4, _, rfl, lp, _, _, _, rfl, rfl, SqL.of d2, (by rw [ez]; exact atI_nat (natsV_at (getD_at 0 (by omega)))), ?_⟩
    refine ⟨_, rfl, u, C2, dy, _, _, rfl, d1, c2.cl, c2.n4, sg4, _, rfl, _, _, rfl, rfl, lp, _, _, _, rfl, rfl, SqL.of d2, (by rw [ez]; exact atI_nat (natsV_at (getD_at 0 (by omega : h + 1 < s.path.length)))), ?_⟩
    refine ⟨_, rfl, _, rfl, l, _, _, _, rfl, rfl, hl, (by rw [ez]; exact atI_ints (j := h) rfl (by omega)), _, rfl, u, C2, dy, _, _, rfl, d1, c2.cl, c2.n2, sg2, _, _, rfl, rfl, ?_⟩
    refine ⟨_, rfl, _, rfl, _, rfl, p, s.path.getD h 0, s.path.getD (h + 1) 0, N, rfl, eN, ?_⟩
    rw [ed]
    refine ⟨_, _, rfl, rfl, ?_⟩
    refine ⟨_, rfl, p, C, dx, _, _, rfl, e1, c.cl, c.n1, g1, _, rfl, lk, _, _, _, rfl, rfl, SqL.of e2, atI_kind rfl hb, rfl, _, rfl, ?_⟩
    rw [ek]
    cases z : host N (s.path.getD (h + 1) 0) with
    | true =>
      rw [z, if_pos rfl, Int.add_zero] at q
      exact iteF ⟨_, rfl, q⟩
    | false =>
      rw [z, if_neg (by decide)] at q
      exact iteT ⟨_, rfl, _, rfl, p, C, dx, _, _, rfl, e1, c.cl, c.n3, g3, _, _, rfl, rfl, _, rfl, q⟩
end
end My
namespace My
open PySem PySem.Spec PyProof.Rows L2
theorem same_make {H1 H' : Hp} {x dx : Addr} {o1 o2 : HO} (nx : H1 x = none) (ndx : H1 dx = none) (kb : ∀ b o, (upd (upd H1 dx o1) x o2) b = some o → b ≠ x → H' b = some o) : Same H1 H' := fun b u e => kb b u (by rw [upd_ne (ne_of_none e nx), upd_ne (ne_of_none e ndx)]; exact e) (ne_of_none e nx)
theorem same_make0 {H1 : Hp} {x dx : Addr} {o1 o2 : HO} (nx : H1 x = none) (ndx : H1 dx = none) : Same H1 (upd (upd H1 dx o1) x o2) := fun b u e => by rw [upd_ne (ne_of_none e nx), upd_ne (ne_of_none e ndx)]; exact e
theorem max_one (a : Int) : 1 ≤ (if a > 1 then a else 1) := by split <;> omega
theorem max_nn (a : Int) : 0 ≤ (if a > 0 then a else 0) := by split <;> omega
theorem max_lo {l : Int} (a : Int) (h : -1 ≤ l) : a - 1 ≤ (if a + l > 0 then a + l else 0) := by split <;> omega
theorem max_hi {l : Int} (a : Int) (h : l ≤ 3) : (if a + l > 0 then a + l else 0) ≤ max 0 (a + 3) := by split <;> omega
section
variable {P : Program} {w : World} {K : PySem.W.Frag} {mg : Str → Option Value} {base : Heap}
/-! ### _law_entry -/
theorem scEntry : FnScope ["net", "paths", "cell", "tight", "numbers", "path", "period", "length", "stream", "offsets", "hop", "late", "spare", "deadline"] ["net", "paths", "cell", "tight"] (defScope sEntry) := ⟨rfl, rfl, rfl, by decide +kernel, rfl, by decide +kernel, by decide +kernel⟩
def spEntry (K : PySem.W.Frag) (C C2 : Addr) : Sp := fun vs H Q _ => ∃ (p pf : Addr) (z : Int) (tg : Bool) (N : NetD) (fs : List Addr) (R : List (List Nat)), vs = [.ref p, .ref pf, .int z, .bl tg] ∧ NetAt K C H p N ∧ (0 ≤ N.er ∧ N.er ≤ 2) ∧ H pf = some (.lst (fs.map V.ref)) ∧ RowsAt H fs R ∧ R ≠ [] ∧ (∀ r ∈ R, IsP N r ∧ (∀ x ∈ r, x < N.ks.length) ∧ r.length ≤ 10) ∧
  ∀ (H' : Hp) (t : Addr) (e : EntD), Same H H' → H t = none → EntAt K C2 H' t e → EntWf N R e → Q (.ref t) H'
theorem ok_entry {f C C2 fD fR fS : Addr} {fd fdD fdR fdS : FuncData} {k : Nat} (F : Fun K "_law_entry" "_law_entry" sEntry f fd) (T : Blt mg) (hmax : mg "max" = none) (c : NetC K C) (c2 : StrC K C2) (GD : Callee P w K mg base 1 "_law_draw" ["cell", "many", "bound"] spDraw fD fdD)
    (GR : Callee P w K mg base 2 "_law_ready" ["net", "stream", "offsets"] (spReady K C C2) fR fdR) (GS : StrMk P w K mg base C2 fS fdS) : FnOk P w K mg base CX0 (k + 3) f fd ["net", "paths", "cell", "tight"] (spEntry K C C2) := by
  refine F.ok scEntry (fun vs H Q E h => ?_) (fun cdv A outer s0 H vs Q E hr h => ?_)
  · obtain ⟨p, pf, z, tg, N, fs, R, rfl, _⟩ := h
    rfl
  · obtain ⟨p, pf, z, tg, N, fs, R, rfl, hN, her, hf, hR, hne, hG, q⟩ := h
    have nd := scEntry.nd
    have hr1 : Room 1 _ := hr.mono (by omega)
    have hr2 : Room 2 _ := hr.mono (by omega)
    have eN := hN
    obtain ⟨dx, lk, ll, ld, ts, e1, e2, e3, e4, e5⟩ := hN
    refine ⟨_, pss_cons (ps_set (i := 4) nd rfl (.inl rfl) (pe_call GD.ok hr1 (by rfl) GD.mg GD.kp GD.b .nil pass0 (pa_cons (pv 2) (pa_cons pe_int (pa_cons (pe_op op_shl pe_int pe_int) pa_nil))))) <| pss_cons (ps_set (i := 5) nd rfl (.inl rfl) (pe_ix ix_list (pv 1) (pe_op op_mod (pe_ix ix_list (pv 4) pe_int (fun _ _ => rfl)) (pe_callB call_len_seq (by rfl) T.len PySem.boot_len (pa_cons (pv 1) pa_nil))) (fun _ _ => rfl))) <| pss_cons (ps_set (i := 6) nd rfl (.inl rfl) (pe_ix ix_list (pe_lst (pa_cons pe_int (pa_cons pe_int (pa_cons pe_int (pa_cons pe_int (pa_cons pe_int (pa_cons pe_int pa_nil))))))) (pe_op op_mod (pe_ix ix_list (pv 4) pe_int (fun _ _ => rfl)) pe_int) (fun _ _ => rfl))) <| pss_cons (ps_set (i := 7) nd rfl (.inl rfl) (pe_op op_add pe_int (pe_op op_mod (pe_ix ix_list (pv 4) pe_int (fun _ _ => rfl)) pe_int))) <| pss_cons (ps_set (i := 8) nd rfl (.inl rfl) (pe_make GS.mkC GS.ok hr2 (by rfl) GS.mg GS.b .nil pass0 (pa_cons (pv 6) (pa_cons (pv 7) (pa_cons pe_int (pa_cons (pv 5) pa_nil)))))) <| pss_cons (ps_set (i := 9) nd rfl (.inl rfl) (pe_lst (pa_cons (pe_op op_mod (pe_ix ix_list (pv 4) pe_int (fun _ _ => rfl)) (pv 6)) pa_nil))) <| pss_cons (ps_for PassesOwn.never rfl (pi_range2 (by rfl) T.range (pa_cons pe_int (pa_cons (pe_op op_sub (pe_callB call_len_seq (by rfl) T.len PySem.boot_len (pa_cons (pv 5) pa_nil)) pe_int) pa_nil))) (pg_name (i := 10) nd rfl (.inl rfl)) (pss_cons (ps_set (i := 11) nd rfl (.inl rfl) (pe_op op_mod (pe_ix ix_list (pv 4) (pe_op op_add pe_int (pe_op op_mod (pv 10) pe_int)) (fun _ _ => rfl)) pe_int)) <| pss_cons (ps_if (PW.pt (pw_and (pt_cmpR op_eq (pe_op op_mod (pe_op op_fdiv (pe_ix ix_list (pv 4) (pe_op op_add pe_int (pe_op op_mod (pv 10) pe_int)) (fun _ _ => rfl)) pe_int) pe_int) pe_int (nomark _)) (pw_and1 (pt_not (pt_val (pv 3)))))) (pss_one (ps_set (i := 11) nd rfl (.inl rfl) (pe_un un_neg pe_int))) (pss_nil)) <| pss_one (ps_expr (pe_bm PySem.F.plainAttrs_list PySem.F.slot_list_append PySem.F.type_list_append mt_append (pv 9) (pa_cons (pe_callB (call_max2 rfl) (by rfl) hmax (by decide +kernel) (pa_cons pe_int (pa_cons (pe_op op_add (pe_op op_add (pe_call GR.ok hr2 (by rfl) GR.mg GR.kp GR.b .nil pass0 (pa_cons (pv 0) (pa_cons (pv 8) (pa_cons (pv 9) pa_nil)))) (pe_op op_mul pe_int (pe_fld (pv 0) rfl))) (pv 11)) pa_nil))) pa_nil))))) <| pss_cons (ps_set (i := 12) nd rfl (.inl rfl) (pe_op op_mod (pe_ix ix_list (pv 4) pe_int (fun _ _ => rfl)) pe_int)) <| pss_cons (ps_if (PW.pt (pw_and (pt_cmpR op_eq (pe_op op_mod (pe_op op_fdiv (pe_ix ix_list (pv 4) pe_int (fun _ _ => rfl)) pe_int) pe_int) pe_int (nomark _)) (pw_and1 (pt_not (pt_val (pv 3)))))) (pss_one (ps_set (i := 12) nd rfl (.inl rfl) (pe_un un_neg pe_int))) (pss_nil)) <| pss_cons (ps_set (i := 13) nd rfl (.inl rfl) (pe_callB (call_max2 rfl) (by rfl) hmax (by decide +kernel) (pa_cons pe_int (pa_cons (pe_op op_add (pe_op op_add (pe_call GR.ok hr2 (by rfl) GR.mg GR.kp GR.b .nil pass0 (pa_cons (pv 0) (pa_cons (pv 8) (pa_cons (pv 9) pa_nil)))) (pe_fld (pv 0) rfl)) (pv 12)) pa_nil)))) <| pss_one (ps_ret (pe_tup (pa_cons (pe_make GS.mkC GS.ok hr2 (by rfl) GS.mg GS.b .nil pass0 (pa_cons (pv 6) (pa_cons (pv 7) (pa_cons (pv 13) (pa_cons (pv 5) pa_nil))))) (pa_cons (pv 9) pa_nil)))), ?_⟩
    refine ⟨_, rfl, _, _, rfl, rfl, ⟨by decide, by decide, by decide⟩, z, _, 12, rfl, by decide, by decide, by decide, fun H1 pn ns s1 npn hn ln bn => ?_⟩
    have bd : ∀ j, j < 12 → 0 ≤ ns.getD j 0 ∧ ns.getD j 0 < 1048576 := fun j hj => bn _ (getD_mem (by omega))
    have lfs : fs.length = R.length := hR.length
    have lR : 0 < R.length := List.length_pos_iff.mpr hne
    -- path
    have i0 : 0 ≤ ns.getD 0 0 % ((fs.map V.ref).length : Int) := Int.emod_nonneg _ (by rw [List.length_map]; omega)
    have i1 : ns.getD 0 0 % ((fs.map V.ref).length : Int) < ((fs.map V.ref).length : Int) := Int.emod_lt_of_pos _ (by rw [List.length_map]; omega)
    obtain ⟨j, ej⟩ : ∃ j : Nat, ns.getD 0 0 % ((fs.map V.ref).length : Int) = (j : Int) := ⟨_, (Int.toNat_of_nonneg i0).symm⟩
    have jl : j < fs.length := by rw [ej, List.length_map] at i1; omega
    obtain ⟨r, er, hr0, hrow⟩ := Paired.at hR (List.getElem?_eq_getElem jl)
    have rm := List.mem_of_getElem? er
    obtain ⟨ris, rlt, rle⟩ := hG r rm
    have rtwo := ris.two
    refine ⟨_, rfl, _, rfl, pn, _, _, _, rfl, rfl, SqL.of hn, atI_ints (j := 0) rfl (by omega), _, rfl, pf, _, rfl, .inl (SqL.of (s1 _ _ hf)), _, _, rfl, rfl, (by rw [List.length_map]; omega), pf, _, _, _, rfl, rfl, SqL.of (s1 _ _ hf), (by rw [ej]; exact atI_nat (by rw [List.getElem?_map, List.getElem?_eq_getElem jl]; rfl)), ?_⟩
    have hrow1 := s1 _ _ hrow
    -- period
    obtain ⟨pe, epe, pe0, pe1⟩ := pe_at (z := ns.getD 1 0 % 6) (Int.emod_nonneg _ (by decide)) (Int.emod_lt_of_pos _ (by decide))
    refine ⟨by show 6 ≤ sizeLine; decide, fun l6 n6 => ?_⟩
    have s2 := same_new (o := .lst [V.int 6, V.int 8, V.int 12, V.int 5, V.int 10, V.int 4]) n6
    refine ⟨_, rfl, pn, _, _, _, rfl, rfl, SqL.of (s2 _ _ hn), atI_ints (j := 1) rfl (by omega), _, _, rfl, rfl, (by show (0 : Int) < 6; decide), l6, _, _, _, rfl, rfl, SqL.of upd_same, epe, ?_⟩
    have S2 := s1.trans s2
    have hn2 := s2 _ _ hn
    have hrow2 := s2 _ _ hrow1
    generalize (upd H1 l6 (.lst [V.int 6, V.int 8, V.int 12, V.int 5, V.int 10, V.int 4])) = H2 at S2 hn2 hrow2 ⊢
    clear s2
    -- length
    refine ⟨_, rfl, pn, _, _, _, rfl, rfl, SqL.of hn2, atI_ints (j := 2) rfl (by omega), _, _, rfl, rfl, (by show (0 : Int) < 3; decide), _, _, rfl, rfl, ?_⟩
    have z0 : 0 ≤ ns.getD 2 0 % 3 := Int.emod_nonneg _ (by decide)
    have z1 : ns.getD 2 0 % 3 < 3 := Int.emod_lt_of_pos _ (by decide)
    -- stream
    refine ⟨_, rfl, _, rfl, _, rfl, fun x dy nx ndy ne => ⟨x, dy, fs[j], ⟨pe, 1 + ns.getD 2 0 % 3, 300, r⟩, rfl, upd_same, SqL.of (same_make0 nx ndy _ _ hrow2), fun H3 kb hS => ⟨rfl, ?_⟩⟩⟩
    have hS := hS.at
    have s3 := same_make nx ndy kb
    have S3 := S2.trans s3
    have hn3 := s3 _ _ hn2
    have hrow3 := s3 _ _ hrow2
    clear kb
    have hPo : PathOk N ⟨pe, 1 + ns.getD 2 0 % 3, 300, r⟩ := ⟨ris, rlt, rle⟩
    -- offsets
    refine ⟨_, rfl, pn, _, _, _, rfl, rfl, SqL.of hn3, atI_ints (j := 3) rfl (by omega), _, rfl, _, _, rfl, rfl, (by show 0 < pe; omega), by show 1 ≤ sizeLine; decide, fun lo nlo => ?_⟩
    have q0 : 0 ≤ ns.getD 3 0 % pe := Int.emod_nonneg _ (by omega)
    have q1 : ns.getD 3 0 % pe < pe := Int.emod_lt_of_pos _ (by omega)
    have s4 := same_new (o := .lst [V.int (ns.getD 3 0 % pe)]) nlo
    have hlo : (upd H3 lo (.lst [V.int (ns.getD 3 0 % pe)])) lo = some (.lst ([ns.getD 3 0 % pe].map V.int)) := upd_same
    have S4 := S3.trans s4
    have hn4 := s4 _ _ hn3
    have hrow4 := s4 _ _ hrow3
    have hS4 := hS.same s4
    generalize (upd H3 lo (.lst [V.int (ns.getD 3 0 % pe)])) = H4 at s4 hlo hn4 hrow4 ⊢
    have O0 : OsOk N (StrD.mk pe (1 + ns.getD 2 0 % 3) 300 r) [ns.getD 3 0 % pe] := ⟨fun h hh => by
      have : h = 0 := by simp at hh; exact hh
      subst this
      exact q0, q1, fun h hh => by simp at hh, fun h hh => by simp at hh⟩
    refine ⟨_, rfl, fs[j], _, rfl, .inl (SqL.of hrow4), _, _, rfl, rfl, 1, ((natsV r).length : Int) - 1, rfl, ⟨by decide, by decide, by rw [natsV_len]; omega, by rw [natsV_len]; omega⟩, ?_⟩
    rw [natsV_len, show (((r.length : Nat) : Int) - 1 - 1).toNat = r.length - 2 by omega]
    refine for_range (lo := 1) (n := r.length - 2) (fun i σ H' => ∃ (v10 v11 : Option V) (os : List Int), σ = [some (.ref p), some (.ref pf), some (.int z), some (.bl tg), some (.ref pn), some (.ref fs[j]), some (.int pe), some (.int (1 + ns.getD 2 0 % 3)), some (.ref x), some (.ref lo), v10, v11, none, none] ∧
      Same H3 H' ∧ H' lo = some (.lst (os.map V.int)) ∧ os.length = i + 1 ∧ OsOk N (StrD.mk pe (1 + ns.getD 2 0 % 3) 300 r) os) ⟨none, none, [ns.getD 3 0 % pe], rfl, s4, hlo, rfl, O0⟩ ?_ ?_
    · rintro i σ H' hi ⟨v10, v11, os, rfl, sm, hl, lo', hO⟩
      have hn' := sm _ _ hn3
      have w0 : 0 ≤ (1 + (i : Int)) % 4 := Int.emod_nonneg _ (by decide)
      have w1 : (1 + (i : Int)) % 4 < 4 := Int.emod_lt_of_pos _ (by decide)
      obtain ⟨m, em⟩ : ∃ m : Nat, 4 + (1 + (i : Int)) % 4 = (m : Int) := ⟨(4 + (1 + (i : Int)) % 4).toNat, (Int.toNat_of_nonneg (by omega)).symm⟩
      refine ⟨_, rfl, _, rfl, _, _, rfl, rfl, (by show (0 : Int) < 4; decide), _, _, rfl, rfl, pn, _, _, _, rfl, rfl, SqL.of hn', atI_ints (j := m) em (by omega), _, _, rfl, rfl, (by show (0 : Int) < 4; decide), ?_⟩
      have u0 : 0 ≤ ns.getD m 0 % 4 := Int.emod_nonneg _ (by decide)
      have u1 : ns.getD m 0 % 4 < 4 := Int.emod_lt_of_pos _ (by decide)
      dsimp only [gName, tSeq, tIfS]
      refine and_read (a := decide (V.int (ns.getD m 0 / 4 % 9) = V.int 0)) (b := !tg) (fun Q h => ?_) (fun _ Q h => ?_) ?_
      · exact ⟨_, rfl, _, rfl, _, _, rfl, rfl, (by show (0 : Int) < 4; decide), _, _, rfl, rfl, pn, _, _, _, rfl, rfl, SqL.of hn', atI_ints (j := m) em (by omega), _, _, rfl, rfl, ⟨by decide, by decide⟩, _, _, rfl, rfl, (by show (0 : Int) < 9; decide), rfl, _, rfl, h⟩
      · exact ⟨_, rfl, _, rfl, h⟩
      refine ite2 (fun _ => ?_) (fun _ => ?_)
      · refine ⟨_, rfl, ?_⟩
        have hlt : -1 ≤ (-(1 : Int)) ∧ (-(1 : Int)) ≤ 3 := by decide
        refine ⟨_, rfl, .inl ⟨rfl, _, SqL.of hl⟩, _, rfl, _, rfl, _, rfl, p, x, lo, N, _, os, rfl, eN.same (S3.trans sm), hS.same sm, SqL.of hl, hPo, by omega, by show os.length < r.length; omega, ?_⟩
        refine ⟨_, rfl, p, C, dx, _, _, rfl, sm _ _ (S3 _ _ e1), c.cl, c.n4, g4, _, _, rfl, rfl, .inl ⟨by decide, by decide⟩, _, _, rfl, rfl, _, rfl, _, _, rfl, rfl, _, _, rfl, ?_⟩
        refine ⟨lo, _, _, rfl, rfl, hl, szl (by rw [List.length_map]; omega), ?_⟩
        refine ⟨_, _, os ++ [_], rfl, same_but sm nlo but_self, ?_, by rw [List.length_append, lo']; rfl, hO.snoc (by omega) (max_nn _) (by have := max_lo (os.getD (os.length - 1) 0 + travel N (StrD.mk pe (1 + ns.getD 2 0 % 3) 300 r) (os.length - 1) + 2 * N.er) hlt.1; omega) (max_hi _ hlt.2)⟩
        rw [upd_same, List.map_append]
        rfl
      · have hlt : -1 ≤ ns.getD m 0 % 4 ∧ ns.getD m 0 % 4 ≤ 3 := by omega
        refine ⟨_, rfl, .inl ⟨rfl, _, SqL.of hl⟩, _, rfl, _, rfl, _, rfl, p, x, lo, N, _, os, rfl, eN.same (S3.trans sm), hS.same sm, SqL.of hl, hPo, by omega, by show os.length < r.length; omega, ?_⟩
        refine ⟨_, rfl, p, C, dx, _, _, rfl, sm _ _ (S3 _ _ e1), c.cl, c.n4, g4, _, _, rfl, rfl, .inl ⟨by decide, by decide⟩, _, _, rfl, rfl, _, rfl, _, _, rfl, rfl, _, _, rfl, ?_⟩
        refine ⟨lo, _, _, rfl, rfl, hl, szl (by rw [List.length_map]; omega), ?_⟩
        refine ⟨_, _, os ++ [_], rfl, same_but sm nlo but_self, ?_, by rw [List.length_append, lo']; rfl, hO.snoc (by omega) (max_nn _) (by have := max_lo (os.getD (os.length - 1) 0 + travel N (StrD.mk pe (1 + ns.getD 2 0 % 3) 300 r) (os.length - 1) + 2 * N.er) hlt.1; omega) (max_hi _ hlt.2)⟩
        rw [upd_same, List.map_append]
        rfl
    rintro σ H5 ⟨v10, v11, os, rfl, s5, hl5, lo5, hO5⟩
    have S5 := S3.trans s5
    have hn5 := s5 _ _ hn3
    have hrow5 := s5 _ _ hrow3
    refine ⟨_, rfl, pn, _, _, _, rfl, rfl, SqL.of hn5, atI_ints (j := 9) rfl (by omega), _, _, rfl, rfl, (by show (0 : Int) < 6; decide), ?_⟩
    dsimp only [gName, tSeq, tIfS]
    refine and_read (a := decide (V.int (ns.getD 9 0 / 6 % 9) = V.int 0)) (b := !tg) (fun Q h => ?_) (fun _ Q h => ?_) ?_
    · exact ⟨_, rfl, pn, _, _, _, rfl, rfl, SqL.of hn5, atI_ints (j := 9) rfl (by omega), _, _, rfl, rfl, ⟨by decide, by decide⟩, _, _, rfl, rfl, (by show (0 : Int) < 9; decide), rfl, _, rfl, h⟩
    · exact ⟨_, rfl, _, rfl, h⟩
    refine ite2 (fun _ => ?_) (fun _ => ?_)
    · refine ⟨_, rfl, ?_⟩
      refine ⟨_, rfl, _, rfl, _, rfl, p, x, lo, N, _, os, rfl, eN.same S5, hS.same s5, SqL.of hl5, hPo, by omega, by show os.length < r.length; omega, ?_⟩
      refine ⟨_, rfl, p, C, dx, _, _, rfl, S5 _ _ e1, c.cl, c.n4, g4, _, _, rfl, rfl, _, rfl, _, _, rfl, rfl, _, _, rfl, ?_⟩
      refine ⟨_, rfl, _, rfl, _, rfl, _, rfl, fun x2 dy2 nx2 ndy2 ne2 => ⟨x2, dy2, fs[j], ⟨pe, 1 + ns.getD 2 0 % 3, _, r⟩, rfl, upd_same, SqL.of (same_make0 nx2 ndy2 _ _ hrow5), fun H6 kb6 hS6 => ⟨rfl, ?_⟩⟩⟩
      have hS6 := hS6.at
      have s6 := same_make nx2 ndy2 kb6
      refine ⟨_, rfl, by show 2 ≤ sizeLine; decide, fun t nt => ?_⟩
      have st := same_new (o := .tup [V.ref x2, V.ref lo]) nt
      exact q _ t ⟨⟨pe, 1 + ns.getD 2 0 % 3, _, r⟩, os⟩ ((S5.trans s6).trans st) ((S5.trans s6).free nt) ⟨x2, lo, SqT.of upd_same, hS6.same st, SqL.of (st _ _ (s6 _ _ hl5))⟩ ⟨rm, by show os.length + 1 = r.length; omega, pe0, pe1, by show 1 ≤ 1 + ns.getD 2 0 % 3; omega, by show 1 + ns.getD 2 0 % 3 ≤ 3; omega, max_one _, ⟨hO5.nn, hO5.fst, hO5.lo, hO5.hi⟩⟩
    · refine ⟨_, rfl, _, rfl, _, rfl, p, x, lo, N, _, os, rfl, eN.same S5, hS.same s5, SqL.of hl5, hPo, by omega, by show os.length < r.length; omega, ?_⟩
      refine ⟨_, rfl, p, C, dx, _, _, rfl, S5 _ _ e1, c.cl, c.n4, g4, _, _, rfl, rfl, _, rfl, _, _, rfl, rfl, _, _, rfl, ?_⟩
      refine ⟨_, rfl, _, rfl, _, rfl, _, rfl, fun x2 dy2 nx2 ndy2 ne2 => ⟨x2, dy2, fs[j], ⟨pe, 1 + ns.getD 2 0 % 3, _, r⟩, rfl, upd_same, SqL.of (same_make0 nx2 ndy2 _ _ hrow5), fun H6 kb6 hS6 => ⟨rfl, ?_⟩⟩⟩
      have hS6 := hS6.at
      have s6 := same_make nx2 ndy2 kb6
      refine ⟨_, rfl, by show 2 ≤ sizeLine; decide, fun t nt => ?_⟩
      have st := same_new (o := .tup [V.ref x2, V.ref lo]) nt
      exact q _ t ⟨⟨pe, 1 + ns.getD 2 0 % 3, _, r⟩, os⟩ ((S5.trans s6).trans st) ((S5.trans s6).free nt) ⟨x2, lo, SqT.of upd_same, hS6.same st, SqL.of (st _ _ (s6 _ _ hl5))⟩ ⟨rm, by show os.length + 1 = r.length; omega, pe0, pe1, by show 1 ≤ 1 + ns.getD 2 0 % 3; omega, by show 1 + ns.getD 2 0 % 3 ≤ 3; omega, max_one _, ⟨hO5.nn, hO5.fst, hO5.lo, hO5.hi⟩⟩
end
end My
namespace My
open PySem PySem.Spec PyProof.Rows L2
abbrev sTJoined : Stmt := top 15 /-joined-/
abbrev sWrite : Stmt := top 11 /-write_text-/
def numT (i : Int) : Str := Str.ofString (toString i)
theorem num_len {i : Int} (h0 : 0 ≤ i) (h : i < 10 ^ 10) : (numT i).length ≤ 10 := toString_length_le h0 (by decide) h
theorem num_log {i : Int} (h0 : 0 ≤ i) (h : i < 10 ^ 10) : i.natAbs.log2 < 1920 := by
  have h1 : i.natAbs < 2 ^ 1920 := Nat.lt_of_lt_of_le (show i.natAbs < 10 ^ 10 by omega) (by decide)
  by_cases z : i.natAbs = 0
  · rw [z]
    decide
  · exact (Nat.log2_lt z).mpr h1
/-- numbers with a comma between two of them -/
def commaT (ns : List Int) : Str := Txt.join "," (ns.map numT)
section
variable {P : Program} {w : World} {K : PySem.W.Frag} {mg : Str → Option Value} {base : Heap}
theorem scTJoined : FnScope ["numbers", "number"] ["numbers"] (defScope sTJoined) := ⟨rfl, rfl, rfl, by decide +kernel, rfl, by decide +kernel, by decide +kernel⟩
def spTJoined (K : PySem.W.Frag) : Sp := fun vs H Q _ => ∃ (a : Addr) (ns : List Int), vs = [.ref a] ∧ SqL K H a (ns.map V.int) ∧ (∀ n ∈ ns, 0 ≤ n ∧ n < 10 ^ 10) ∧ ns.length ≤ 1000 ∧ ∀ H', Same H H' → Q (.str (commaT ns)) H'
theorem ok_tjoined {f : Addr} {fd : FuncData} {k : Nat} (F : Fun K "joined" "joined" sTJoined f fd) (hstr : mg "str" = none) : FnOk P w K mg base CX0 (k + 1) f fd ["numbers"] (spTJoined K) := by
  refine F.ok scTJoined (fun vs H Q E h => ?_) (fun cdv A0 outer s0 H vs Q E hr h => ?_)
  · obtain ⟨a, ns, rfl, _⟩ := h
    rfl
  · obtain ⟨a, ns, rfl, ha, hn, hl, q⟩ := h
    have nd := scTJoined.nd
    refine ⟨_, pss_one (ps_ret (pe_join pe_str (pe_lc (own := [("number", 1)]) (g := gName 1) (tt := tYes) rfl nd (pi_list (pv 0)) (blkOk_by (own := [("number", 1)]) (N := ["numbers", "number"]) (sc := defScope sTJoined) (by decide +kernel)) (fun _ _ _ _ _ => pg_name (i := 1) nd rfl (Or.inl rfl)) (fun _ _ _ _ _ => pts_nil) (fun _ _ _ _ _ => (pe_callTy call_str_int (by rfl) hstr (by decide +kernel) (pa_cons (pv 1) pa_nil)))))), ?_⟩
    refine ⟨⟨_, rfl⟩, _, rfl, a, rfl, ⟨_, ha⟩, fun D nD => ?_⟩
    refine lc_it walk_list (fun i G => Same H G ∧ G D = some (.lst (((ns.take i).map numT).map V.str))) ⟨same_new nD, upd_same⟩ (fun i G _ z => Same.seq z.1 ha) ?_ ?_
    · intro i x G0 G hi pG y
      obtain ⟨e, hx⟩ := y
      subst e
      obtain ⟨sm, hD⟩ := pG
      obtain ⟨n, en, rfl⟩ := ints_at hx
      have il : i < ns.length := (List.getElem?_eq_some_iff.mp en).1
      have nb := hn n (List.mem_of_getElem? en)
      refine ⟨rfl, _, rfl, n, rfl, num_log nb.1 nb.2, _, hD, szl (by rw [List.length_map, List.length_map, List.length_take]; omega), same_but sm nD but_self, ?_⟩
      rw [upd_same, take_snoc en, List.map_append, List.map_append]
      rfl
    · rintro G ⟨sm, hD⟩
      rw [List.length_map, List.take_length] at hD
      refine ⟨_, D, ns.map numT, rfl, rfl, .inl (SqL.of hD), ?_, q G sm⟩
      have sum : ∀ ns : List Int, (∀ n ∈ ns, 0 ≤ n ∧ n < 10 ^ 10) → ((ns.map numT).map (·.length)).sum ≤ 10 * ns.length := by
        intro ns
        induction ns with
        | nil => intro _; exact Nat.le_refl _
        | cons a r ih =>
          intro h
          have h1 := ih fun n hn => h n (List.mem_cons_of_mem _ hn)
          have h2 := num_len (h a List.mem_cons_self).1 (h a List.mem_cons_self).2
          show (numT a).length + ((r.map numT).map (·.length)).sum ≤ 10 * (r.length + 1)
          omega
      have h1 := sum ns hn
      have h2 : (("," : Str)).length = 1 := by decide +kernel
      rw [List.length_map, h2]
      omega
end
end My
namespace My
open PySem PySem.Spec PyProof.Rows L2
/-- texts one behind the other -/
def jsT (ps : List Str) : Str := ps.foldl (· ++ ·) Str.empty
def netT (N : NetD) : Str := jsT ["net ", numT N.pr, " ", numT N.er]
def lnT (l : Nat × Nat × Int) : Str := jsT ["line ", numT (l.1 : Int), " ", numT (l.2.1 : Int), " ", numT l.2.2]
def wdT (s : StrD) : Str := jsT [numT s.pe, " ", numT s.ln, " ", numT s.dl]
def enT (e : EntD) : Str := jsT ["stream ", wdT e.s, " ", commaT (e.s.path.map fun (n : Nat) => (n : Int)), " ", commaT e.os]
def kdT (b : Bool) : Str := if b then "host" else "switch"
def rowsT (N : NetD) (es : List EntD) : List Str := [netT N] ++ N.ks.map kdT ++ N.ls.map lnT ++ es.map enT
def planT (N : NetD) (es : List EntD) : Str := Txt.join "" ((rowsT N es).map fun r => jsT [r, "\n"])
theorem jl {a b : Str} {m n : Nat} (h : a.length ≤ m) (g : b.length ≤ n) : (a ++ b).length ≤ m + n := by
  rw [Str.length_append]
  omega
theorem slz {s : Str} {m : Nat} (h : s.length ≤ m) (g : m ≤ 100000 := by decide) : s.length ≤ sizeLine := Nat.le_trans (Nat.le_trans h g) (by decide)
theorem l0 : Str.empty.length ≤ 0 := Nat.le_refl _
theorem l1 : (" " : Str).length ≤ 10 := by decide +kernel
theorem l2 : ("net " : Str).length ≤ 10 := by decide +kernel
theorem l3 : ("line " : Str).length ≤ 10 := by decide +kernel
theorem l4 : ("stream " : Str).length ≤ 10 := by decide +kernel
theorem l5 : ("\n" : Str).length ≤ 10 := by decide +kernel
theorem kd_len (b : Bool) : (kdT b).length ≤ 10 := by cases b <;> decide +kernel
theorem comma_len {ns : List Int} (h : ∀ n ∈ ns, 0 ≤ n ∧ n < 10 ^ 10) : (commaT ns).length ≤ 11 * ns.length := by
  unfold commaT
  rw [TL.join_eq, TL.len_tl, TL.tl_join]
  have e1 : (TL.tl (",":Str)).length = 1 := by decide +kernel
  generalize TL.tl (",":Str) = S at e1
  induction ns with
  | nil => exact Nat.le_refl _
  | cons a r ih =>
    have ih := ih fun n hn => h n (List.mem_cons_of_mem _ hn)
    have ha := num_len (h a List.mem_cons_self).1 (h a List.mem_cons_self).2
    rw [TL.len_tl] at ha
    cases r with
    | nil =>
      show (TL.tl (numT a)).length ≤ 11 * 1
      omega
    | cons b t =>
      show (TL.tl (numT a) ++ (S ++ TL.joinL S (((b :: t).map numT).map TL.tl))).length ≤ 11 * ((b :: t).length + 1)
      rw [List.length_append, List.length_append]
      omega
section
variable {P : Program} {w : World} {K : PySem.W.Frag} {mg : Str → Option Value} {base : Heap}
theorem scWrite : FnScope ["net", "plan", "lines", "stream", "offsets", "words", "a", "b", "delay", "line"] ["net", "plan"] (defScope sWrite) := ⟨rfl, rfl, rfl, by decide +kernel, rfl, by decide +kernel, by decide +kernel⟩
-- ["net", "plan", "lines", "stream", "offsets", "words", "a", "b", "delay", "line"]
def spWrite (K : PySem.W.Frag) (C C2 : Addr) : Sp := fun vs H Q _ => ∃ (np pl : Addr) (N : NetD) (ts : List Addr) (es : List EntD), vs = [.ref np, .ref pl] ∧ NetAt K C H np N ∧ SqL K H pl (ts.map V.ref) ∧ EntsAt K C2 H ts es ∧ (0 ≤ N.pr ∧ N.pr < 10 ^ 10) ∧ (0 ≤ N.er ∧ N.er < 10 ^ 10) ∧ N.ks.length ≤ 100 ∧ (∀ l ∈ N.ls, l.1 < 100 ∧ l.2.1 < 100 ∧ 0 ≤ l.2.2 ∧ l.2.2 < 10 ^ 10) ∧ N.ls.length ≤ 1000 ∧ es.length ≤ 100 ∧
  (∀ e ∈ es, (0 ≤ e.s.pe ∧ e.s.pe < 10 ^ 10) ∧ (0 ≤ e.s.ln ∧ e.s.ln < 10 ^ 10) ∧ (0 ≤ e.s.dl ∧ e.s.dl < 10 ^ 10) ∧ (∀ n ∈ e.s.path, n < 100) ∧ e.s.path.length ≤ 100 ∧ (∀ n ∈ e.os, 0 ≤ n ∧ n < 10 ^ 10) ∧ e.os.length ≤ 100) ∧
  ∀ H', Same H H' → Q (.str (planT N es)) H'
theorem ok_write {f C C2 fJ : Addr} {fd fdJ : FuncData} {k : Nat} (F : Fun K "write_text" "write_text" sWrite f fd) (c : NetC K C) (c2 : StrC K C2) (GJ : Callee P w K mg base 1 "joined" ["numbers"] (spTJoined K) fJ fdJ) : FnOk P w K mg base CX0 (k + 2) f fd ["net", "plan"] (spWrite K C C2) := by
  refine F.ok scWrite (fun vs H Q E h => ?_) (fun cdv A0 outer s0 H vs Q E hr h => ?_)
  · obtain ⟨np, pl, N, ts, es, rfl, _⟩ := h
    rfl
  · obtain ⟨np, pl, N, ts, es, rfl, hN, hpl, hE, pr, er, nk, lb, nl, ne, eb, q⟩ := h
    have nd := scWrite.nd
    have hr1 : Room 1 _ := hr.mono (by omega)
    refine ⟨_, pss_cons (ps_set (i := 2) nd rfl (.inl rfl) (pe_op op_cat (pe_lst (pa_cons (pe_joined (PJ.cons pe_str (PJ.cons (pe_fmt (pe_fld (pv 0) rfl)) (PJ.cons pe_str (PJ.cons (pe_fmt (pe_fld (pv 0) rfl)) PJ.nil))))) pa_nil)) (pe_fld (pv 0) rfl))) <| pss_cons (ps_set (i := 2) nd rfl (.inl rfl) (pe_op op_cat (pv 2) (pe_lc (own := [("a", 6), ("b", 7), ("delay", 8)]) (g := (gTup K 3 (gCons (gName 6) (gCons (gName 7) (gCons (gName 8) gNil))))) (tt := tYes) rfl nd (pi_list (pe_fld (pv 0) rfl)) (blkOk_by (own := [("a", 6), ("b", 7), ("delay", 8)]) (N := ["net", "plan", "lines", "stream", "offsets", "words", "a", "b", "delay", "line"]) (sc := defScope sWrite) (by decide +kernel)) (fun _ _ _ _ _ => (pg_tupK (K := K) rfl (pgs_cons (pg_name (i := 6) nd rfl (Or.inl rfl)) (pgs_cons (pg_name (i := 7) nd rfl (Or.inl rfl)) (pgs_cons (pg_name (i := 8) nd rfl (Or.inl rfl)) pgs_nil))))) (fun _ _ _ _ _ => pts_nil) (fun _ _ _ _ _ => (pe_joined (PJ.cons pe_str (PJ.cons (pe_fmt (pv 6)) (PJ.cons pe_str (PJ.cons (pe_fmt (pv 7)) (PJ.cons pe_str (PJ.cons (pe_fmt (pv 8)) PJ.nil))))))))))) <| pss_cons (ps_for PassesOwn.never rfl (pi_list (pv 1)) (pg_tup rfl (pgs_cons (pg_name (i := 3) nd rfl (.inl rfl)) (pgs_cons (pg_name (i := 4) nd rfl (.inl rfl)) pgs_nil))) (pss_cons (ps_set (i := 5) nd rfl (.inl rfl) (pe_joined (PJ.cons (pe_fmt (pe_fld (pv 3) rfl)) (PJ.cons pe_str (PJ.cons (pe_fmt (pe_fld (pv 3) rfl)) (PJ.cons pe_str (PJ.cons (pe_fmt (pe_fld (pv 3) rfl)) PJ.nil))))))) <| pss_one (ps_expr (pe_bm PySem.F.plainAttrs_list PySem.F.slot_list_append PySem.F.type_list_append mt_append (pv 2) (pa_cons (pe_joined (PJ.cons pe_str (PJ.cons (pe_fmt (pv 5)) (PJ.cons pe_str (PJ.cons (pe_fmt (pe_call GJ.ok hr1 (by rfl) GJ.mg GJ.kp GJ.b .nil pass0 (pa_cons (pe_fld (pv 3) rfl) pa_nil))) (PJ.cons pe_str (PJ.cons (pe_fmt (pe_call GJ.ok hr1 (by rfl) GJ.mg GJ.kp GJ.b .nil pass0 (pa_cons (pv 4) pa_nil))) PJ.nil))))))) pa_nil))))) <| pss_one (ps_ret (pe_join pe_str (pe_lc (own := [("line", 9)]) (g := gName 9) (tt := tYes) rfl nd (pi_list (pv 2)) (blkOk_by (own := [("line", 9)]) (N := ["net", "plan", "lines", "stream", "offsets", "words", "a", "b", "delay", "line"]) (sc := defScope sWrite) (by decide +kernel)) (fun _ _ _ _ _ => pg_name (i := 9) nd rfl (Or.inl rfl)) (fun _ _ _ _ _ => pts_nil) (fun _ _ _ _ _ => (pe_joined (PJ.cons (pe_fmt (pv 9)) (PJ.cons pe_str PJ.nil))))))), ?_⟩
    obtain ⟨dx, lk, ll, ld, tl', h1, h2, h3, h4, h5⟩ := id hN
    have np1 := num_len pr.1 pr.2
    have np2 := num_len er.1 er.2
    have z1 := jl l0 l2
    have z2 := jl z1 np1
    have z3 := jl z2 l1
    have z4 := jl z3 np2
    refine ⟨_, rfl, slz z1, _, rfl, np, C, dx, _, _, rfl, h1, c.cl, c.n3, g3, .inr ⟨_, rfl, num_log pr.1 pr.2, _, rfl, slz z2, _, rfl, slz z3, _, rfl, np, C, dx, _, _, rfl, h1, c.cl, c.n4, g4, .inr ⟨_, rfl, num_log er.1 er.2, _, rfl, slz z4, (by show 1 ≤ sizeLine; decide), fun a1 n1 => ?_⟩⟩⟩
    obtain ⟨T, hT⟩ : ∃ T, (Str.empty ++ ("net " : Str) ++ Str.ofString (toString N.pr) ++ (" " : Str) ++ Str.ofString (toString N.er)) = T := ⟨_, rfl⟩
    have eT : T = netT N := hT.symm
    rw [hT]
    have s1 := same_new (o := .lst [V.str T]) n1
    have ha1 := upd_same (H := H) (a := a1) (o := .lst [V.str T])
    generalize upd H a1 (.lst [V.str T]) = H1 at s1 ha1 ⊢
    refine ⟨_, rfl, np, C, dx, _, _, rfl, s1 _ _ h1, c.cl, c.n1, g1, a1, lk, _, _, rfl, rfl, ha1, s1 _ _ h2, Nat.le_of_lt (szl (by rw [List.length_map]; show 1 + _ < _; omega)), fun a2 n2 => ?_⟩
    have s2 := same_new (o := .lst ([V.str T] ++ N.ks.map kindV)) n2
    have ha2 : (upd H1 a2 (.lst ([V.str T] ++ N.ks.map kindV))) a2 = some (.lst (([netT N] ++ N.ks.map kdT).map V.str)) := by
      rw [upd_same, List.map_append, List.map_map, eT]
      rfl
    generalize upd H1 a2 (.lst ([V.str T] ++ N.ks.map kindV)) = H2 at s2 ha2 ⊢
    have S2 := s1.trans s2
    refine ⟨_, rfl, _, rfl, np, C, dx, _, _, rfl, S2 _ _ h1, c.cl, c.n2, g2, ll, rfl, ⟨_, SqL.of (S2 _ _ h3)⟩, fun D nD => ?_⟩
    have hL := h4.same S2
    have sD := same_new (o := .lst []) nD
    have ll2 := S2 _ _ h3
    refine lc_it (te := fun σ H Q => tJs [tC (V.str ("line " : Str)), tFmt (tVar 6), tC (V.str (" " : Str)), tFmt (tVar 7), tC (V.str (" " : Str)), tFmt (tVar 8)] Str.empty σ H fun out H1 => Q (V.str out) H1) walk_list (fun i G => Same H2 G ∧ G D = some (.lst (((N.ls.take i).map lnT).map V.str))) ⟨sD, upd_same⟩ (fun i G _ z => SqL.of (z.1 _ _ ll2)) ?_ ?_
    · intro i x G0 G hi pG y
      obtain ⟨e, hx⟩ := y
      subst e
      obtain ⟨sm, hD⟩ := pG
      obtain ⟨t, et, rfl⟩ := refs_at hx
      obtain ⟨u, eu, hT⟩ := Paired.at hL et
      have il : i < N.ls.length := (List.getElem?_eq_some_iff.mp eu).1
      have ub := lb u (List.mem_of_getElem? eu)
      have b1 : (0 : Int) ≤ (u.1 : Int) ∧ (u.1 : Int) < 10 ^ 10 := ⟨by omega, by omega⟩
      have b2 : (0 : Int) ≤ (u.2.1 : Int) ∧ (u.2.1 : Int) < 10 ^ 10 := ⟨by omega, by omega⟩
      have b3 := ub.2.2
      have y1 := jl l0 l3
      have y2 := jl y1 (num_len b1.1 b1.2)
      have y3 := jl y2 l1
      have y4 := jl y3 (num_len b2.1 b2.2)
      have y5 := jl y4 l1
      have y6 := jl y5 (num_len b3.1 b3.2)
      refine ⟨t, _, rfl, same_tup sm hT, rfl, _, _, rfl, _, _, rfl, _, _, rfl, rfl, rfl, ?_⟩
      refine ⟨_, rfl, slz y1, _, rfl, .inr ⟨_, rfl, num_log b1.1 b1.2, _, rfl, slz y2, _, rfl, slz y3, _, rfl, .inr ⟨_, rfl, num_log b2.1 b2.2, _, rfl, slz y4, _, rfl, slz y5, _, rfl, .inr ⟨_, rfl, num_log b3.1 b3.2, _, rfl, slz y6, _, hD, szl (by rw [List.length_map, List.length_map, List.length_take]; omega), same_but sm nD but_self, ?_⟩⟩⟩⟩
      rw [upd_same, take_snoc eu, List.map_append, List.map_append]
      rfl
    rintro G ⟨sm, hD⟩
    rw [List.length_map, hL.length, List.take_length] at hD
    have ha2G := sm _ _ ha2
    have SG := S2.trans sm
    refine ⟨a2, D, _, _, rfl, rfl, ha2G, hD, Nat.le_of_lt (szl (by rw [List.length_map, List.length_append, List.length_map, List.length_map, List.length_map]; show 1 + _ + _ < _; omega)), fun a3 n3 => ?_⟩
    have s3 := same_new (o := .lst (([netT N] ++ N.ks.map kdT).map V.str ++ (N.ls.map lnT).map V.str)) n3
    have ha3 : (upd G a3 (.lst (([netT N] ++ N.ks.map kdT).map V.str ++ (N.ls.map lnT).map V.str))) a3 = some (.lst (([netT N] ++ N.ks.map kdT ++ N.ls.map lnT).map V.str)) := by
      rw [upd_same, List.map_append (l₁ := [netT N] ++ N.ks.map kdT)]
    generalize upd G a3 (.lst (([netT N] ++ N.ks.map kdT).map V.str ++ (N.ls.map lnT).map V.str)) = H3 at s3 ha3 ⊢
    have S3 := SG.trans s3
    have n3H : H a3 = none := SG.free n3
    have hpl3 := S3.seq hpl
    have hE3 := hE.same S3
    obtain ⟨B, hB⟩ : ∃ B, [netT N] ++ N.ks.map kdT ++ N.ls.map lnT = B := ⟨_, rfl⟩
    have lB : B.length ≤ 1101 := by
      rw [← hB, List.length_append, List.length_append, List.length_map, List.length_map]
      show 1 + _ + _ ≤ _
      omega
    rw [hB] at ha3
    refine ⟨_, rfl, pl, rfl, ⟨_, hpl3⟩, for_list (K := K) (a := pl) (xs := ts.map V.ref) (fun i σ H' => ∃ v3 v4 v5 : Option V, σ = [some (.ref np), some (.ref pl), some (.ref a3), v3, v4, v5, none, none, none, none] ∧ But a3 H3 H' ∧ H' a3 = some (.lst ((B ++ (es.take i).map enT).map V.str))) ⟨none, none, none, rfl, But.refl _ _, by rw [List.take_zero, List.map_nil, List.append_nil]; exact ha3⟩ (fun i σ H' _ ⟨_, _, _, _, kb, _⟩ => (same_but S3 n3H kb).seq hpl) ?_ ?_⟩
    · rintro i x σ H' hi ⟨v3, v4, v5, rfl, kb, hl⟩
      obtain ⟨t, et, rfl⟩ := refs_at hi
      have SH := same_but S3 n3H kb
      obtain ⟨e, ee, hEt⟩ := Paired.at (hE.same SH) et
      have il : i < es.length := (List.getElem?_eq_some_iff.mp ee).1
      obtain ⟨bp, bl, bd, bn, bnl, bo, bol⟩ := eb e (List.mem_of_getElem? ee)
      obtain ⟨u, lo, hT, ⟨dxs, lp, e1, e2⟩, hlo⟩ := hEt
      have e2' : H' lp = some (.lst ((e.s.path.map fun (n : Nat) => (n : Int)).map V.int)) := by
        rw [e2, List.map_map]
        rfl
      have w1 := jl l0 (num_len bp.1 bp.2)
      have w2 := jl w1 l1
      have w3 := jl w2 (num_len bl.1 bl.2)
      have w4 := jl w3 l1
      have w5 := jl w4 (num_len bd.1 bd.2)
      have bpi : ∀ n ∈ e.s.path.map fun (n : Nat) => (n : Int), 0 ≤ n ∧ n < 10 ^ 10 := fun n hn => by
        obtain ⟨m, hm, rfl⟩ := List.mem_map.mp hn
        have := bn m hm
        exact ⟨by omega, by omega⟩
      have cl1 : (commaT (e.s.path.map fun (n : Nat) => (n : Int))).length ≤ 1100 := by
        have := comma_len bpi
        rw [List.length_map] at this
        omega
      have cl2 : (commaT e.os).length ≤ 1100 := by
        have := comma_len bo
        omega
      have v1 := jl l0 l4
      have v2 := jl v1 w5
      have v3' := jl v2 l1
      have v4' := jl v3' cl1
      have v5' := jl v4' l1
      have v6 := jl v5' cl2
      refine ⟨t, _, rfl, hT, rfl, _, _, rfl, _, _, rfl, rfl, ?_⟩
      refine ⟨_, rfl, u, C2, dxs, _, _, rfl, e1, c2.cl, c2.n1, sg1, .inr ⟨_, rfl, num_log bp.1 bp.2, _, rfl, slz w1, _, rfl, slz w2, _, rfl, u, C2, dxs, _, _, rfl, e1, c2.cl, c2.n2, sg2, .inr ⟨_, rfl, num_log bl.1 bl.2, _, rfl, slz w3, _, rfl, slz w4, _, rfl, u, C2, dxs, _, _, rfl, e1, c2.cl, c2.n3, sg3, .inr ⟨_, rfl, num_log bd.1 bd.2, _, rfl, slz w5, ?_⟩⟩⟩⟩
      refine ⟨_, rfl, .inl ⟨rfl, _, SqL.of hl⟩, _, rfl, slz v1, _, rfl, .inl ⟨_, rfl, slz w5, _, rfl, slz v2, _, rfl, slz v3', _, rfl, u, C2, dxs, _, _, rfl, e1, c2.cl, c2.n4, sg4, lp, _, rfl, SqL.of e2', bpi, by rw [List.length_map]; omega, fun H5 s5 => .inl ⟨_, rfl, slz cl1, _, rfl, slz v4', _, rfl, slz v5', _, rfl, lo, e.os, rfl, s5.seq hlo, bo, by omega, fun H6 s6 => .inl ⟨_, rfl, slz cl2, _, rfl, slz v6, a3, _, _, rfl, rfl, (s5.trans s6) _ _ hl, szl (by rw [List.length_map, List.length_append, List.length_map, List.length_take]; omega), ?_⟩⟩⟩⟩
      refine ⟨_, _, _, rfl, But.trans kb (But.trans (fun b o z _ => (s5.trans s6) b o z) but_self), ?_⟩
      rw [upd_same, take_snoc ee, List.map_append (l₁ := es.take i), ← List.append_assoc, List.map_append (l₁ := B ++ (es.take i).map enT)]
      rfl
    · rintro σ H' ⟨v3, v4, v5, rfl, kb, hl⟩
      have SH := same_but S3 n3H kb
      rw [List.length_map, hE.length, List.take_length] at hl
      have eRows : B ++ es.map enT = rowsT N es := by
        rw [← hB]
        rfl
      rw [eRows] at hl
      have rb : ∀ r ∈ rowsT N es, r.length ≤ 3000 := by
        intro r hr
        have z0 : (netT N).length ≤ 3000 := Nat.le_trans z4 (by decide)
        rcases List.mem_append.mp hr with hr | hr
        · rcases List.mem_append.mp hr with hr | hr
          · rcases List.mem_append.mp hr with hr | hr
            · rw [List.mem_singleton.mp hr]
              exact z0
            · obtain ⟨b, _, rfl⟩ := List.mem_map.mp hr
              have := kd_len b
              omega
          · obtain ⟨u, hu, rfl⟩ := List.mem_map.mp hr
            have ub := lb u hu
            have y6 := jl (jl (jl (jl (jl (jl l0 l3) (num_len (show (0 : Int) ≤ (u.1 : Int) by omega) (by omega))) l1) (num_len (show (0 : Int) ≤ (u.2.1 : Int) by omega) (by omega))) l1) (num_len ub.2.2.1 ub.2.2.2)
            exact Nat.le_trans y6 (by decide)
        · obtain ⟨e, he, rfl⟩ := List.mem_map.mp hr
          obtain ⟨bp, bl, bd, bn, bnl, bo, bol⟩ := eb e he
          have w5 : (wdT e.s).length ≤ 50 := jl (jl (jl (jl (jl l0 (num_len bp.1 bp.2)) l1) (num_len bl.1 bl.2)) l1) (num_len bd.1 bd.2)
          have bpi : ∀ n ∈ e.s.path.map fun (n : Nat) => (n : Int), 0 ≤ n ∧ n < 10 ^ 10 := fun n hn => by
            obtain ⟨m, hm, rfl⟩ := List.mem_map.mp hn
            have := bn m hm
            exact ⟨by omega, by omega⟩
          have cl1 : (commaT (e.s.path.map fun (n : Nat) => (n : Int))).length ≤ 1100 := by
            have := comma_len bpi
            rw [List.length_map] at this
            omega
          have cl2 : (commaT e.os).length ≤ 1100 := by
            have := comma_len bo
            omega
          exact Nat.le_trans (jl (jl (jl (jl (jl (jl l0 l4) w5) l1) cl1) l1) cl2) (by decide)
      have lr : (rowsT N es).length ≤ 1301 := by
        rw [← eRows, List.length_append, List.length_map]
        omega
      obtain ⟨R, hR⟩ : ∃ R, rowsT N es = R := ⟨_, rfl⟩
      have q : ∀ H', Same H H' → Q (.str (Txt.join "" (R.map fun r => jsT [r, "\n"]))) H' := by
        rw [← hR]
        exact q
      rw [hR] at hl rb lr
      refine ⟨⟨_, rfl⟩, _, rfl, a3, rfl, ⟨_, SqL.of hl⟩, fun D2 nD2 => ?_⟩
      refine lc_it (te := fun σ H Q => tJs [tFmt (tVar 9), tC (V.str ("\n" : Str))] Str.empty σ H fun out H1 => Q (V.str out) H1) walk_list (fun i G => Same H' G ∧ G D2 = some (.lst (((R.take i).map fun r => jsT [r, "\n"]).map V.str))) ⟨same_new nD2, upd_same⟩ (fun i G _ z => SqL.of (z.1 _ _ hl)) ?_ ?_
      · intro i x G0 G hi pG y
        obtain ⟨e, hx⟩ := y
        subst e
        obtain ⟨sm, hD⟩ := pG
        rw [List.getElem?_map] at hx
        obtain ⟨r, er, rfl⟩ := Option.map_eq_some_iff.mp hx
        have il : i < R.length := (List.getElem?_eq_some_iff.mp er).1
        have b1 := rb r (List.mem_of_getElem? er)
        refine ⟨rfl, ?_⟩
        refine ⟨_, rfl, .inl ⟨_, rfl, slz b1, _, rfl, slz (jl l0 b1), _, rfl, slz (jl (jl l0 b1) l5), _, hD, szl (by rw [List.length_map, List.length_map, List.length_take]; omega), same_but sm nD2 but_self, ?_⟩⟩
        rw [upd_same, take_snoc er, List.map_append, List.map_append]
        rfl
      · rintro G ⟨sm, hD⟩
        rw [List.length_map, List.take_length] at hD
        refine ⟨_, D2, R.map fun r => jsT [r, "\n"], rfl, rfl, .inl (SqL.of hD), ?_, q G (SH.trans sm)⟩
        have sum : ∀ R : List Str, (∀ r ∈ R, r.length ≤ 3000) → ((R.map fun r => jsT [r, "\n"]).map (·.length)).sum ≤ 3010 * R.length := by
          intro R
          induction R with
          | nil => intro _; exact Nat.le_refl _
          | cons a t ih =>
            intro h
            have h1 := ih fun n hn => h n (List.mem_cons_of_mem _ hn)
            have h2 : (jsT [a, "\n"]).length ≤ 0 + 3000 + 10 := jl (jl l0 (h a List.mem_cons_self)) l5
            show (jsT [a, "\n"]).length + ((t.map fun r => jsT [r, "\n"]).map (·.length)).sum ≤ 3010 * (t.length + 1)
            omega
        have h1 := sum R rb
        have h2 : (("" : Str)).length = 0 := by decide +kernel
        rw [List.length_map, h2]
        omega
end
end My
namespace My
open PySem PySem.Spec PyProof.Rows L2
abbrev sLText : Stmt := top 24 /-_law_text-/
/-- rows with a line feed behind each -/
def glueT (R : List Str) : Str := Txt.join "" (R.map fun r => jsT [r, "\n"])
theorem tl_flat : ∀ ps : List (List Nat), TL.joinL [] ps = ps.flatten
  | [] => rfl
  | [p] => by
    show p = p ++ []
    rw [List.append_nil]
  | p :: q :: r => by
    show p ++ ([] ++ TL.joinL [] (q :: r)) = p ++ (q :: r).flatten
    rw [List.nil_append, tl_flat (q :: r)]
theorem tl_glue (R : List Str) : TL.tl (glueT R) = (R.map fun r => TL.tl r ++ TL.tl ("\n" : Str)).flatten := by
  unfold glueT
  rw [TL.join_eq, TL.tl_join, show TL.tl ("" : Str) = [] by decide +kernel, tl_flat, List.map_map]
  congr 1
  refine List.map_congr_left fun r _ => ?_
  show TL.tl ((Str.empty ++ r) ++ ("\n" : Str)) = _
  rw [TL.tl_append, TL.tl_append]
  rfl
theorem glue_snoc (R : List Str) (r : Str) : glueT (R ++ [r]) = (glueT R ++ r) ++ ("\n" : Str) := by
  refine TL.ext_tl ?_
  rw [TL.tl_append, TL.tl_append, tl_glue, tl_glue, List.map_append, List.flatten_append, List.append_assoc]
  congr 1
  show (TL.tl r ++ TL.tl ("\n" : Str)) ++ [] = _
  rw [List.append_nil]
theorem sapp (a b c : Str) : (a ++ b) ++ c = a ++ (b ++ c) := TL.ext_tl (by rw [TL.tl_append, TL.tl_append, TL.tl_append, TL.tl_append, List.append_assoc])
theorem tl_js (ps : List Str) : TL.tl (jsT ps) = (ps.map TL.tl).flatten := by
  unfold jsT
  have gen : ∀ (ps : List Str) (a : Str), TL.tl (ps.foldl (· ++ ·) a) = TL.tl a ++ (ps.map TL.tl).flatten := by
    intro ps
    induction ps with
    | nil => intro a; exact (List.append_nil _).symm
    | cons p r ih =>
      intro a
      rw [List.foldl_cons, ih, TL.tl_append, List.map_cons, List.flatten_cons, List.append_assoc]
  rw [gen]
  rfl
theorem glue_len {R : List Str} (h : ∀ r ∈ R, r.length ≤ 3000) : (glueT R).length ≤ 3010 * R.length := by
  rw [TL.len_tl, tl_glue]
  induction R with
  | nil => exact Nat.le_refl _
  | cons a t ih =>
    have h1 := ih fun r hr => h r (List.mem_cons_of_mem _ hr)
    have h2 := h a List.mem_cons_self
    have h3 := l5
    rw [TL.len_tl] at h2 h3
    rw [List.map_cons, List.flatten_cons, List.length_append, List.length_append, List.length_cons]
    omega
theorem txt0 (a b : Str) : ((((("net " : Str) ++ a) ++ (" " : Str)) ++ b) ++ ("\n" : Str)) = glueT [jsT ["net ", a, " ", b]] := TL.ext_tl (by
  rw [tl_glue]
  simp only [TL.tl_append, tl_js, List.map_cons, List.map_nil, List.flatten_cons, List.flatten_nil, List.append_assoc, List.append_nil])
theorem txt1 (t a b d : Str) : ((((((t ++ ("line " : Str)) ++ a) ++ (" " : Str)) ++ b) ++ (" " : Str)) ++ d) = t ++ jsT ["line ", a, " ", b, " ", d] := TL.ext_tl (by
  simp only [TL.tl_append, tl_js, List.map_cons, List.map_nil, List.flatten_cons, List.flatten_nil, List.append_assoc, List.append_nil])
theorem txt2 (t a b d x y : Str) : (t ++ ("stream " : Str)) ++ Txt.join (" " : Str) [a, b, d, x, y] = t ++ jsT ["stream ", jsT [a, " ", b, " ", d], " ", x, " ", y] := TL.ext_tl (by
  rw [TL.tl_append, TL.tl_append, TL.join_eq, TL.tl_join]
  simp only [TL.tl_append, tl_js, List.map_cons, List.map_nil, List.flatten_cons, List.flatten_nil, List.append_assoc, List.append_nil, TL.joinL])
/-- [str(x) for x in a list of numbers], joined by commas -/
theorem comma_read {K K2 : PySem.W.Frag} {te0 : TE} {j : Nat} {vs : List Nat} {σ : L2.St} {H : Hp} {Q : VK} {a : Addr} {ns : List Int} (h0 : ∀ R : VK, R (.ref a) H → te0 σ H R) (ha : SqL K H a (ns.map V.int)) (hn : ∀ n ∈ ns, 0 ≤ n ∧ n < 10 ^ 10) (hl : ns.length ≤ 1000)
    (hw : ∀ v : V, wipe ((wipe σ vs).set j (some v)) vs = wipe σ vs) (hg : ∀ v : V, ((wipe σ vs).set j (some v))[j]? = some (some v)) (q : ∀ G, Same H G → Q (.str (commaT ns)) G) :
    tM1 (fun x xs H Q => ∃ a p, ∃ ys : List Str, x = .str a ∧ xs = [.ref p] ∧ (SqL K2 H p (ys.map V.str) ∨ SqT K2 H p (ys.map V.str)) ∧ (ys.map (·.length)).sum + ys.length * a.length ≤ 16777216 ∧ Q (.str (Txt.join a ys)) H) (tC (.str ("," : Str))) (tLc (iList K te0) (gName j) tYes (tCB (fun xs H Q => ∃ i, xs = [.int i] ∧ i.natAbs.log2 < 1920 ∧ Q (.str (toString i)) H) (tCons (tVar j) tNil)) vs) σ H Q := by
  refine ⟨⟨_, rfl⟩, h0 _ ⟨a, rfl, ⟨_, ha⟩, fun D nD => ?_⟩⟩
  refine lc_it walk_list (fun i G => Same H G ∧ G D = some (.lst (((ns.take i).map numT).map V.str))) ⟨same_new nD, upd_same⟩ (fun i G _ z => Same.seq z.1 ha) ?_ ?_
  · intro i x G0 G hi pG y
    obtain ⟨e, hx⟩ := y
    subst e
    obtain ⟨sm, hD⟩ := pG
    obtain ⟨n, en, rfl⟩ := ints_at hx
    have il : i < ns.length := (List.getElem?_eq_some_iff.mp en).1
    have nb := hn n (List.mem_of_getElem? en)
    refine ⟨hw _, _, hg _, n, rfl, num_log nb.1 nb.2, _, hD, szl (by rw [List.length_map, List.length_map, List.length_take]; omega), same_but sm nD but_self, ?_⟩
    rw [upd_same, take_snoc en, List.map_append, List.map_append]
    rfl
  · rintro G ⟨sm, hD⟩
    rw [List.length_map, List.take_length] at hD
    refine ⟨_, D, ns.map numT, rfl, rfl, .inl (SqL.of hD), ?_, q G sm⟩
    have sum : ∀ ns : List Int, (∀ n ∈ ns, 0 ≤ n ∧ n < 10 ^ 10) → ((ns.map numT).map (·.length)).sum ≤ 10 * ns.length := by
      intro ns
      induction ns with
      | nil => intro _; exact Nat.le_refl _
      | cons a r ih =>
        intro h
        have h1 := ih fun n hn => h n (List.mem_cons_of_mem _ hn)
        have h2 := num_len (h a List.mem_cons_self).1 (h a List.mem_cons_self).2
        show (numT a).length + ((r.map numT).map (·.length)).sum ≤ 10 * (r.length + 1)
        omega
    have h1 := sum ns hn
    have h2 : (("," : Str)).length = 1 := by decide +kernel
    rw [List.length_map, h2]
    omega
section
variable {P : Program} {w : World} {K : PySem.W.Frag} {mg : Str → Option Value} {base : Heap}
theorem scLText : FnScope ["net", "plan", "text", "kind", "a", "b", "ticks", "stream", "offsets", "words", "node", "offset"] ["net", "plan"] (defScope sLText) := ⟨rfl, rfl, rfl, by decide +kernel, rfl, by decide +kernel, by decide +kernel⟩
-- ["net", "plan", "text", "kind", "a", "b", "ticks", "stream", "offsets", "words", "node", "offset"]
theorem ok_ltext {f C C2 : Addr} {fd : FuncData} {k : Nat} (F : Fun K "_law_text" "_law_text" sLText f fd) (hstr : mg "str" = none) (c : NetC K C) (c2 : StrC K C2) : FnOk P w K mg base CX0 (k + 1) f fd ["net", "plan"] (spWrite K C C2) := by
  refine F.ok scLText (fun vs H Q E h => ?_) (fun cdv A0 outer s0 H vs Q E hr h => ?_)
  · obtain ⟨np, pl, N, ts, es, rfl, _⟩ := h
    rfl
  · obtain ⟨np, pl, N, ts, es, rfl, hN, hpl, hE, pr, er, nk, lb, nl, ne, eb, q⟩ := h
    have nd := scLText.nd
    refine ⟨_, pss_cons (ps_set (i := 2) nd rfl (.inl rfl) (pe_op op_add_str (pe_op op_add_str (pe_op op_add_str (pe_op op_add_str pe_str (pe_callTy call_str_int (by rfl) hstr (by decide +kernel) (pa_cons (pe_fld (pv 0) rfl) pa_nil))) pe_str) (pe_callTy call_str_int (by rfl) hstr (by decide +kernel) (pa_cons (pe_fld (pv 0) rfl) pa_nil))) pe_str)) <| pss_cons (ps_for PassesOwn.never rfl (pi_list (pe_fld (pv 0) rfl)) (pg_name (i := 3) nd rfl (.inl rfl)) (pss_one (ps_set (i := 2) nd rfl (.inl rfl) (pe_op op_add_str (pe_op op_add_str (pv 2) (pv 3)) pe_str)))) <| pss_cons (ps_for PassesOwn.never rfl (pi_list (pe_fld (pv 0) rfl)) (pg_tup rfl (pgs_cons (pg_name (i := 4) nd rfl (.inl rfl)) (pgs_cons (pg_name (i := 5) nd rfl (.inl rfl)) (pgs_cons (pg_name (i := 6) nd rfl (.inl rfl)) pgs_nil)))) (pss_one (ps_set (i := 2) nd rfl (.inl rfl) (pe_op op_add_str (pe_op op_add_str (pe_op op_add_str (pe_op op_add_str (pe_op op_add_str (pe_op op_add_str (pe_op op_add_str (pv 2) pe_str) (pe_callTy call_str_int (by rfl) hstr (by decide +kernel) (pa_cons (pv 4) pa_nil))) pe_str) (pe_callTy call_str_int (by rfl) hstr (by decide +kernel) (pa_cons (pv 5) pa_nil))) pe_str) (pe_callTy call_str_int (by rfl) hstr (by decide +kernel) (pa_cons (pv 6) pa_nil))) pe_str)))) <| pss_cons (ps_for PassesOwn.never rfl (pi_list (pv 1)) (pg_tup rfl (pgs_cons (pg_name (i := 7) nd rfl (.inl rfl)) (pgs_cons (pg_name (i := 8) nd rfl (.inl rfl)) pgs_nil))) (pss_cons (ps_set (i := 9) nd rfl (.inl rfl) (pe_lst (pa_cons (pe_callTy call_str_int (by rfl) hstr (by decide +kernel) (pa_cons (pe_fld (pv 7) rfl) pa_nil)) (pa_cons (pe_callTy call_str_int (by rfl) hstr (by decide +kernel) (pa_cons (pe_fld (pv 7) rfl) pa_nil)) (pa_cons (pe_callTy call_str_int (by rfl) hstr (by decide +kernel) (pa_cons (pe_fld (pv 7) rfl) pa_nil)) pa_nil))))) <| pss_cons (ps_expr (pe_bm PySem.F.plainAttrs_list PySem.F.slot_list_append PySem.F.type_list_append mt_append (pv 9) (pa_cons (pe_join pe_str (pe_lc (own := [("node", 10)]) (g := gName 10) (tt := tYes) rfl nd (pi_list (pe_fld (pv 7) rfl)) (blkOk_by (own := [("node", 10)]) (N := ["net", "plan", "text", "kind", "a", "b", "ticks", "stream", "offsets", "words", "node", "offset"]) (sc := defScope sLText) (by decide +kernel)) (fun _ _ _ _ _ => pg_name (i := 10) nd rfl (Or.inl rfl)) (fun _ _ _ _ _ => pts_nil) (fun _ _ _ _ _ => (pe_callTy call_str_int (by rfl) hstr (by decide +kernel) (pa_cons (pv 10) pa_nil))))) pa_nil))) <| pss_cons (ps_expr (pe_bm PySem.F.plainAttrs_list PySem.F.slot_list_append PySem.F.type_list_append mt_append (pv 9) (pa_cons (pe_join pe_str (pe_lc (own := [("offset", 11)]) (g := gName 11) (tt := tYes) rfl nd (pi_list (pv 8)) (blkOk_by (own := [("offset", 11)]) (N := ["net", "plan", "text", "kind", "a", "b", "ticks", "stream", "offsets", "words", "node", "offset"]) (sc := defScope sLText) (by decide +kernel)) (fun _ _ _ _ _ => pg_name (i := 11) nd rfl (Or.inl rfl)) (fun _ _ _ _ _ => pts_nil) (fun _ _ _ _ _ => (pe_callTy call_str_int (by rfl) hstr (by decide +kernel) (pa_cons (pv 11) pa_nil))))) pa_nil))) <| pss_one (ps_set (i := 2) nd rfl (.inl rfl) (pe_op op_add_str (pe_op op_add_str (pe_op op_add_str (pv 2) pe_str) (pe_join pe_str (pv 9))) pe_str)))) <| pss_one (ps_ret (pv 2)), ?_⟩
    obtain ⟨dx, lk, ll, ld, tl', h1, h2, h3, h4, h5⟩ := id hN
    have np1 := num_len pr.1 pr.2
    have np2 := num_len er.1 er.2
    have sl : ∀ {n : Nat}, n ≤ 16000000 → n ≤ sizeLine := fun h => by rw [sizeLine_eq]; omega
    have z0 := l2
    have z5 := l1
    have z6 := l5
    have z1 := jl l2 np1
    have z2 := jl z1 l1
    have z3 := jl z2 np2
    refine ⟨_, rfl, np, C, dx, _, _, rfl, h1, c.cl, c.n3, g3, _, rfl, num_log pr.1 pr.2, _, _, rfl, rfl, sl (Nat.le_trans (Nat.add_le_add l2 np1) (by decide)), _, _, rfl, rfl, sl (Nat.le_trans (Nat.add_le_add z1 l1) (by decide)), ?_⟩
    refine ⟨_, rfl, np, C, dx, _, _, rfl, h1, c.cl, c.n4, g4, _, rfl, num_log er.1 er.2, _, _, rfl, rfl, sl (Nat.le_trans (Nat.add_le_add z2 np2) (by decide)), _, _, rfl, rfl, sl (Nat.le_trans (Nat.add_le_add z3 l5) (by decide)), ?_⟩
    have e0 : (((("net " : Str) ++ Str.ofString (toString N.pr)) ++ (" " : Str)) ++ Str.ofString (toString N.er)) ++ ("\n" : Str) = glueT [netT N] := txt0 _ _
    have nlen : ∀ r ∈ [netT N], r.length ≤ 3000 := fun r hr => by
      rw [List.mem_singleton.mp hr]
      exact Nat.le_trans (jl (jl (jl (jl l0 l2) np1) l1) np2) (by decide)
    refine ⟨_, rfl, np, C, dx, _, _, rfl, h1, c.cl, c.n1, g1, lk, rfl, ⟨_, SqL.of h2⟩, for_list (K := K) (a := lk) (xs := N.ks.map kindV) (fun i σ H' => ∃ v3 : Option V, σ = [some (.ref np), some (.ref pl), some (.str (glueT ([netT N] ++ (N.ks.take i).map kdT))), v3, none, none, none, none, none, none, none, none] ∧ H' = H) ⟨none, ?_, rfl⟩ (fun i σ H' _ ⟨_, _, e⟩ => e ▸ SqL.of h2) ?_ ?_⟩
    · rw [List.take_zero, List.map_nil, List.append_nil, ← e0]
      rfl
    · rintro i x σ H' hi ⟨v3, rfl, rfl⟩
      rw [List.getElem?_map] at hi
      obtain ⟨b, eb', rfl⟩ := Option.map_eq_some_iff.mp hi
      have il : i < N.ks.length := (List.getElem?_eq_some_iff.mp eb').1
      have gl : (glueT ([netT N] ++ (N.ks.take i).map kdT)).length ≤ 3010 * 101 := by
        refine Nat.le_trans (glue_len fun r hr => ?_) (Nat.mul_le_mul_left _ (by rw [List.length_append, List.length_map, List.length_take]; show 1 + _ ≤ _; omega))
        rcases List.mem_append.mp hr with z | z
        · exact nlen r z
        · obtain ⟨b, _, rfl⟩ := List.mem_map.mp z
          exact Nat.le_trans (kd_len b) (by decide)
      refine ⟨_, rfl, _, rfl, _, _, rfl, rfl, sl (Nat.le_trans (Nat.add_le_add gl (kd_len b)) (by decide)), _, _, rfl, rfl, sl (Nat.le_trans (Nat.add_le_add (jl gl (kd_len b)) l5) (by decide)), ?_⟩
      have e : glueT ([netT N] ++ (N.ks.take (i + 1)).map kdT) = (glueT ([netT N] ++ (N.ks.take i).map kdT) ++ kdT b) ++ ("\n" : Str) := by
        rw [take_snoc eb', List.map_append, ← List.append_assoc]
        exact glue_snoc _ _
      refine ⟨some (kindV b), ?_, rfl⟩
      rw [e]
      rfl
    rintro σ H' ⟨v3, rfl, rfl⟩
    rw [List.length_map, List.take_length]
    obtain ⟨B, hB⟩ : ∃ B, [netT N] ++ N.ks.map kdT = B := ⟨_, rfl⟩
    rw [hB]
    have lB : B.length ≤ 101 := by
      rw [← hB, List.length_append, List.length_map]
      show 1 + _ ≤ _
      omega
    have bB : ∀ r ∈ B, r.length ≤ 3000 := fun r hr => by
      rw [← hB] at hr
      rcases List.mem_append.mp hr with z | z
      · exact nlen r z
      · obtain ⟨b, _, rfl⟩ := List.mem_map.mp z
        exact Nat.le_trans (kd_len b) (by decide)
    have lnl : ∀ u ∈ N.ls, (lnT u).length ≤ 3000 := fun u hu => by
      have ub := lb u hu
      exact Nat.le_trans (jl (jl (jl (jl (jl (jl l0 l3) (num_len (show (0 : Int) ≤ (u.1 : Int) by omega) (by omega))) l1) (num_len (show (0 : Int) ≤ (u.2.1 : Int) by omega) (by omega))) l1) (num_len ub.2.2.1 ub.2.2.2)) (by decide)
    refine ⟨_, rfl, np, C, dx, _, _, rfl, h1, c.cl, c.n2, g2, ll, rfl, ⟨_, SqL.of h3⟩, for_list (K := K) (a := ll) (xs := tl'.map V.ref) (fun i σ H2 => ∃ v4 v5 v6 : Option V, σ = [some (.ref np), some (.ref pl), some (.str (glueT (B ++ (N.ls.take i).map lnT))), v3, v4, v5, v6, none, none, none, none, none] ∧ H2 = H') ⟨none, none, none, by rw [List.take_zero, List.map_nil, List.append_nil], rfl⟩ (fun i σ H2 _ ⟨_, _, _, _, e⟩ => e ▸ SqL.of h3) ?_ ?_⟩
    · rintro i x σ H2 hi ⟨v4, v5, v6, rfl, rfl⟩
      obtain ⟨t, et, rfl⟩ := refs_at hi
      obtain ⟨u, eu, hT⟩ := Paired.at h4 et
      have il : i < N.ls.length := (List.getElem?_eq_some_iff.mp eu).1
      have ub := lb u (List.mem_of_getElem? eu)
      have b1 : (0 : Int) ≤ (u.1 : Int) ∧ (u.1 : Int) < 10 ^ 10 := ⟨by omega, by omega⟩
      have b2 : (0 : Int) ≤ (u.2.1 : Int) ∧ (u.2.1 : Int) < 10 ^ 10 := ⟨by omega, by omega⟩
      have b3 := ub.2.2
      have gl : (glueT (B ++ (N.ls.take i).map lnT)).length ≤ 3010 * 1101 := by
        refine Nat.le_trans (glue_len fun r hr => ?_) (Nat.mul_le_mul_left _ (by rw [List.length_append, List.length_map, List.length_take]; omega))
        rcases List.mem_append.mp hr with z | z
        · exact bB r z
        · obtain ⟨u, hu, rfl⟩ := List.mem_map.mp z
          exact lnl u (List.mem_of_mem_take hu)
      have y1 := jl gl l3
      have y2 := jl y1 (num_len b1.1 b1.2)
      have y3 := jl y2 l1
      have y4 := jl y3 (num_len b2.1 b2.2)
      have y5 := jl y4 l1
      have y6 := jl y5 (num_len b3.1 b3.2)
      have sk : ∀ {a b : Str} {m n : Nat}, a.length ≤ m → b.length ≤ n → m + n ≤ 16000000 → a.length + b.length ≤ sizeLine := fun h g k => sl (by omega)
      refine ⟨t, _, rfl, hT, rfl, _, _, rfl, _, _, rfl, _, _, rfl, rfl, ?_⟩
      refine ⟨_, rfl, _, _, rfl, rfl, sk gl l3 (by decide), _, rfl, _, rfl, num_log b1.1 b1.2, _, _, rfl, rfl, sk y1 (num_len b1.1 b1.2) (by decide), _, _, rfl, rfl, sk y2 l1 (by decide), _, rfl, _, rfl, num_log b2.1 b2.2, _, _, rfl, rfl, sk y3 (num_len b2.1 b2.2) (by decide), _, _, rfl, rfl, sk y4 l1 (by decide), _, rfl, _, rfl, num_log b3.1 b3.2, _, _, rfl, rfl, sk y5 (num_len b3.1 b3.2) (by decide), _, _, rfl, rfl, sk y6 l5 (by decide), ?_⟩
      have e : glueT (B ++ (N.ls.take (i + 1)).map lnT) = (glueT (B ++ (N.ls.take i).map lnT) ++ lnT u) ++ ("\n" : Str) := by
        rw [take_snoc eu, List.map_append, ← List.append_assoc]
        exact glue_snoc _ _
      refine ⟨some (.int (u.1 : Int)), some (.int (u.2.1 : Int)), some (.int u.2.2), ?_, rfl⟩
      rw [e]
      have e2 := txt1 (glueT (B ++ (N.ls.take i).map lnT)) (numT (u.1 : Int)) (numT (u.2.1 : Int)) (numT u.2.2)
      show _ = [some (V.ref np), some (V.ref pl), some (V.str ((glueT (B ++ (N.ls.take i).map lnT) ++ jsT ["line ", numT (u.1 : Int), " ", numT (u.2.1 : Int), " ", numT u.2.2]) ++ ("\n" : Str))), _, _, _, _, none, none, none, none, none]
      rw [← e2]
      rfl
    rintro σ H2 ⟨v4, v5, v6, rfl, rfl⟩
    rw [List.length_map, h4.length, List.take_length]
    obtain ⟨B2, hB2⟩ : ∃ B2, B ++ N.ls.map lnT = B2 := ⟨_, rfl⟩
    rw [hB2]
    refine ⟨_, rfl, pl, rfl, ⟨_, hpl⟩, for_list (K := K) (a := pl) (xs := ts.map V.ref) (fun i σ H3 => ∃ v7 v8 v9 : Option V, σ = [some (.ref np), some (.ref pl), some (.str (glueT (B2 ++ (es.take i).map enT))), v3, v4, v5, v6, v7, v8, v9, none, none] ∧ Same H2 H3) ⟨none, none, none, by rw [List.take_zero, List.map_nil, List.append_nil], Same.refl _⟩ (fun i σ H3 _ ⟨_, _, _, _, sm⟩ => sm.seq hpl) ?_ ?_⟩
    · rintro i x σ H3 hi ⟨v7, v8, v9, rfl, sm⟩
      obtain ⟨t, et, rfl⟩ := refs_at hi
      obtain ⟨e, ee, hEt⟩ := Paired.at (hE.same sm) et
      have il : i < es.length := (List.getElem?_eq_some_iff.mp ee).1
      obtain ⟨bp, bl, bd, bn, bnl, bo, bol⟩ := eb e (List.mem_of_getElem? ee)
      obtain ⟨u, lo, hT, ⟨dxs, lp, e1, e2⟩, hlo⟩ := hEt
      refine ⟨t, _, rfl, hT, rfl, _, _, rfl, _, _, rfl, rfl, ?_⟩
      refine ⟨_, rfl, u, C2, dxs, _, _, rfl, e1, c2.cl, c2.n1, sg1, _, rfl, num_log bp.1 bp.2, _, rfl, u, C2, dxs, _, _, rfl, e1, c2.cl, c2.n2, sg2, _, rfl, num_log bl.1 bl.2, _, rfl, u, C2, dxs, _, _, rfl, e1, c2.cl, c2.n3, sg3, _, rfl, num_log bd.1 bd.2, (by show 3 ≤ sizeLine; decide), fun wl nwl => ?_⟩
      have sw := same_new (o := .lst [V.str (numT e.s.pe), V.str (numT e.s.ln), V.str (numT e.s.dl)]) nwl
      have hwl : (upd H3 wl (.lst [V.str (numT e.s.pe), V.str (numT e.s.ln), V.str (numT e.s.dl)])) wl = some (.lst [V.str (numT e.s.pe), V.str (numT e.s.ln), V.str (numT e.s.dl)]) := upd_same
      have nwl2 : H2 wl = none := sm.free nwl
      have e2' : H3 lp = some (.lst ((e.s.path.map fun (n : Nat) => (n : Int)).map V.int)) := by
        rw [e2, List.map_map]
        rfl
      have bpi : ∀ n ∈ e.s.path.map fun (n : Nat) => (n : Int), 0 ≤ n ∧ n < 10 ^ 10 := fun n hn => by
        obtain ⟨m, hm, rfl⟩ := List.mem_map.mp hn
        have := bn m hm
        exact ⟨by omega, by omega⟩
      have cl1 : (commaT (e.s.path.map fun (n : Nat) => (n : Int))).length ≤ 1100 := by
        have := comma_len bpi
        rw [List.length_map] at this
        omega
      have cl2 : (commaT e.os).length ≤ 1100 := by
        have := comma_len bo
        omega
      refine ⟨_, rfl, .inl ⟨rfl, _, SqL.of hwl⟩, comma_read (fun R r => ⟨_, rfl, u, C2, dxs, _, _, rfl, sw _ _ e1, c2.cl, c2.n4, sg4, r⟩) (SqL.of (sw _ _ e2')) bpi (by rw [List.length_map]; omega) (fun _ => rfl) (fun _ => rfl) fun G4 s4 => ⟨wl, _, _, rfl, rfl, s4 _ _ hwl, (by show 3 < sizeLine; decide), ?_⟩⟩
      have k5 : But wl G4 (upd G4 wl (.lst ([V.str (numT e.s.pe), V.str (numT e.s.ln), V.str (numT e.s.dl)] ++ [V.str (commaT (e.s.path.map fun (n : Nat) => (n : Int)))]))) := but_self
      have h5w := upd_same (H := G4) (a := wl) (o := .lst ([V.str (numT e.s.pe), V.str (numT e.s.ln), V.str (numT e.s.dl)] ++ [V.str (commaT (e.s.path.map fun (n : Nat) => (n : Int)))]))
      have S5 : Same H3 (upd G4 wl (.lst ([V.str (numT e.s.pe), V.str (numT e.s.ln), V.str (numT e.s.dl)] ++ [V.str (commaT (e.s.path.map fun (n : Nat) => (n : Int)))]))) := same_but (sw.trans s4) nwl k5
      refine ⟨_, rfl, .inl ⟨rfl, _, SqL.of h5w⟩, comma_read (fun R r => ⟨_, rfl, r⟩) (S5.seq hlo) bo (by omega) (fun _ => rfl) (fun _ => rfl) fun G6 s6 => ⟨wl, _, _, rfl, rfl, s6 _ _ h5w, (by show 4 < sizeLine; decide), ?_⟩⟩
      have enl : ∀ e ∈ es, (enT e).length ≤ 3000 := fun e he => by
        obtain ⟨bp, bl, bd, bn, bnl, bo, bol⟩ := eb e he
        have w5 : (wdT e.s).length ≤ 50 := jl (jl (jl (jl (jl l0 (num_len bp.1 bp.2)) l1) (num_len bl.1 bl.2)) l1) (num_len bd.1 bd.2)
        have bpi : ∀ n ∈ e.s.path.map fun (n : Nat) => (n : Int), 0 ≤ n ∧ n < 10 ^ 10 := fun n hn => by
          obtain ⟨m, hm, rfl⟩ := List.mem_map.mp hn
          have := bn m hm
          exact ⟨by omega, by omega⟩
        have cl1 : (commaT (e.s.path.map fun (n : Nat) => (n : Int))).length ≤ 1100 := by
          have := comma_len bpi
          rw [List.length_map] at this
          omega
        have cl2 : (commaT e.os).length ≤ 1100 := by
          have := comma_len bo
          omega
        exact Nat.le_trans (jl (jl (jl (jl (jl (jl l0 l4) w5) l1) cl1) l1) cl2) (by decide)
      have lB2 : B2.length ≤ 1101 := by
        rw [← hB2, List.length_append, List.length_map]
        omega
      have gl : (glueT (B2 ++ (es.take i).map enT)).length ≤ 3010 * 1201 := by
        refine Nat.le_trans (glue_len fun r hr => ?_) (Nat.mul_le_mul_left _ (by rw [List.length_append, List.length_map, List.length_take]; omega))
        rcases List.mem_append.mp hr with z | z
        · rw [← hB2] at z
          rcases List.mem_append.mp z with z | z
          · exact bB r z
          · obtain ⟨u, hu, rfl⟩ := List.mem_map.mp z
            exact lnl u hu
        · obtain ⟨e, he, rfl⟩ := List.mem_map.mp z
          exact enl e (List.mem_of_mem_take he)
      have eT := txt2 (glueT (B2 ++ (es.take i).map enT)) (numT e.s.pe) (numT e.s.ln) (numT e.s.dl) (commaT (e.s.path.map fun (n : Nat) => (n : Int))) (commaT e.os)
      have eT : (glueT (B2 ++ (es.take i).map enT) ++ ("stream " : Str)) ++ Txt.join (" " : Str) [numT e.s.pe, numT e.s.ln, numT e.s.dl, commaT (e.s.path.map fun (n : Nat) => (n : Int)), commaT e.os] = glueT (B2 ++ (es.take i).map enT) ++ enT e := eT
      have eL := congrArg Str.length eT
      rw [Str.length_append, Str.length_append (glueT (B2 ++ (es.take i).map enT)) (enT e)] at eL
      have el := enl e (List.mem_of_getElem? ee)
      have sz1 := sl (n := (glueT (B2 ++ (es.take i).map enT)).length + ("stream " : Str).length) (by have := l4; omega)
      have sz2 := sl (n := (glueT (B2 ++ (es.take i).map enT) ++ ("stream " : Str)).length + (Txt.join (" " : Str) [numT e.s.pe, numT e.s.ln, numT e.s.dl, commaT (e.s.path.map fun (n : Nat) => (n : Int)), commaT e.os]).length) (by omega)
      have sz3 := sl (n := ((glueT (B2 ++ (es.take i).map enT) ++ ("stream " : Str)) ++ Txt.join (" " : Str) [numT e.s.pe, numT e.s.ln, numT e.s.dl, commaT (e.s.path.map fun (n : Nat) => (n : Int)), commaT e.os]).length + ("\n" : Str).length) (by rw [Str.length_append]; have := l5; omega)
      refine ⟨_, rfl, _, _, rfl, rfl, sz1, ⟨_, rfl⟩, _, rfl, _, wl, [numT e.s.pe, numT e.s.ln, numT e.s.dl, commaT (e.s.path.map fun (n : Nat) => (n : Int)), commaT e.os], rfl, rfl, .inl (SqL.of upd_same), ?_, _, _, rfl, rfl, sz2, _, _, rfl, rfl, sz3, ?_⟩
      · have a1 := num_len bp.1 bp.2
        have a2 := num_len bl.1 bl.2
        have a3 := num_len bd.1 bd.2
        have a4 := l1
        show (numT e.s.pe).length + ((numT e.s.ln).length + ((numT e.s.dl).length + ((commaT (e.s.path.map fun (n : Nat) => (n : Int))).length + ((commaT e.os).length + 0)))) + 5 * (" " : Str).length ≤ 16777216
        omega
      · have eG : glueT (B2 ++ (es.take (i + 1)).map enT) = (glueT (B2 ++ (es.take i).map enT) ++ enT e) ++ ("\n" : Str) := by
          rw [take_snoc ee, List.map_append, ← List.append_assoc]
          exact glue_snoc _ _
        refine ⟨some (.ref u), some (.ref lo), some (.ref wl), ?_, sm.trans (same_but (S5.trans s6) nwl but_self)⟩
        rw [eG, ← eT]
        rfl
    · rintro σ H3 ⟨v7, v8, v9, rfl, sm⟩
      rw [List.length_map, hE.length, List.take_length, ← hB2, ← hB]
      exact ⟨_, rfl, q H3 sm⟩
end
end My
namespace My
open PySem PySem.Spec PyProof.Rows L2
abbrev sIsNum : Stmt := top 14 /-is_number-/
theorem dec_str (a b : Str) : decide (V.str a = V.str b) = decide (a = b) := by
  by_cases h : a = b
  · rw [h]; simp
  · rw [decide_eq_false h, decide_eq_false]
    intro z
    injection z with z
    exact h z
section
variable {P : Program} {w : World} {K : PySem.W.Frag} {mg : Str → Option Value} {base : Heap}
theorem scIsNum : FnScope ["word"] ["word"] (defScope sIsNum) := ⟨rfl, rfl, rfl, by decide +kernel, rfl, by decide +kernel, by decide +kernel⟩
def isNumT (y : Str) : Bool := decide (y = ("0" : Str)) || (Txt.isdigit y && (!decide ((⟨#[y.cps.toList.headD 0]⟩ : Str) = ("0" : Str)) && decide ((y.length : Int) ≤ 9)))
def spIsNum : Sp := fun vs H Q _ => ∃ y : Str, vs = [.str y] ∧ y.length ≤ 640 ∧ Q (.bl (isNumT y)) H
theorem ok_isnum {f : Addr} {fd : FuncData} {k : Nat} (F : Fun K "is_number" "is_number" sIsNum f fd) (hlen : mg "len" = none) : FnOk P w K mg base CX0 (k + 1) f fd ["word"] spIsNum := by
  refine F.ok scIsNum (fun vs H Q E h => ?_) (fun cdv A0 outer s0 H vs Q E hr h => ?_)
  · obtain ⟨y, rfl, _⟩ := h
    rfl
  · obtain ⟨y, rfl, hy, q⟩ := h
    have nd := scIsNum.nd
    refine ⟨_, pss_one (ps_ret (pe_or (pe_cmpR op_eq (pv 0) pe_str (nomark _)) (pe_one (pe_and (pe_m0 PySem.F.slot_str_isdigit PySem.F.type_str_isdigit mt_isdigit (pv 0)) (pe_and (pe_cmpR op_ne (pe_ix ix_str (pv 0) pe_int (fun _ _ => rfl)) pe_str (nomark _)) (pe_one (pe_cmpR op_le (pe_callB call_len_str (by rfl) hlen PySem.boot_len (pa_cons (pv 0) pa_nil)) pe_int (nomark _)))))))), ?_⟩
    dsimp only [tRet]
    have sl : y.length ≤ sizeLine := Nat.le_trans hy (by decide)
    refine orv (a := decide (y = ("0" : Str))) (b := Txt.isdigit y && (!decide ((⟨#[y.cps.toList.headD 0]⟩ : Str) = ("0" : Str)) && decide ((y.length : Int) ≤ 9))) (fun Q h => ⟨_, rfl, rfl, by rw [dec_str]; exact h⟩) (fun _ Q h => ?_) q
    refine andv (a := Txt.isdigit y) (b := !decide ((⟨#[y.cps.toList.headD 0]⟩ : Str) = ("0" : Str)) && decide ((y.length : Int) ≤ 9)) (fun Q h => ⟨_, rfl, ⟨_, rfl⟩, _, rfl, rfl, trivial, h⟩) (fun di Q h => ?_) h
    have ne : ∃ c r, y.cps.toList = c :: r := by
      cases e : y.cps.toList with
      | nil =>
        have : y.length = 0 := by
          show y.cps.size = 0
          rw [← Array.length_toList, e]
          rfl
        unfold Txt.isdigit at di
        rw [this] at di
        exact absurd di (by simp)
      | cons c r => exact ⟨c, r, rfl⟩
    obtain ⟨c, r, ec⟩ := ne
    have eh : y.cps.toList.headD 0 = c := by rw [ec]; rfl
    refine andv (a := !decide ((⟨#[y.cps.toList.headD 0]⟩ : Str) = ("0" : Str))) (b := decide ((y.length : Int) ≤ 9)) (fun Q h => ?_) (fun _ Q h => ⟨_, rfl, y, rfl, sl, _, _, rfl, rfl, h⟩) h
    refine ⟨_, rfl, y, 0, c, rfl, rfl, sl, (by rw [ec]; exact atI_nat (j := 0) rfl), rfl, ?_⟩
    rw [dec_str, ← eh]
    exact h
end
end My
namespace My
open PySem PySem.Spec PyProof.Rows L2
theorem dig_all : ∀ c : Nat, c < 128 → 48 ≤ c → c ≤ 57 → Unicode.isDigit c = true := by decide +kernel
theorem numL_head (n : Nat) : 0 < n → (TL.numL n).headD 0 ≠ 48 := by
  induction n using Nat.strongRecOn with
  | ind n ih =>
    intro h
    by_cases lt : n < 10
    · rw [TL.numL_lt lt]
      show 48 + n ≠ 48
      omega
    · rw [TL.numL_step (by omega)]
      have := ih (n / 10) (by omega) (by omega)
      cases e : TL.numL (n / 10) with
      | nil => exact absurd e (TL.numL_ne _)
      | cons a r =>
        rw [e] at this
        exact this
theorem numT_tl {i : Int} (h0 : 0 ≤ i) : TL.tl (numT i) = TL.numL i.toNat := by
  have e : i = ((i.toNat : Nat) : Int) := by omega
  have := TL.tl_num i.toNat
  rw [← e] at this
  exact this
/-- what is written for a number is read as one -/
theorem isnum_num {i : Int} (h0 : 0 ≤ i) (h1 : i < 10 ^ 9) : isNumT (numT i) = true := by
  have et := numT_tl h0
  have len : (numT i).length ≤ 9 := toString_length_le h0 (by decide) h1
  unfold isNumT
  by_cases z : i = 0
  · rw [z, show decide (numT 0 = ("0" : Str)) = true by decide +kernel]
    rfl
  · have dg : Txt.isdigit (numT i) = true := by
      unfold Txt.isdigit
      rw [Bool.and_eq_true]
      constructor
      · refine decide_eq_true ?_
        rw [TL.len_tl, et]
        exact List.length_pos_iff.mpr (TL.numL_ne _)
      · rw [Array.all_eq_true']
        intro c hc
        have hc : c ∈ TL.tl (numT i) := Array.mem_toList_iff.mpr hc
        rw [et] at hc
        have := TL.numL_digits i.toNat c hc
        exact dig_all c (by omega) (by omega) (by omega)
    have hd : decide ((⟨#[(numT i).cps.toList.headD 0]⟩ : Str) = ("0" : Str)) = false := by
      refine decide_eq_false fun y => numL_head i.toNat (by omega) ?_
      have e2 : (numT i).cps.toList = TL.numL i.toNat := et
      rw [e2] at y
      have := congrArg TL.tl y
      have e3 : TL.tl ("0" : Str) = [48] := by decide +kernel
      rw [e3] at this
      have this : [(TL.numL i.toNat).headD 0] = [48] := this
      exact (List.cons.inj this).1
    rw [dg, hd, decide_eq_true (show ((numT i).length : Int) ≤ 9 by omega)]
    simp
theorem int_numT {i : Int} (h0 : 0 ≤ i) (h1 : i < 10 ^ 9) : intText? (numT i) = some i := by
  have e : i = ((i.toNat : Nat) : Int) := by omega
  have := TL.int_num (n := i.toNat) (Nat.le_trans (TL.numL_len (k := 9) (by decide) (by omega)) (by decide))
  rw [← e] at this
  exact this
end My
namespace My
open PySem PySem.Spec PyProof.Rows L2
abbrev sReader : Stmt := top 13 /-Reader-/
abbrev sRInit : Stmt := inClass sReader 0 /-Reader.__init__-/
def rdF (at' : Int) (pv : Str) (pr er : Int) (lk ll le : Addr) : List (Str × V) := [(("place" : Str), .int at'), ("previous", .str pv), ("processing", .int pr), ("error", .int er), ("kinds", .ref lk), ("lines", .ref ll), ("entries", .ref le)]
structure RdC (K : PySem.W.Frag) (C : Addr) : Prop where
  cl : Cls K C
  n1 : NoAttr K C "place"
  n2 : NoAttr K C "previous"
  n3 : NoAttr K C "processing"
  n4 : NoAttr K C "error"
  n5 : NoAttr K C "kinds"
  n6 : NoAttr K C "lines"
  n7 : NoAttr K C "entries"
def rd1 : List (Str × V) := [(("place" : Str), .int 0)]
def rd2 : List (Str × V) := rd1 ++ [(("previous" : Str), .str "")]
def rd3 : List (Str × V) := rd2 ++ [(("processing" : Str), .int 0)]
def rd4 : List (Str × V) := rd3 ++ [(("error" : Str), .int 0)]
def rd5 (lk : Addr) : List (Str × V) := rd4 ++ [(("kinds" : Str), .ref lk)]
def rd6 (lk ll : Addr) : List (Str × V) := rd5 lk ++ [(("lines" : Str), .ref ll)]
theorem rp1 : putF "place" (.int 0) [] = rd1 := rfl
theorem rp2 : putF "previous" (.str "") rd1 = rd2 := rfl
theorem rp3 : putF "processing" (.int 0) rd2 = rd3 := rfl
theorem rp4 : putF "error" (.int 0) rd3 = rd4 := rfl
theorem rp5 {lk : Addr} : putF "kinds" (.ref lk) rd4 = rd5 lk := rfl
theorem rp6 {lk ll : Addr} : putF "lines" (.ref ll) (rd5 lk) = rd6 lk ll := rfl
theorem rp7 {lk ll le : Addr} : putF "entries" (.ref le) (rd6 lk ll) = rdF 0 "" 0 0 lk ll le := rfl
section
variable {P : Program} {w : World} {K : PySem.W.Frag} {mg : Str → Option Value} {base : Heap}
theorem scRInit : FnScope ["self"] ["self"] (defScope sRInit) := ⟨rfl, rfl, rfl, by decide +kernel, rfl, by decide +kernel, by decide +kernel⟩
def spRInit (K : PySem.W.Frag) (C : Addr) : Sp := fun vs H Q _ => ∃ (p dx : Addr), vs = [.ref p] ∧ H p = some (.ins C dx []) ∧
  ∀ (H' : Hp) (lk ll le : Addr), But p H H' → H lk = none → H ll = none → H le = none → lk ≠ ll → lk ≠ le → ll ≠ le → H' p = some (.ins C dx (rdF 0 "" 0 0 lk ll le)) → H' lk = some (.lst []) → H' ll = some (.lst []) → H' le = some (.lst []) → Q .non H'
theorem ok_rinit {f C : Addr} {fd : FuncData} {k : Nat} (F : Fun K "__init__" "Reader.__init__" sRInit f fd) (c : RdC K C) : FnOk P w K mg base CX0 (k + 1) f fd ["self"] (spRInit K C) := by
  refine F.ok scRInit (fun vs H Q E h => ?_) (fun cdv A0 outer s0 H vs Q E hr h => ?_)
  · obtain ⟨p, dx, rfl, _⟩ := h
    rfl
  · obtain ⟨p, dx, rfl, hp, q⟩ := h
    have nd := scRInit.nd
    refine ⟨_, PSs.nox (pss_cons (ps_fld (pv 0) pe_int rfl) <| pss_cons (ps_fld (pv 0) pe_str rfl) <| pss_cons (ps_fld (pv 0) pe_int rfl) <| pss_cons (ps_fld (pv 0) pe_int rfl) <| pss_cons (ps_fld (pv 0) (pe_lst pa_nil) rfl) <| pss_cons (ps_fld (pv 0) (pe_lst pa_nil) rfl) <| pss_one (ps_fld (pv 0) (pe_lst pa_nil) rfl)), ?_⟩
    refine ⟨_, rfl, p, C, dx, [], rfl, hp, c.cl, c.n1, (by show 0 < 1000; decide), ?_⟩
    rw [rp1]
    refine ⟨_, rfl, p, C, dx, _, rfl, upd_same, c.cl, c.n2, (by show 1 < 1000; decide), ?_⟩
    rw [rp2]
    refine ⟨_, rfl, p, C, dx, _, rfl, upd_same, c.cl, c.n3, (by show 2 < 1000; decide), ?_⟩
    rw [rp3]
    refine ⟨_, rfl, p, C, dx, _, rfl, upd_same, c.cl, c.n4, (by show 3 < 1000; decide), ?_⟩
    rw [rp4]
    have kb1 : But p H (upd (upd (upd (upd H p (.ins C dx rd1)) p (.ins C dx rd2)) p (.ins C dx rd3)) p (.ins C dx rd4)) := fun b o e n => by
      rw [upd_ne n, upd_ne n, upd_ne n, upd_ne n]
      exact e
    have hp1 := upd_same (H := upd (upd (upd H p (.ins C dx rd1)) p (.ins C dx rd2)) p (.ins C dx rd3)) (a := p) (o := .ins C dx rd4)
    generalize upd (upd (upd (upd H p (.ins C dx rd1)) p (.ins C dx rd2)) p (.ins C dx rd3)) p (.ins C dx rd4) = H1 at kb1 hp1 ⊢
    have ins : ∀ {G : Hp} {fs : List (Str × V)} {a : Addr}, G p = some (.ins C dx fs) → G a = none → a ≠ p := fun e n y => by
      rw [y, e] at n
      cases n
    have old : ∀ {G : Hp} {a : Addr}, But p H G → a ≠ p → G a = none → H a = none := fun {G a} kb ne n => by
      cases z : H a with
      | none => rfl
      | some o =>
        have := kb _ _ z ne
        rw [n] at this
        cases this
    refine ⟨Nat.zero_le _, fun lk nk => ?_⟩
    have s2 := same_new (o := .lst []) nk
    have hk := upd_same (H := H1) (a := lk) (o := .lst [])
    have ek := ins hp1 nk
    have nkH := old kb1 ek nk
    generalize upd H1 lk (.lst []) = H2 at s2 hk ⊢
    refine ⟨_, rfl, p, C, dx, _, rfl, s2 _ _ hp1, c.cl, c.n5, (by show 4 < 1000; decide), ?_⟩
    rw [rp5]
    have kb3 : But p H (upd H2 p (.ins C dx (rd5 lk))) := fun b o e n => by
      rw [upd_ne n]
      exact s2 _ _ (kb1 b o e n)
    have hk3 : (upd H2 p (.ins C dx (rd5 lk))) lk = some (.lst []) := by rw [upd_ne ek]; exact hk
    have hp3 := upd_same (H := H2) (a := p) (o := .ins C dx (rd5 lk))
    generalize upd H2 p (.ins C dx (rd5 lk)) = H3 at kb3 hk3 hp3 ⊢
    refine ⟨Nat.zero_le _, fun ll nl => ?_⟩
    have s4 := same_new (o := .lst []) nl
    have hl := upd_same (H := H3) (a := ll) (o := .lst [])
    have el := ins hp3 nl
    have nlH := old kb3 el nl
    generalize upd H3 ll (.lst []) = H4 at s4 hl ⊢
    refine ⟨_, rfl, p, C, dx, _, rfl, s4 _ _ hp3, c.cl, c.n6, (by show 5 < 1000; decide), ?_⟩
    rw [rp6]
    have kb5 : But p H (upd H4 p (.ins C dx (rd6 lk ll))) := fun b o e n => by
      rw [upd_ne n]
      exact s4 _ _ (kb3 b o e n)
    have hk5 : (upd H4 p (.ins C dx (rd6 lk ll))) lk = some (.lst []) := by rw [upd_ne ek]; exact s4 _ _ hk3
    have hl5 : (upd H4 p (.ins C dx (rd6 lk ll))) ll = some (.lst []) := by rw [upd_ne el]; exact hl
    have hp5 := upd_same (H := H4) (a := p) (o := .ins C dx (rd6 lk ll))
    generalize upd H4 p (.ins C dx (rd6 lk ll)) = H5 at kb5 hk5 hl5 hp5 ⊢
    refine ⟨Nat.zero_le _, fun le ne => ?_⟩
    have s6 := same_new (o := .lst []) ne
    have he := upd_same (H := H5) (a := le) (o := .lst [])
    have ee := ins hp5 ne
    have neH := old kb5 ee ne
    generalize upd H5 le (.lst []) = H6 at s6 he ⊢
    refine ⟨_, rfl, p, C, dx, _, rfl, s6 _ _ hp5, c.cl, c.n7, (by show 6 < 1000; decide), ?_⟩
    rw [rp7]
    refine q _ lk ll le (fun b o e n => by rw [upd_ne n]; exact s6 _ _ (kb5 b o e n)) nkH nlH neH (ne_of_none hk3 nl) (ne_of_none hk5 ne) (ne_of_none hl5 ne) upd_same (by rw [upd_ne ek]; exact s6 _ _ hk5) (by rw [upd_ne el]; exact s6 _ _ hl5) (by rw [upd_ne ee]; exact he)
end
end My
/-! What is written, split again. No row, no def of the program. -/
namespace My
open PySem PySem.Spec PyProof.Rows L2
theorem joinL_end (S : List Nat) : ∀ ls : List (List Nat), TL.joinL S (ls ++ [[]]) = (ls.map fun l => l ++ S).flatten
  | [] => rfl
  | [p] => by
    show p ++ (S ++ []) = (p ++ S) ++ []
    rw [List.append_nil, List.append_nil]
  | p :: q :: r => by
    show p ++ (S ++ TL.joinL S (q :: r ++ [[]])) = (p ++ S) ++ ((q :: r).map fun l => l ++ S).flatten
    rw [joinL_end S (q :: r), List.append_assoc]
theorem glue_join (R : List Str) : glueT R = Txt.join ("\n" : Str) (R ++ [Str.empty]) := TL.ext_tl (by
  rw [tl_glue, TL.join_eq, TL.tl_join, List.map_append]
  show _ = TL.joinL (TL.tl ("\n" : Str)) (R.map TL.tl ++ [[]])
  rw [joinL_end, List.map_map]
  rfl)
/-- a text of whole lines, split at its line feeds -/
theorem split_glue {R : List Str} (h : ∀ r ∈ R, 10 ∉ TL.tl r) : Txt.split (glueT R) ("\n" : Str) = R ++ [Str.empty] := by
  rw [glue_join]
  refine TL.split_join (s := 10) (S := []) (by decide +kernel) (by decide +kernel) (by simp) fun p hp => ?_
  rcases List.mem_append.mp hp with z | z
  · exact h p z
  · rw [List.mem_singleton.mp z]
    exact List.not_mem_nil
theorem num_free {i : Int} {s : Nat} (h0 : 0 ≤ i) (hs : s < 48 ∨ 57 < s) : s ∉ TL.tl (numT i) := by
  rw [numT_tl h0]
  exact TL.numL_free hs
/-- words with a blank between two of them, split at the blanks -/
theorem split_words {ws : List Str} (ne : ws ≠ []) (h : ∀ p ∈ ws, 32 ∉ TL.tl p) : Txt.split (Txt.join (" " : Str) ws) (" " : Str) = ws := TL.split_join (s := 32) (S := []) (by decide +kernel) (by decide +kernel) ne h
theorem net_words (a b : Str) : jsT ["net ", a, " ", b] = Txt.join (" " : Str) [("net" : Str), a, b] := TL.ext_tl (by
  rw [TL.join_eq, TL.tl_join, tl_js]
  have e : TL.tl ("net " : Str) = TL.tl ("net" : Str) ++ TL.tl (" " : Str) := by decide +kernel
  simp only [List.map_cons, List.map_nil, List.flatten_cons, List.flatten_nil, List.append_assoc, List.append_nil, TL.joinL, e])
theorem line_words (a b d : Str) : jsT ["line ", a, " ", b, " ", d] = Txt.join (" " : Str) [("line" : Str), a, b, d] := TL.ext_tl (by
  rw [TL.join_eq, TL.tl_join, tl_js]
  have e : TL.tl ("line " : Str) = TL.tl ("line" : Str) ++ TL.tl (" " : Str) := by decide +kernel
  simp only [List.map_cons, List.map_nil, List.flatten_cons, List.flatten_nil, List.append_assoc, List.append_nil, TL.joinL, e])
theorem ent_words (a b d x y : Str) : jsT ["stream ", jsT [a, " ", b, " ", d], " ", x, " ", y] = Txt.join (" " : Str) [("stream" : Str), a, b, d, x, y] := TL.ext_tl (by
  rw [TL.join_eq, TL.tl_join, tl_js]
  have e : TL.tl ("stream " : Str) = TL.tl ("stream" : Str) ++ TL.tl (" " : Str) := by decide +kernel
  simp only [tl_js, List.map_cons, List.map_nil, List.flatten_cons, List.flatten_nil, List.append_assoc, List.append_nil, TL.joinL, e])
/-- numbers with commas, split at the commas -/
theorem split_comma {ns : List Int} (ne : ns ≠ []) (h : ∀ n ∈ ns, 0 ≤ n) : Txt.split (commaT ns) ("," : Str) = ns.map numT := TL.split_join (s := 44) (S := []) (by decide +kernel) (by decide +kernel) (fun z => ne (List.map_eq_nil_iff.mp z)) fun p hp => by
  obtain ⟨n, hn, rfl⟩ := List.mem_map.mp hp
  exact num_free (h n hn) (by omega)
theorem joinL_free {s : Nat} {S : List Nat} (hS : s ∉ S) : ∀ {ls : List (List Nat)}, (∀ l ∈ ls, s ∉ l) → s ∉ TL.joinL S ls
  | [], _ => List.not_mem_nil
  | [p], h => h p List.mem_cons_self
  | p :: q :: r, h => by
    show s ∉ p ++ (S ++ TL.joinL S (q :: r))
    intro z
    rcases List.mem_append.mp z with z | z
    · exact h p List.mem_cons_self z
    · rcases List.mem_append.mp z with z | z
      · exact hS z
      · exact joinL_free hS (fun l hl => h l (List.mem_cons_of_mem _ hl)) z
theorem comma_free {ns : List Int} {s : Nat} (h : ∀ n ∈ ns, 0 ≤ n) (hs : s < 48 ∨ 57 < s) (h44 : s ≠ 44) : s ∉ TL.tl (commaT ns) := by
  unfold commaT
  rw [TL.join_eq, TL.tl_join, show TL.tl ("," : Str) = [44] by decide +kernel]
  refine joinL_free (fun z => h44 (List.mem_singleton.mp z)) fun l hl => ?_
  rw [List.map_map] at hl
  obtain ⟨n, hn, rfl⟩ := List.mem_map.mp hl
  exact num_free (h n hn) hs
theorem js_free {s : Nat} {ps : List Str} (h : ∀ p ∈ ps, s ∉ TL.tl p) : s ∉ TL.tl (jsT ps) := by
  rw [tl_js]
  intro z
  obtain ⟨l, hl, z⟩ := List.mem_flatten.mp z
  obtain ⟨p, hp, rfl⟩ := List.mem_map.mp hl
  exact h p hp z
/-- no row has a line feed -/
theorem rows_free {N : NetD} {es : List EntD} (pr : 0 ≤ N.pr) (er : 0 ≤ N.er) (lb : ∀ l ∈ N.ls, 0 ≤ l.2.2) (eb : ∀ e ∈ es, 0 ≤ e.s.pe ∧ 0 ≤ e.s.ln ∧ 0 ≤ e.s.dl ∧ ∀ n ∈ e.os, 0 ≤ n) : ∀ r ∈ rowsT N es, 10 ∉ TL.tl r := fun r hr => by
  have nf : ∀ {i : Int}, 0 ≤ i → 10 ∉ TL.tl (numT i) := fun h => num_free h (.inl (by decide))
  have a1 : 10 ∉ TL.tl (" " : Str) := by decide +kernel
  have a2 : 10 ∉ TL.tl ("net " : Str) := by decide +kernel
  have a3 : 10 ∉ TL.tl ("line " : Str) := by decide +kernel
  have a4 : 10 ∉ TL.tl ("stream " : Str) := by decide +kernel
  have mem : ∀ {p : Str → Prop} {a : Str} {r : List Str}, p a → (∀ x ∈ r, p x) → ∀ x ∈ a :: r, p x := fun h g x hx => by
    rcases List.mem_cons.mp hx with z | z
    · rw [z]; exact h
    · exact g x z
  have none' : ∀ {p : Str → Prop}, ∀ x ∈ ([] : List Str), p x := fun x hx => absurd hx List.not_mem_nil
  rcases List.mem_append.mp hr with hr | hr
  · rcases List.mem_append.mp hr with hr | hr
    · rcases List.mem_append.mp hr with hr | hr
      · rw [List.mem_singleton.mp hr]
        exact js_free (mem a2 (mem (nf pr) (mem a1 (mem (nf er) none'))))
      · obtain ⟨b, _, rfl⟩ := List.mem_map.mp hr
        cases b <;> decide +kernel
    · obtain ⟨u, hu, rfl⟩ := List.mem_map.mp hr
      exact js_free (mem a3 (mem (nf (by omega)) (mem a1 (mem (nf (by omega)) (mem a1 (mem (nf (lb u hu)) none'))))))
  · obtain ⟨e, he, rfl⟩ := List.mem_map.mp hr
    obtain ⟨e1, e2, e3, e4⟩ := eb e he
    have w : 10 ∉ TL.tl (wdT e.s) := js_free (mem (nf e1) (mem a1 (mem (nf e2) (mem a1 (mem (nf e3) none')))))
    have c1 : 10 ∉ TL.tl (commaT (e.s.path.map fun (n : Nat) => (n : Int))) := comma_free (fun n hn => by
      obtain ⟨m, _, rfl⟩ := List.mem_map.mp hn
      omega) (.inl (by decide)) (by decide)
    have c2 : 10 ∉ TL.tl (commaT e.os) := comma_free e4 (.inl (by decide)) (by decide)
    exact js_free (mem a4 (mem w (mem a1 (mem c1 (mem a1 (mem c2 none'))))))
end My
/-! Words that are numbers; texts split at one sign. No row, no def of the program. -/
namespace My
open PySem PySem.Spec PyProof.Rows L2
/-- only signs of ASCII -/
def Asc (y : Str) : Prop := ∀ c ∈ TL.tl y, c < 128
theorem dig_only : ∀ c : Nat, c < 128 → Unicode.isDigit c = true → 48 ≤ c ∧ c ≤ 57 := by decide +kernel
theorem digs_num : ∀ (n : Nat) (l : List Nat), l.length = n → l ≠ [] → (∀ c ∈ l, 48 ≤ c ∧ c ≤ 57) → l.headD 0 ≠ 48 → ∃ m, 0 < m ∧ m < 10 ^ n ∧ TL.numL m = l := by
  intro n
  induction n with
  | zero =>
    intro l h ne
    exact absurd (List.length_eq_zero_iff.mp h) ne
  | succ n ih =>
    intro l h ne hd h0
    obtain ⟨m, c, rfl⟩ : ∃ m c, l = m ++ [c] := ⟨l.dropLast, l.getLast ne, (List.dropLast_concat_getLast ne).symm⟩
    rw [List.length_append, List.length_singleton] at h
    have hc := hd c (List.mem_append_right _ (List.mem_singleton.mpr rfl))
    cases m with
    | nil =>
      have hn : n = 0 := by simpa using h.symm
      subst hn
      have h0 : c ≠ 48 := h0
      refine ⟨c - 48, by omega, by omega, ?_⟩
      rw [TL.numL_lt (by omega), show 48 + (c - 48) = c by omega]
      rfl
    | cons a r =>
      obtain ⟨k, k0, k1, ek⟩ := ih (a :: r) (by omega) (by simp) (fun x hx => hd x (List.mem_append_left _ hx)) h0
      refine ⟨10 * k + (c - 48), by omega, by rw [Nat.pow_succ]; omega, ?_⟩
      rw [TL.numL_step (by omega), show (10 * k + (c - 48)) / 10 = k by omega, show (10 * k + (c - 48)) % 10 = c - 48 by omega, ek, show 48 + (c - 48) = c by omega]
/-- a word of ASCII that is a number is what is written for one -/
theorem isnum_ascii {w : Str} (ha : Asc w) (h : isNumT w = true) : ∃ i : Int, 0 ≤ i ∧ i < 10 ^ 9 ∧ w = numT i := by
  unfold isNumT at h
  rw [Bool.or_eq_true, decide_eq_true_eq, Bool.and_eq_true, Bool.and_eq_true, Bool.not_eq_true', decide_eq_false_iff_not, decide_eq_true_eq] at h
  rcases h with h | ⟨hd, h0, hl⟩
  · exact ⟨0, by decide, by decide, by rw [h]; decide +kernel⟩
  · unfold Txt.isdigit at hd
    rw [Bool.and_eq_true, decide_eq_true_eq, Array.all_eq_true'] at hd
    obtain ⟨lp, hd⟩ := hd
    have hd : ∀ c ∈ TL.tl w, 48 ≤ c ∧ c ≤ 57 := fun c hc => dig_only c (ha c hc) (hd c (Array.mem_toList_iff.mp hc))
    have ne : TL.tl w ≠ [] := fun z => by
      rw [TL.len_tl, z] at lp
      exact absurd lp (by decide)
    have h48 : (TL.tl w).headD 0 ≠ 48 := fun z => h0 (TL.ext_tl (by
      show [(TL.tl w).headD 0] = TL.tl ("0" : Str)
      rw [z]
      decide +kernel))
    obtain ⟨m, _, m1, em⟩ := digs_num _ _ rfl ne hd h48
    have hl : (TL.tl w).length ≤ 9 := by
      rw [← TL.len_tl]
      omega
    have : m < 10 ^ 9 := Nat.lt_of_lt_of_le m1 (Nat.pow_le_pow_right (by decide) hl)
    refine ⟨(m : Int), by omega, by omega, TL.ext_tl ?_⟩
    rw [numT_tl (by omega), Int.toNat_natCast, em]
def numI (w : Str) : Int := (intText? w).getD 0
theorem numI_num {i : Int} (h0 : 0 ≤ i) (h1 : i < 10 ^ 9) : numI (numT i) = i := by
  unfold numI
  rw [int_numT h0 h1]
  rfl
/-- what int() says of such a word -/
theorem int_word {w : Str} (ha : Asc w) (h : isNumT w = true) : intText? w = some (numI w) ∧ 0 ≤ numI w ∧ numI w < 10 ^ 9 := by
  obtain ⟨i, h0, h1, rfl⟩ := isnum_ascii ha h
  rw [numI_num h0 h1]
  exact ⟨int_numT h0 h1, h0, h1⟩
def inB (p : Int × (Int × Int)) : Bool := decide (p.2.1 ≤ p.1) && decide (p.1 ≤ p.2.2)
/-- the words are numbers within the bounds -/
def numsOk (ws : List Str) (bs : List (Int × Int)) : Bool := (decide (ws.length = bs.length) && ws.all isNumT) && ((ws.map numI).zip bs).all inB
/-! ### split at one sign -/
theorem pre_one (s c : Nat) (r : List Nat) : TL.pre [s] (c :: r) = decide (c = s) := by
  unfold TL.pre
  show ([c] == [s]) = _
  by_cases h : c = s
  · rw [h]; simp
  · simp [h]
theorem spl_in {s : Nat} : ∀ (l acc : List Nat), ∀ p ∈ TL.spl [s] 0 acc l, (∀ c ∈ p, c ∈ acc ∨ c ∈ l) ∧ p.length ≤ acc.length + l.length
  | [], acc, p, h => by
    rw [TL.spl_nil] at h
    rw [List.mem_singleton.mp h]
    exact ⟨fun c hc => .inl hc, Nat.le_add_right ..⟩
  | c :: r, acc, p, h => by
    by_cases e : c = s
    · rw [TL.spl_hit (by rw [pre_one]; exact decide_eq_true e)] at h
      rcases List.mem_cons.mp h with h | h
      · rw [h]
        exact ⟨fun c hc => .inl hc, Nat.le_add_right ..⟩
      · obtain ⟨h1, h2⟩ := spl_in r [] p h
        refine ⟨fun x hx => ?_, by rw [List.length_nil] at h2; rw [List.length_cons]; omega⟩
        rcases h1 x hx with z | z
        · exact absurd z List.not_mem_nil
        · exact .inr (List.mem_cons_of_mem _ z)
    · rw [TL.spl_miss (by rw [pre_one]; exact decide_eq_false e)] at h
      obtain ⟨h1, h2⟩ := spl_in r (acc ++ [c]) p h
      refine ⟨fun x hx => ?_, by rw [List.length_append, List.length_singleton] at h2; rw [List.length_cons]; omega⟩
      rcases h1 x hx with z | z
      · rcases List.mem_append.mp z with z | z
        · exact .inl z
        · rw [List.mem_singleton.mp z]; exact .inr List.mem_cons_self
      · exact .inr (List.mem_cons_of_mem _ z)
theorem spl_cnt {s : Nat} : ∀ (l acc : List Nat), (TL.spl [s] 0 acc l).length ≤ l.length + 1 ∧ TL.spl [s] 0 acc l ≠ []
  | [], acc => by
    rw [TL.spl_nil]
    exact ⟨Nat.le_refl _, by simp⟩
  | c :: r, acc => by
    by_cases e : c = s
    · rw [TL.spl_hit (by rw [pre_one]; exact decide_eq_true e)]
      have := (spl_cnt (s := s) r []).1
      refine ⟨?_, by simp⟩
      rw [List.length_cons, List.length_cons]
      exact Nat.succ_le_succ this
    · rw [TL.spl_miss (by rw [pre_one]; exact decide_eq_false e)]
      have := spl_cnt (s := s) r (acc ++ [c])
      refine ⟨?_, this.2⟩
      rw [List.length_cons]
      omega
/-- the parts of a text split at one sign s -/
structure Cut1 (x : Str) (ps : List Str) : Prop where
  ne : ps ≠ []
  cnt : ps.length ≤ x.length + 1
  sub : ∀ p ∈ ps, (∀ c ∈ TL.tl p, c ∈ TL.tl x) ∧ p.length ≤ x.length
theorem split_cut {x y : Str} {s : Nat} (ey : TL.tl y = [s]) (hk : y.cps.all (· < 256) = true) : Cut1 x (Txt.split x y) := by
  have e := TL.split_spl x y (by rw [ey]; simp) (TL.kind_ok hk)
  rw [ey] at e
  have c := spl_cnt (s := s) (TL.tl x) []
  have el : (Txt.split x y).length = (TL.spl [s] 0 [] (TL.tl x)).length := by rw [← e, List.length_map]
  refine ⟨fun z => c.2 (by rw [← e, z]; rfl), by rw [el, TL.len_tl]; exact c.1, fun p hp => ?_⟩
  obtain ⟨h1, h2⟩ := spl_in (s := s) (TL.tl x) [] (TL.tl p) (by rw [← e]; exact List.mem_map.mpr ⟨p, hp, rfl⟩)
  refine ⟨fun c hc => (h1 c hc).elim (fun z => absurd z List.not_mem_nil) id, ?_⟩
  rw [TL.len_tl, TL.len_tl]
  rw [List.length_nil] at h2
  omega
theorem cut_sp (x : Str) : Cut1 x (Txt.split x (" " : Str)) := split_cut (s := 32) (by decide +kernel) (by decide +kernel)
theorem cut_co (x : Str) : Cut1 x (Txt.split x ("," : Str)) := split_cut (s := 44) (by decide +kernel) (by decide +kernel)
theorem Cut1.asc {x : Str} {ps : List Str} (h : Cut1 x ps) (ha : Asc x) : ∀ p ∈ ps, Asc p := fun p hp c hc => ha c ((h.sub p hp).1 c hc)
end My
/-! The reader as data. No row. -/
namespace My
open PySem PySem.Spec PyProof.Rows L2
structure RdD where
  pl : Nat
  pv : Str
  N : NetD
  es : List EntD
/-- the kinds behind which a kind of lines may stand -/
def befores (k : Str) : Option (List Str) :=
  if k = ("net" : Str) then some [("" : Str)] else if k = ("host" : Str) then some [("net" : Str), "host", "switch"] else if k = ("switch" : Str) then some [("net" : Str), "host", "switch"]
  else if k = ("line" : Str) then some [("host" : Str), "switch", "line"] else if k = ("stream" : Str) then some [("host" : Str), "switch", "line", "stream"] else none
def okPlace (k pv : Str) : Bool := match befores k with
  | none => false
  | some l => l.contains pv
def nodeB (N : NetD) : Int × Int := (0, (N.ks.length : Int) - 1)
def wd (ws : List Str) (i : Nat) : Str := ws.getD i Str.empty
def nat (w : Str) : Nat := (numI w).toNat
/-- the line's numbers set; a line; an entry -/
def lnOf (ws : List Str) : Nat × Nat × Int := (nat (wd ws 1), nat (wd ws 2), numI (wd ws 3))
def entOf (ws : List Str) : EntD := ⟨⟨numI (wd ws 1), numI (wd ws 2), numI (wd ws 3), (Txt.split (wd ws 4) ("," : Str)).map nat⟩, (Txt.split (wd ws 5) ("," : Str)).map numI⟩
def lineOk (S : RdD) (ws : List Str) : Prop := numsOk (ws.drop 1) [nodeB S.N, nodeB S.N, (0, 20)] = true ∧ (lnOf ws).1 ≠ (lnOf ws).2.1 ∧ joined S.N (lnOf ws).1 (lnOf ws).2.1 = none
def strOk (S : RdD) (ws : List Str) : Prop := ws.length = 6 ∧ numsOk ((ws.drop 1).take 3) [(1, 60), (1, 60), (1, 300)] = true ∧ (entOf ws).s.ln ≤ (entOf ws).s.pe ∧
  numsOk (Txt.split (wd ws 4) ("," : Str)) (List.replicate (Txt.split (wd ws 4) ("," : Str)).length (nodeB S.N)) = true ∧ IsP S.N (entOf ws).s.path ∧
  numsOk (Txt.split (wd ws 5) ("," : Str)) (List.replicate ((entOf ws).s.path.length - 1) (0, 500)) = true
/-- a line is read: what stands before and behind -/
inductive Reads (S : RdD) (l : Str) : RdD → Prop
  | net (h : okPlace (wd (Txt.split l (" " : Str)) 0) S.pv = true) (k : wd (Txt.split l (" " : Str)) 0 = ("net" : Str)) (o : numsOk ((Txt.split l (" " : Str)).drop 1) [(0, 10), (0, 5)] = true) :
      Reads S l ⟨S.pl + 1, "net", ⟨S.N.ks, S.N.ls, numI (wd (Txt.split l (" " : Str)) 1), numI (wd (Txt.split l (" " : Str)) 2)⟩, S.es⟩
  | line (h : okPlace (wd (Txt.split l (" " : Str)) 0) S.pv = true) (k : wd (Txt.split l (" " : Str)) 0 = ("line" : Str)) (o : lineOk S (Txt.split l (" " : Str))) :
      Reads S l ⟨S.pl + 1, "line", ⟨S.N.ks, S.N.ls ++ [lnOf (Txt.split l (" " : Str))], S.N.pr, S.N.er⟩, S.es⟩
  | stream (h : okPlace (wd (Txt.split l (" " : Str)) 0) S.pv = true) (k : wd (Txt.split l (" " : Str)) 0 = ("stream" : Str)) (o : strOk S (Txt.split l (" " : Str))) :
      Reads S l ⟨S.pl + 1, "stream", S.N, S.es ++ [entOf (Txt.split l (" " : Str))]⟩
  | node (b : Bool) (h : okPlace (wd (Txt.split l (" " : Str)) 0) S.pv = true) (k : wd (Txt.split l (" " : Str)) 0 = kdT b) (o1 : (Txt.split l (" " : Str)).length = 1) (o2 : S.N.ks.length < 12) :
      Reads S l ⟨S.pl + 1, kdT b, ⟨S.N.ks ++ [b], S.N.ls, S.N.pr, S.N.er⟩, S.es⟩
/-- all lines are read, or the first wrong one is told -/
inductive ReadsAll : RdD → List Str → (RdD ⊕ Nat) → Prop
  | done (S : RdD) : ReadsAll S [] (.inl S)
  | bad {S : RdD} {l : Str} {r : List Str} (h : ∀ S', ¬ Reads S l S') : ReadsAll S (l :: r) (.inr S.pl)
  | step {S S' : RdD} {l : Str} {r : List Str} {e : RdD ⊕ Nat} (h : Reads S l S') (t : ReadsAll S' r e) : ReadsAll S (l :: r) e
def S0 : RdD := ⟨0, "", ⟨[], [], 0, 0⟩, []⟩
/-- a whole text: its lines, what stands behind the last line feed -/
inductive ReadsText (rows : List Str) (last : Str) : (RdD ⊕ Nat) → Prop
  | bad {n : Nat} (h : ReadsAll S0 rows (.inr n)) : ReadsText rows last (.inr n)
  | good {S : RdD} (h : ReadsAll S0 rows (.inl S)) (e : last = ("" : Str)) (k : S.N.ks ≠ []) : ReadsText rows last (.inl S)
  | short {S : RdD} (h : ReadsAll S0 rows (.inl S)) (e : ¬ (last = ("" : Str) ∧ S.N.ks ≠ [])) : ReadsText rows last (.inr S.pl)
theorem kd_ne (b : Bool) : kdT b ≠ ("net" : Str) ∧ kdT b ≠ ("line" : Str) ∧ kdT b ≠ ("stream" : Str) := by cases b <;> decide +kernel
theorem kd_inj {a b : Bool} (h : kdT a = kdT b) : a = b := by
  cases a <;> cases b <;> first | rfl | exact absurd h (by decide +kernel)
theorem nl_ne : ("net" : Str) ≠ ("line" : Str) := by decide +kernel
theorem ns_ne : ("net" : Str) ≠ ("stream" : Str) := by decide +kernel
theorem ls_ne : ("line" : Str) ≠ ("stream" : Str) := by decide +kernel
theorem Reads.det {S : RdD} {l : Str} {A B : RdD} (h1 : Reads S l A) (h2 : Reads S l B) : A = B := by
  cases h1 with
  | net h k o => cases h2 with
    | net => rfl
    | line h' k' => exact absurd (k.symm.trans k') nl_ne
    | stream h' k' => exact absurd (k.symm.trans k') ns_ne
    | node b h' k' => exact absurd (k'.symm.trans k) (kd_ne b).1
  | line h k o => cases h2 with
    | net h' k' => exact absurd (k'.symm.trans k) nl_ne
    | line => rfl
    | stream h' k' => exact absurd (k.symm.trans k') ls_ne
    | node b h' k' => exact absurd (k'.symm.trans k) (kd_ne b).2.1
  | stream h k o => cases h2 with
    | net h' k' => exact absurd (k'.symm.trans k) ns_ne
    | line h' k' => exact absurd (k'.symm.trans k) ls_ne
    | stream => rfl
    | node b h' k' => exact absurd (k'.symm.trans k) (kd_ne b).2.2
  | node b h k o1 o2 => cases h2 with
    | net h' k' => exact absurd (k.symm.trans k') (kd_ne b).1
    | line h' k' => exact absurd (k.symm.trans k') (kd_ne b).2.1
    | stream h' k' => exact absurd (k.symm.trans k') (kd_ne b).2.2
    | node b' h' k' => rw [kd_inj (k.symm.trans k')]
theorem ReadsAll.det {S : RdD} {l : List Str} {a : RdD ⊕ Nat} (h1 : ReadsAll S l a) : ∀ {b : RdD ⊕ Nat}, ReadsAll S l b → a = b := by
  induction h1 with
  | done S => intro b h2; cases h2; rfl
  | bad h => intro b h2; cases h2 with
    | bad => rfl
    | step h' => exact absurd h' (h _)
  | step h t ih => intro b h2; cases h2 with
    | bad h' => exact absurd h (h' _)
    | step h' t' =>
      have := h.det h'
      subst this
      exact ih t'
theorem ReadsText.det {rows : List Str} {last : Str} {a b : RdD ⊕ Nat} (h1 : ReadsText rows last a) (h2 : ReadsText rows last b) : a = b := by
  cases h1 with
  | bad h => cases h2 with
    | bad h' => exact h.det h'
    | good h' => exact absurd (h.det h') (by simp)
    | short h' => exact absurd (h.det h') (by simp)
  | good h e k => cases h2 with
    | bad h' => exact absurd (h.det h') (by simp)
    | good h' => exact h.det h'
    | short h' e' =>
      have z := h.det h'
      cases z
      exact absurd ⟨e, k⟩ e'
  | short h e => cases h2 with
    | bad h' => exact absurd (h.det h') (by simp)
    | good h' e' k' =>
      have z := h.det h'
      cases z
      exact absurd ⟨e', k'⟩ e
    | short h' =>
      have z := h.det h'
      cases z
      rfl
/-- a further line behind those that are read -/
theorem ReadsAll.snoc {S A B : RdD} {r : List Str} {l : Str} (h : ReadsAll S r (.inl A)) (g : Reads A l B) : ReadsAll S (r ++ [l]) (.inl B) := by
  generalize he : (Sum.inl A : RdD ⊕ Nat) = e at h
  induction h with
  | done S => cases he; exact .step g (.done _)
  | bad => cases he
  | step h t ih => exact .step h (ih he)
theorem ReadsAll.stop {S A : RdD} {r : List Str} {l : Str} (h : ReadsAll S r (.inl A)) (g : ∀ B, ¬ Reads A l B) (q : List Str) : ReadsAll S (r ++ l :: q) (.inr A.pl) := by
  generalize he : (Sum.inl A : RdD ⊕ Nat) = e at h
  induction h with
  | done S => cases he; exact .bad g
  | bad => cases he
  | step h t ih => exact .step h (ih he)
end My
namespace My
open PySem PySem.Spec PyProof.Rows L2
/-- what a wrong line lets out: where XX is false, there is none -/
def Bad (XX : Bool) (CE : Addr) (n : Nat) (E : XK) : Prop := XX = true ∧ ∀ (H' : Hp) (d : Addr) (fs : List (Str × V)), H' d = some (.xd fs) → fs.lookup ("name" : Str) = some (.str "InvalidText") → fs.lookup ("place" : Str) = some (.int (n : Int)) → E (.ref CE) (some d) H'
theorem passE {X : Cx} {E : XK} (tk : Takes X (fun cls d _ H => E cls d H)) : Passes (L2.CX X.prog X.w) X E := passes_call tk fun _ _ _ _ h => h
/-- a method that may raise -/
structure MethX (P : Program) (w : World) (K : PySem.W.Frag) (mg : Str → Option Value) (base : Heap) (k : Nat) (ps : List Str) (sp : Sp) (f : Addr) (fd : FuncData) : Prop where
  ok : FnOk P w K mg base (L2.CX P w) k f fd ps sp
  b : Binds K fd ps []
/-- a def that may raise -/
structure CalleeX (P : Program) (w : World) (K : PySem.W.Frag) (mg : Str → Option Value) (base : Heap) (k : Nat) (x : Str) (ps : List Str) (sp : Sp) (f : Addr) (fd : FuncData) : Prop where
  ok : FnOk P w K mg base (L2.CX P w) k f fd ps sp
  mg : mg x = some (.ref f)
  kp : PySem.W.keepIn K (.ref f) = true
  b : Binds K fd ps []
/-- o.f as a target among others -/
def gAtt (K : PySem.W.Frag) (to : TE) (f : Str) : TG := fun v σ H Q => to σ H fun x H2 => ∃ a C dx fs, x = .ref a ∧ H2 a = some (.ins C dx fs) ∧ Cls K C ∧ NoAttr K C f ∧ fs.length < 1000 ∧ Q σ (upd H2 a (.ins C dx (putF f v fs)))
theorem pg_att {X : Cx} {o : Expr} {f : Str} {pos : Pos} {to : TE} (ho : PE X o to) : PG X (.Attribute o f pos) (gAtt X.K to f) := by
  refine ⟨fun pins s σ H v u Q I r h => PySem.W.kas_attr (thn (ho.run pins s σ H _ I h) fun ov s1 ⟨x, H1, I1, r1, a, C, dx, fs, ex, ea, c, n, l, q⟩ => ?_)⟩
  subst ex
  obtain rfl : ov = Value.ref a := r1
  exact setattr_ok I1 ea c n l r fun s2 I2 => ⟨σ, _, I2, q⟩
/-- a and b, where each may make new objects -/
theorem andS {σ : L2.St} {H : Hp} {Q : VK} {ta tb : TE} {a b : Bool} (ha : ∀ Q : VK, (∀ H', Same H H' → Q (.bl a) H') → ta σ H Q) (hb : a = true → ∀ H1, Same H H1 → ∀ Q : VK, (∀ H', Same H H' → Q (.bl b) H') → tb σ H1 Q) (h : ∀ H', Same H H' → Q (.bl (a && b)) H') : tAndV ta tb σ H Q := by
  refine ha _ fun H1 s1 => ⟨a, rfl, ?_⟩
  cases a with
  | true => exact hb rfl H1 s1 _ h
  | false => exact h H1 s1
theorem strs_at {ws : List Str} {i : Nat} {x : V} (h : (ws.map V.str)[i]? = some x) : ∃ y, ws[i]? = some y ∧ x = .str y := by
  rw [List.getElem?_map] at h
  cases e : ws[i]? with
  | none => rw [e] at h; cases h
  | some y => rw [e] at h; exact ⟨y, rfl, (Option.some.inj h).symm⟩
/-! ### all but some places -/
def hid (L : List Addr) (H : Hp) : Hp := fun a => if a ∈ L then none else H a
theorem hid_same {L : List Addr} {H : Hp} : Same (hid L H) H := fun b o e => by
  unfold hid at e
  split at e
  · cases e
  · exact e
theorem hid_out {L : List Addr} {H : Hp} {a : Addr} (n : a ∉ L) : hid L H a = H a := if_neg n
theorem hid_in {L : List Addr} {H : Hp} {a : Addr} (n : a ∈ L) : hid L H a = none := if_pos n
theorem hid_keep {L : List Addr} {H H' : Hp} (h : Same (hid L H) H') : Same (hid L H) (hid L H') := fun b o e => by
  by_cases n : b ∈ L
  · rw [hid_in n] at e; cases e
  · rw [hid_out n]; exact h b o e
theorem hid_of {L : List Addr} {H H' : Hp} (h : Same H H') : Same (hid L H) H' := fun b o e => h b o (hid_same b o e)
theorem hid_upd {L : List Addr} {H H' : Hp} {a : Addr} {o : HO} (h : Same (hid L H) H') (n : a ∈ L) : Same (hid L H) (upd H' a o) := fun b x e => by
  have : b ≠ a := fun z => by rw [z, hid_in n] at e; cases e
  rw [upd_ne this]
  exact h b x e
theorem hid_refl {L : List Addr} {H : Hp} : Same (hid L H) H := hid_same
theorem hid_trans {L : List Addr} {H H1 H2 : Hp} (h : Same (hid L H) H1) (g : Same (hid L H1) H2) : Same (hid L H) H2 := (hid_keep h).trans g
theorem four {ws : List Str} (h : ws.length = 4) : ∃ a b c d, ws = [a, b, c, d] := match ws, h with | [a, b, c, d], _ => ⟨a, b, c, d, rfl⟩
theorem three {ws : List Str} (h : ws.length = 3) : ∃ a b c, ws = [a, b, c] := match ws, h with | [a, b, c], _ => ⟨a, b, c, rfl⟩
theorem six {ws : List Str} (h : ws.length = 6) : ∃ a b c d e f, ws = [a, b, c, d, e, f] := match ws, h with | [a, b, c, d, e, f], _ => ⟨a, b, c, d, e, f, rfl⟩
theorem inB_iff {m lo hi : Int} : inB (m, (lo, hi)) = true ↔ lo ≤ m ∧ m ≤ hi := by
  unfold inB
  rw [Bool.and_eq_true, decide_eq_true_eq, decide_eq_true_eq]
theorem nums_len {ws : List Str} {bs : List (Int × Int)} (h : numsOk ws bs = true) : ws.length = bs.length := by
  unfold numsOk at h
  rw [Bool.and_eq_true, Bool.and_eq_true, decide_eq_true_eq] at h
  exact h.1.1
theorem nums_in {ws : List Str} {bs : List (Int × Int)} (h : numsOk ws bs = true) {i : Nat} {y : Str} {b : Int × Int} (hy : ws[i]? = some y) (hb : bs[i]? = some b) : b.1 ≤ numI y ∧ numI y ≤ b.2 := by
  unfold numsOk at h
  rw [Bool.and_eq_true, List.all_eq_true] at h
  have ez : ((ws.map numI).zip bs)[i]? = some (numI y, b) := List.getElem?_zip_eq_some.mpr ⟨by rw [List.getElem?_map, hy]; rfl, hb⟩
  exact inB_iff.mp (h.2 _ (List.mem_of_getElem? ez))
theorem nums_num {ws : List Str} {bs : List (Int × Int)} (h : numsOk ws bs = true) {y : Str} (hy : y ∈ ws) : isNumT y = true := by
  unfold numsOk at h
  rw [Bool.and_eq_true, Bool.and_eq_true, List.all_eq_true] at h
  exact h.1.2 y hy
theorem nat_num {y : Str} (h : 0 ≤ numI y) : numI y = ((nat y : Nat) : Int) := by
  unfold nat
  omega
/-- an entry: a tuple, a list -/
def EntR (C2 : Addr) (H : Hp) (t : Addr) (e : EntD) : Prop := ∃ u lo, H t = some (.tup [.ref u, .ref lo]) ∧ StreamAt C2 H u e.s ∧ H lo = some (.lst (e.os.map V.int))
theorem EntR.same {C2 : Addr} {H H' : Hp} {t : Addr} {e : EntD} (h : EntR C2 H t e) (s : Same H H') : EntR C2 H' t e := by
  obtain ⟨u, lo, h1, h2, h3⟩ := h
  exact ⟨u, lo, s _ _ h1, h2.same s, s _ _ h3⟩
theorem EntR.at {K : PySem.W.Frag} {C2 : Addr} {H : Hp} {t : Addr} {e : EntD} (h : EntR C2 H t e) : EntAt K C2 H t e := by
  obtain ⟨u, lo, h1, h2, h3⟩ := h
  exact ⟨u, lo, SqT.of h1, h2, SqL.of h3⟩
abbrev EntsR (C2 : Addr) (H : Hp) (ts : List Addr) (es : List EntD) : Prop := Paired (fun (t : Addr) (e : EntD) => EntR C2 H t e) ts es
theorem EntsR.same {C2 : Addr} {H H' : Hp} {ts : List Addr} {es : List EntD} (h : EntsR C2 H ts es) (s : Same H H') : EntsR C2 H' ts es := Paired.imp h fun _ _ q => q.same s
theorem EntsR.at {K : PySem.W.Frag} {C2 : Addr} {H : Hp} {ts : List Addr} {es : List EntD} (h : EntsR C2 H ts es) : EntsAt K C2 H ts es := Paired.imp h fun _ _ q => q.at
/-! ### the reader in the heap -/
structure RdAt (K : PySem.W.Frag) (C C2 : Addr) (H : Hp) (p dx lk ll le : Addr) (S : RdD) : Prop where
  at_ : H p = some (.ins C dx (rdF (S.pl : Int) S.pv S.N.pr S.N.er lk ll le))
  ks : H lk = some (.lst (S.N.ks.map kindV))
  ls : ∃ ts : List Addr, H ll = some (.lst (ts.map V.ref)) ∧ LinesAt K (hid [p, lk, ll, le] H) ts S.N.ls
  es : ∃ us : List Addr, H le = some (.lst (us.map V.ref)) ∧ EntsR C2 (hid [p, lk, ll, le] H) us S.es
  n1 : lk ≠ ll
  n2 : lk ≠ le
  n3 : ll ≠ le
/-- what stays small -/
structure RdW (S : RdD) : Prop where
  dist : Dist S.N.ls
  pl : S.pl ≤ 1000
  ls : S.N.ls.length ≤ S.pl
  es : S.es.length ≤ S.pl
  ks : S.N.ks.length ≤ 12
theorem RdAt.same {K : PySem.W.Frag} {C C2 : Addr} {H H' : Hp} {p dx lk ll le : Addr} {S : RdD} (h : RdAt K C C2 H p dx lk ll le S) (e : Same H H') : RdAt K C C2 H' p dx lk ll le S := by
  obtain ⟨h1, h2, ⟨ts, h3, h4⟩, ⟨us, h5, h6⟩, n1, n2, n3⟩ := h
  exact ⟨e _ _ h1, e _ _ h2, ⟨ts, e _ _ h3, h4.same (hid_keep (hid_of e))⟩, ⟨us, e _ _ h5, h6.same (hid_keep (hid_of e))⟩, n1, n2, n3⟩
section
variable {at' : Int} {pv : Str} {pr er : Int} {lk ll le : Addr}
theorem rg1 : (rdF at' pv pr er lk ll le).lookup ("place" : Str) = some (.int at') := rfl
theorem rg2 : (rdF at' pv pr er lk ll le).lookup ("previous" : Str) = some (.str pv) := rfl
theorem rg3 : (rdF at' pv pr er lk ll le).lookup ("processing" : Str) = some (.int pr) := rfl
theorem rg4 : (rdF at' pv pr er lk ll le).lookup ("error" : Str) = some (.int er) := rfl
theorem rg5 : (rdF at' pv pr er lk ll le).lookup ("kinds" : Str) = some (.ref lk) := rfl
theorem rg6 : (rdF at' pv pr er lk ll le).lookup ("lines" : Str) = some (.ref ll) := rfl
theorem rg7 : (rdF at' pv pr er lk ll le).lookup ("entries" : Str) = some (.ref le) := rfl
theorem rm1 : (rdF at' pv pr er lk ll le).lookup ("check" : Str) = none := rfl
theorem rm2 : (rdF at' pv pr er lk ll le).lookup ("read_line" : Str) = none := rfl
theorem rm3 : (rdF at' pv pr er lk ll le).lookup ("read_net_line" : Str) = none := rfl
theorem rm4 : (rdF at' pv pr er lk ll le).lookup ("read_stream" : Str) = none := rfl
theorem rm5 : (rdF at' pv pr er lk ll le).lookup ("read_numbers" : Str) = none := rfl
theorem rm6 : (rdF at' pv pr er lk ll le).lookup ("net_so_far" : Str) = none := rfl
end
end My
namespace My
open PySem PySem.Spec PyProof.Rows L2
abbrev sCheck : Stmt := inClass sReader 1 /-Reader.check-/
abbrev sNsf : Stmt := inClass sReader 6 /-Reader.net_so_far-/
section
variable {P : Program} {w : World} {K : PySem.W.Frag} {mg : Str → Option Value} {base : Heap}
/-! ### net_so_far -/
theorem scNsf : FnScope ["self"] ["self"] (defScope sNsf) := ⟨rfl, rfl, rfl, by decide +kernel, rfl, by decide +kernel, by decide +kernel⟩
def spNsf (K : PySem.W.Frag) (C CN C2 : Addr) : Sp := fun vs H Q _ => ∃ (p dx lk ll le : Addr) (S : RdD), vs = [.ref p] ∧ RdAt K C C2 H p dx lk ll le S ∧ S.N.ls.length ≤ 1000 ∧
  ∀ (H' : Hp) (np : Addr), Same H H' → H np = none → NetAt K CN H' np S.N → Q (.ref np) H'
theorem ok_nsf {f C CN C2 fI : Addr} {fd fdI : FuncData} {k : Nat} (F : Fun K "net_so_far" "Reader.net_so_far" sNsf f fd) (c : RdC K C) (G : NetMk P w K mg base CN fI fdI) : FnOk P w K mg base CX0 (k + 3) f fd ["self"] (spNsf K C CN C2) := by
  refine F.ok scNsf (fun vs H Q E h => ?_) (fun cdv A0 outer s0 H vs Q E hr h => ?_)
  · obtain ⟨p, dx, lk, ll, le, S, rfl, _⟩ := h
    rfl
  · obtain ⟨p, dx, lk, ll, le, S, rfl, hS, hl, q⟩ := h
    have nd := scNsf.nd
    have hr2 : Room 2 _ := hr.mono (by omega)
    refine ⟨_, pss_one (ps_ret (pe_makeK G.mkC G.ok hr2 (by rfl) G.mg G.kb pass0 (pa_cons (pe_fld (pv 0) rfl) (pa_cons (pe_fld (pv 0) rfl) pa_nil)) (pk_cons (pe_fld (pv 0) rfl) (pk_cons (pe_fld (pv 0) rfl) pk_nil)))), ?_⟩
    obtain ⟨ts, h3, h4⟩ := hS.ls
    refine ⟨_, rfl, p, C, dx, _, _, rfl, hS.at_, c.cl, c.n5, rg5, _, rfl, p, C, dx, _, _, rfl, hS.at_, c.cl, c.n6, rg6, ?_⟩
    refine ⟨_, rfl, p, C, dx, _, _, rfl, hS.at_, c.cl, c.n3, rg3, _, rfl, p, C, dx, _, _, rfl, hS.at_, c.cl, c.n4, rg4, rfl, rfl, fun x dy nx ndy ne => ?_⟩
    have sm := same_make0 (o1 := .own x) (o2 := .ins CN dy []) nx ndy
    refine ⟨x, dy, lk, ll, ts, S.N, rfl, upd_same, SqL.of (sm _ _ hS.ks), SqL.of (sm _ _ h3), (h4.same hid_same).same sm, hl, fun H' kb hN => ⟨rfl, q H' x (same_make nx ndy kb) nx hN.at⟩⟩
/-! ### check: where nothing is wrong -/
theorem scCheck : FnScope ["self", "holds"] ["self", "holds"] (defScope sCheck) := ⟨rfl, rfl, rfl, by decide +kernel, rfl, by decide +kernel, by decide +kernel⟩
def spCheck (C : Addr) (XX : Bool) (CE : Addr) : Sp := fun vs H Q E => ∃ (p dx : Addr) (fs : List (Str × V)) (n : Nat) (b : Bool), vs = [.ref p, .bl b] ∧ H p = some (.ins C dx fs) ∧ fs.lookup ("place" : Str) = some (.int (n : Int)) ∧ (b = true → Q .non H) ∧ (b = false → Bad XX CE n E)
theorem ok_check0 {f C CE : Addr} {fd : FuncData} {k : Nat} (F : Fun K "check" "Reader.check" sCheck f fd) : FnOk P w K mg base (L2.CX P w) (k + 1) f fd ["self", "holds"] (spCheck C false CE) := by
  refine F.okX scCheck (fun vs H Q E h => ?_) (fun cdv A0 outer s0 H vs Q E hr h => ?_)
  · obtain ⟨p, dx, fs, n, b, rfl, _⟩ := h
    rfl
  · obtain ⟨p, dx, fs, n, b, rfl, hp, hl, q1, q2⟩ := h
    have nd := scCheck.nd
    refine ⟨_, pss_one (ps_if (pt_not (pt_val (pv 1))) (pss_one (ps_never)) (pss_nil)), ?_⟩
    cases b with
    | true =>
      exact ⟨_, rfl, _, rfl, iteF (q1 rfl)⟩
    | false => exact absurd (q2 rfl).1 (by decide)
end
end My
namespace My
open PySem PySem.Spec PyProof.Rows L2
abbrev sNums : Stmt := inClass sReader 5 /-Reader.read_numbers-/
abbrev BndsAt (K : PySem.W.Frag) (H : Hp) (ts : List Addr) (bs : List (Int × Int)) : Prop := Paired (fun (t : Addr) (b : Int × Int) => SqT K H t [.int b.1, .int b.2]) ts bs
section
variable {P : Program} {w : World} {K : PySem.W.Frag} {mg : Str → Option Value} {base : Heap}
theorem scNums : FnScope ["self", "words", "bounds", "numbers", "word", "number", "low", "high"] ["self", "words", "bounds"] (defScope sNums) := ⟨rfl, rfl, rfl, by decide +kernel, rfl, by decide +kernel, by decide +kernel⟩
-- ["self", "words", "bounds", "numbers", "word", "number", "low", "high"]
def spNums (K : PySem.W.Frag) (C : Addr) (XX : Bool) (CE : Addr) : Sp := fun vs H Q E => ∃ (p dx lw lb : Addr) (fs : List (Str × V)) (n : Nat) (ws : List Str) (bt : List Addr) (bs : List (Int × Int)), vs = [.ref p, .ref lw, .ref lb] ∧
  H p = some (.ins C dx fs) ∧ fs.lookup ("place" : Str) = some (.int (n : Int)) ∧ fs.lookup ("check" : Str) = none ∧ SqL K H lw (ws.map V.str) ∧ (∀ y ∈ ws, Asc y ∧ y.length ≤ 640) ∧ ws.length ≤ 1000 ∧
  SqL K H lb (bt.map V.ref) ∧ BndsAt K H bt bs ∧
  (numsOk ws bs = true → ∀ (H' : Hp) (a : Addr), Same H H' → H a = none → H' a = some (.lst ((ws.map numI).map V.int)) → Q (.ref a) H') ∧ (numsOk ws bs = false → Bad XX CE n E)
theorem ok_nums {f C CE fC fN : Addr} {fd fdC fdN : FuncData} {XX : Bool} {k : Nat} (F : Fun K "read_numbers" "Reader.read_numbers" sNums f fd) (c : RdC K C) (T : Blt mg) (hall : mg "all" = none) (hzip : mg "zip" = none) (mC : Meth K C "check" fC) (GC : MethX P w K mg base 3 ["self", "holds"] (spCheck C XX CE) fC fdC) (GN : Callee P w K mg base 1 "is_number" ["word"] spIsNum fN fdN) :
    FnOk P w K mg base (L2.CX P w) (k + 4) f fd ["self", "words", "bounds"] (spNums K C XX CE) := by
  refine F.okX scNums (fun vs H Q E h => ?_) (fun cdv A0 outer s0 H vs Q E hr h => ?_)
  · obtain ⟨p, dx, lw, lb, fs, n, ws, bt, bs, rfl, _⟩ := h
    rfl
  · obtain ⟨p, dx, lw, lb, fs, n, ws, bt, bs, rfl, hp, fp, fc, hw, hws, wl, hb, hbs, q1, q2⟩ := h
    have nd := scNums.nd
    have hr1 : Room 1 _ := hr.mono (by omega)
    have hr3 : Room 3 _ := hr.mono (by omega)
    refine ⟨_, pss_cons (ps_expr (pe_meth (pv 0) c.cl mC GC.ok hr3 GC.b .nil (passE (takes_of rfl rfl rfl rfl)) (pa_cons (pe_and (pe_cmpR op_eq (pe_callB call_len_seq (by rfl) T.len PySem.boot_len (pa_cons (pv 1) pa_nil)) (pe_callB call_len_seq (by rfl) T.len PySem.boot_len (pa_cons (pv 2) pa_nil)) (nomark _)) (pe_one (pe_callB (cr_all rfl) (by rfl) hall (by decide +kernel) (pa_cons (pe_lc (own := [("word", 4)]) (g := gName 4) (tt := tYes) rfl nd (pi_list (pv 1)) (blkOk_by (own := [("word", 4)]) (N := ["self", "words", "bounds", "numbers", "word", "number", "low", "high"]) (sc := defScope sNums) (by decide +kernel)) (fun _ _ _ _ _ => pg_name (i := 4) nd rfl (Or.inl rfl)) (fun _ _ _ _ _ => pts_nil) (fun _ _ _ _ _ => (pe_call GN.ok hr1 (by rfl) GN.mg GN.kp GN.b .nil pass0 (pa_cons (pv 4) pa_nil)))) pa_nil)))) pa_nil))) <| pss_cons (ps_setLc (i := 3) (own := [("word", 4)]) (g := gName 4) (tt := tYes) rfl nd rfl rfl (sw_true rfl rfl rfl (by decide +kernel)) (pi_list (pv 1)) (blkOk_by (own := [("word", 4)]) (N := ["self", "words", "bounds", "numbers", "word", "number", "low", "high"]) (sc := defScope sNums) (by decide +kernel)) (fun _ _ _ _ _ => pg_name (i := 4) nd rfl (Or.inl rfl)) (fun _ _ _ _ _ => pts_nil) (fun _ _ _ _ _ => (pe_callTy call_int_str (by rfl) T.int (by decide +kernel) (pa_cons (pv 4) pa_nil)))) <| pss_cons (ps_expr (pe_meth (pv 0) c.cl mC GC.ok hr3 GC.b .nil (passE (takes_of rfl rfl rfl rfl)) (pa_cons (pe_callB (cr_all rfl) (by rfl) hall (by decide +kernel) (pa_cons (pe_lc (own := [("number", 5), ("low", 6), ("high", 7)]) (g := (gTup K 2 (gCons (gName 5) (gCons (gTup K 2 (gCons (gName 6) (gCons (gName 7) gNil))) gNil)))) (tt := tYes) rfl nd (pi_zip (by rfl) hzip (pa_cons (pv 3) (pa_cons (pv 2) pa_nil))) (blkOk_by (own := [("number", 5), ("low", 6), ("high", 7)]) (N := ["self", "words", "bounds", "numbers", "word", "number", "low", "high"]) (sc := defScope sNums) (by decide +kernel)) (fun _ _ _ _ _ => (pg_tupK (K := K) rfl (pgs_cons (pg_name (i := 5) nd rfl (Or.inl rfl)) (pgs_cons (pg_tupK (K := K) rfl (pgs_cons (pg_name (i := 6) nd rfl (Or.inl rfl)) (pgs_cons (pg_name (i := 7) nd rfl (Or.inl rfl)) pgs_nil))) pgs_nil)))) (fun _ _ _ _ _ => pts_nil) (fun _ _ _ _ _ => (pe_chain op_le op_le (pv 6) (pv 5) (pv 7)))) pa_nil)) pa_nil))) <| pss_one (ps_ret (pv 3)), ?_⟩
    have lb' : bt.length = bs.length := hbs.length
    refine ⟨_, rfl, p, dx, fs, rfl, hp, fc, ?_⟩
    refine andS (a := decide (ws.length = bs.length)) (b := ws.all isNumT) (fun Q h => ?_) (fun _ H1 s1 Q h => ?_) fun H1 s1 => ?_
    · refine ⟨_, rfl, lw, _, rfl, .inl hw, _, rfl, lb, _, rfl, .inl hb, rfl, ?_⟩
      rw [List.length_map, List.length_map, lb', dec_nat]
      exact h H (Same.refl H)
    · refine ⟨_, rfl, lw, rfl, ⟨_, s1.seq hw⟩, fun D nD => ?_⟩
      refine lc_list (K := K) (a := lw) (xs := ws.map V.str) (fun i H' => Same H1 H' ∧ H' D = some (.lst (((ws.take i).map isNumT).map V.bl))) ⟨same_new nD, upd_same⟩ (fun i H' _ z => (s1.trans z.1).seq hw) ?_ ?_
      · rintro i x H' hi ⟨sm, hD⟩
        obtain ⟨y, ey, rfl⟩ := strs_at hi
        refine ⟨rfl, _, rfl, y, rfl, (hws y (List.mem_of_getElem? ey)).2, _, hD, szl (by rw [List.length_map, List.length_map, List.length_take]; omega), same_but sm nD but_self, ?_⟩
        rw [upd_same, take_snoc ey, List.map_append, List.map_append]
        rfl
      · rintro H2 ⟨sm, hD⟩
        rw [List.length_map, List.take_length] at hD
        refine ⟨D, ws.map isNumT, rfl, SqL.of hD, ?_⟩
        have e : (ws.map isNumT).all id = ws.all isNumT := by rw [List.all_map]; rfl
        rw [e]
        exact h H2 (s1.trans sm)
    refine ⟨p, dx, fs, n, _, rfl, s1 _ _ hp, fp, fun eb => ?_, fun eb => q2 ?_⟩
    · have e0 := eb
      rw [Bool.and_eq_true, decide_eq_true_eq, List.all_eq_true] at eb
      obtain ⟨el, ea⟩ := eb
      refine ⟨_, rfl, lw, rfl, ⟨_, s1.seq hw⟩, fun D nD => ?_⟩
      refine lc_list (K := K) (a := lw) (xs := ws.map V.str) (fun i H' => Same H1 H' ∧ H' D = some (.lst (((ws.take i).map numI).map V.int))) ⟨same_new nD, upd_same⟩ (fun i H' _ z => (s1.trans z.1).seq hw) ?_ ?_
      · rintro i x H' hi ⟨sm, hD⟩
        obtain ⟨y, ey, rfl⟩ := strs_at hi
        have hm := List.mem_of_getElem? ey
        have iw := int_word (hws y hm).1 (ea y hm)
        refine ⟨rfl, _, rfl, y, _, rfl, iw.1, (hws y hm).2, _, hD, szl (by rw [List.length_map, List.length_map, List.length_take]; omega), same_but sm nD but_self, ?_⟩
        rw [upd_same, take_snoc ey, List.map_append, List.map_append]
        rfl
      rintro H2 ⟨s2, hD⟩
      rw [List.length_map, List.take_length] at hD
      have S2 := s1.trans s2
      refine ⟨_, rfl, p, dx, fs, rfl, S2 _ _ hp, fc, ?_⟩
      refine ⟨_, rfl, _, rfl, D, lb, _, _, rfl, SqL.of hD, S2.seq hb, fun D2 nD2 => ?_⟩
      have lz : ((ws.map numI).zip bs).length = ws.length := by rw [List.length_zip, List.length_map]; omega
      refine lc_it (walk_zip rfl) (fun i H' => Same H2 H' ∧ H' D2 = some (.lst (((((ws.map numI).zip bs).take i).map inB).map V.bl))) ⟨same_new nD2, upd_same⟩ (fun i H' _ z => ⟨SqL.of (z.1 _ _ hD), (S2.trans z.1).seq hb⟩) ?_ ?_
      · rintro i x H' G hi ⟨sm, hD'⟩ ⟨T', x1, z1, ex, nT, rfl, hx, hz⟩
        subst ex
        obtain ⟨m, em, rfl⟩ := ints_at hx
        obtain ⟨t, et, rfl⟩ := refs_at hz
        obtain ⟨b, eb, hT⟩ := Paired.at hbs et
        have sT := same_new (o := .tup [V.int m, V.ref t]) nT
        have hbT := same_tup ((S2.trans sm).trans sT) hT
        have ez : ((ws.map numI).zip bs)[i]? = some (m, b) := List.getElem?_zip_eq_some.mpr ⟨em, eb⟩
        have hD3 := sT _ _ hD'
        have sz' : (((((ws.map numI).zip bs).take i).map inB).map V.bl).length < sizeLine := szl (by rw [List.length_map, List.length_map, List.length_take]; omega)
        have fin : ∀ (v : Bool), v = inB (m, b) → ∃ acc, (upd H' T' (.tup [V.int m, V.ref t])) D2 = some (.lst acc) ∧ acc.length < sizeLine ∧ Same H2 (upd (upd H' T' (.tup [V.int m, V.ref t])) D2 (.lst (acc ++ [V.bl v]))) ∧ (upd (upd H' T' (.tup [V.int m, V.ref t])) D2 (.lst (acc ++ [V.bl v]))) D2 = some (.lst (((((ws.map numI).zip bs).take (i + 1)).map inB).map V.bl)) := fun v ev => by
          refine ⟨_, hD3, sz', same_but (sm.trans sT) nD2 but_self, ?_⟩
          rw [upd_same, take_snoc ez, List.map_append, List.map_append, ev]
          rfl
        refine ⟨T', _, rfl, SqT.of upd_same, rfl, _, _, rfl, _, _, rfl, ?_⟩
        refine ⟨t, _, rfl, hbT, rfl, _, _, rfl, _, _, rfl, rfl, rfl, rfl, ?_⟩
        refine ⟨_, rfl, _, rfl, _, _, rfl, rfl, _, rfl, ?_⟩
        refine ite2 (fun z => ?_) (fun z => ?_)
        · refine ⟨_, rfl, _, _, rfl, rfl, fin _ ?_⟩
          unfold inB
          rw [z]
          rfl
        · refine fin _ ?_
          unfold inB
          rw [Bool.eq_false_iff.mpr z]
          rfl
      · rintro H3 ⟨s3, hD3⟩
        have lm : min (((ws.map numI).map V.int).length) ((bt.map V.ref).length) = ((ws.map numI).zip bs).length := by
          rw [List.length_map, List.length_map, List.length_map, lz]
          omega
        rw [lm, List.take_length] at hD3
        have S3 := S2.trans s3
        refine ⟨D2, ((ws.map numI).zip bs).map inB, rfl, SqL.of hD3, ?_⟩
        have e : (((ws.map numI).zip bs).map inB).all id = ((ws.map numI).zip bs).all inB := by rw [List.all_map]; rfl
        rw [e]
        refine ⟨p, dx, fs, n, _, rfl, S3 _ _ hp, fp, fun eb => ?_, fun eb => q2 ?_⟩
        · exact ⟨_, rfl, q1 (by unfold numsOk; rw [e0, eb]; rfl) H3 D S3 (s1.free nD) (s3 _ _ hD)⟩
        · unfold numsOk
          rw [eb, Bool.and_false]
    · unfold numsOk
      rw [eb]
      rfl
end
end My
/-! len(set(xs)) of a list of ints: as many as there are different ones. No row. -/
namespace Ls
open PySem PySem.Spec PyProof.Rows L2
theorem met_len (ns : List Int) : ∀ k, k ≤ ns.length → (firstMet (fun i => ns.getD i 0) k).length ≤ k ∧ ((firstMet (fun i => ns.getD i 0) k).length = k ↔ (ns.take k).Nodup)
  | 0, _ => ⟨Nat.le_refl _, by simp [firstMet_zero]⟩
  | k + 1, h => by
    obtain ⟨h1, h2⟩ := met_len ns k (by omega)
    have lt : k < ns.length := h
    have e0 : ns.getD k 0 = ns[k] := My.getD_lt 0 lt
    have e1 : ns.take (k + 1) = ns.take k ++ [ns[k]] := My.take_snoc (List.getElem?_eq_getElem lt)
    have e2 : (List.range k).map (fun i => ns.getD i 0) = ns.take k := by
      apply List.ext_getElem
      · simp; omega
      · intro i q1 q2
        rw [List.getElem_map, List.getElem_range, List.getElem_take]
        exact My.getD_lt 0 (by rw [List.length_take] at q2; omega)
    have e3 : ((firstMet (fun i => ns.getD i 0) k).any fun z => z == ns[k]) = decide (ns[k] ∈ ns.take k) := by
      rw [firstMet_any, e2, Bool.eq_iff_iff, List.any_eq_true, decide_eq_true_eq]
      exact ⟨fun ⟨z, m, y⟩ => by rw [← eq_of_beq y]; exact m, fun m => ⟨_, m, beq_self_eq_true _⟩⟩
    rw [firstMet_succ, e1]
    unfold step_dedup
    rw [e0]
    have hn : (ns.take k ++ [ns[k]]).Nodup ↔ (ns.take k).Nodup ∧ ns[k] ∉ ns.take k := by
      constructor
      · intro q
        rw [List.nodup_append] at q
        exact ⟨q.1, fun m => q.2.2 _ m _ (List.mem_singleton.mpr rfl) rfl⟩
      · rintro ⟨q1, q2⟩
        exact My.nd_snoc' q1 q2
    by_cases m : ns[k] ∈ ns.take k
    · rw [if_pos (by rw [e3]; exact decide_eq_true m)]
      refine ⟨by omega, ⟨fun z => by omega, fun z => absurd m (hn.mp z).2⟩⟩
    · rw [if_neg (by rw [e3]; simpa using m), List.length_append, List.length_singleton]
      refine ⟨by omega, ⟨fun z => hn.mpr ⟨h2.mp (by omega), m⟩, fun z => by rw [h2.mpr (hn.mp z).1]⟩⟩
def tLenSet (K : PySem.W.Frag) (ta : TE) : TE := fun σ H Q => ta σ H fun x H1 => ∃ (l : Addr) (ns : List Int), x = .ref l ∧ SqL K H1 l (ns.map V.int) ∧ ns.length ≤ 4000 ∧ ∀ c : Nat, c ≤ ns.length → (c = ns.length ↔ ns.Nodup) → Q (.int (c : Int)) H1
theorem pe_lenSet {X : Cx} {e : Expr} {ta : TE} {p1 p2 q1 q2 : Pos} (hg : Gl X "len") (hm : X.mg "len" = none) (hs : Gl X "set") (ms : X.mg "set" = none) (ha : PE X e ta) (hc : X.calm = true := by rfl)
    (st : starEach [e] X.env = (false, eval e X.env) :: starEach [] X.env := by rfl) : PE X (.Call (.Name "len" p1) [.Call (.Name "set" p2) [e] [] q1] [] q2) (tLenSet X.K ta) := by
  refine ⟨fun pins s σ H Q I h => Call_ (ld_blt I hg hm boot_len (callWith_builtin1 (args_cons (Call_ (ld_blt I hs ms boot_set (callWith_type1 (args_cons (thn (ha.run pins s σ H _ I h) fun v s1 ⟨x, H1, I1, r1, z⟩ => args_nil ?_) st) st rfl))) rfl) rfl rfl))⟩
  obtain ⟨l, ns, rfl, hq, few, z⟩ := z
  cases r1
  obtain ⟨its, r, pl, _⟩ := I1.list hq
  have len : its.toArray.size = ns.length := by rw [List.size_toArray, ← r.length, List.length_map]
  obtain ⟨m1, m2⟩ := met_len ns ns.length (Nat.le_refl _)
  refine call_set_list (I1.ok.hd hc) pl.isList (by simpa using RZ.intsAre_vals r) (by rw [len]; unfold scanBound; omega) fun g tk hS hk => args_nil ?_
  rw [len] at hS
  generalize hmet : firstMet (fun i => ns.getD i 0) ns.length = mt at hS m1 m2
  obtain ⟨o, es, ep, t, ho, hex, hd, _, _, _, hf, hn⟩ := hS
  have I2 : Inv X pins σ H1 { s1 with heap := g, toks := tk } := I1.kept fun b o e => hk b o (Heap.lt_size e) e
  rw [List.take_length] at m2
  exact call_len_set ho hex hd hf (by rw [hn]; omega) ⟨.int (mt.length : Int), H1, I2.tok _, ⟨_, by rw [hn]⟩, z mt.length m1 m2⟩
end Ls
namespace My
open PySem PySem.Spec PyProof.Rows L2
abbrev sIsP : Stmt := top 5 /-is_path-/
def pat (n : Nat) : List Bool := (true :: List.replicate (n - 2) false) ++ [true]
theorem pat_at {n k : Nat} (h2 : 2 ≤ n) (hk : k < n) : (pat n)[k]? = some (decide (k = 0) || decide (k + 1 = n)) := by
  unfold pat
  by_cases e0 : k = 0
  · rw [e0]; rfl
  · by_cases e1 : k + 1 = n
    · rw [List.getElem?_append_right (by rw [List.length_cons, List.length_replicate]; omega), List.length_cons, List.length_replicate, show k - (n - 2 + 1) = 0 by omega, decide_eq_true e1, Bool.or_true]
      rfl
    · rw [List.getElem?_append_left (by rw [List.length_cons, List.length_replicate]; omega), decide_eq_false e0, decide_eq_false e1]
      obtain ⟨j, rfl⟩ : ∃ j, k = j + 1 := ⟨k - 1, by omega⟩
      rw [List.getElem?_cons_succ, List.getElem?_replicate, if_pos (by omega)]
      rfl
theorem pat_len {n : Nat} (h2 : 2 ≤ n) : (pat n).length = n := by
  unfold pat
  rw [List.length_append, List.length_cons, List.length_replicate, List.length_singleton]
  omega
theorem pat_iff {N : NetD} {r : List Nat} (h2 : 2 ≤ r.length) : r.map (host N) = pat r.length ↔ ∀ k, k < r.length → host N (r.getD k 0) = (decide (k = 0) || decide (k + 1 = r.length)) := by
  constructor
  · intro e k hk
    have this : (r.map (host N))[k]? = (pat r.length)[k]? := by rw [e]
    rw [pat_at h2 hk, List.getElem?_map, getD_at 0 hk] at this
    exact Option.some.inj this
  · intro h
    refine List.ext_getElem? fun k => ?_
    by_cases hk : k < r.length
    · rw [pat_at h2 hk, List.getElem?_map, getD_at 0 hk, ← h k hk]
      rfl
    · rw [List.getElem?_eq_none (by rw [List.length_map]; omega), List.getElem?_eq_none (by rw [pat_len h2]; omega)]
theorem ports_all {N : NetD} {r : List Nat} : (((portsOf r).map fun p => (joined N p.1 p.2).isSome).all id) = true ↔ ∀ k, k + 1 < r.length → adj N (r.getD k 0) (r.getD (k + 1) 0) = true := by
  rw [List.all_map, List.all_eq_true]
  constructor
  · intro h k hk
    have := h _ (mem_ports.mpr ⟨k, hk, rfl⟩)
    rw [← joined_some]
    exact this
  · intro h p hp
    obtain ⟨k, hk, rfl⟩ := mem_ports.mp hp
    show (joined N (r.getD k 0) (r.getD (k + 1) 0)).isSome = true
    rw [joined_some]
    exact h k hk
theorem nodup_ints (r : List Nat) : (r.map fun (n : Nat) => (n : Int)).Nodup ↔ r.Nodup := by
  unfold List.Nodup
  rw [List.pairwise_map]
  constructor
  · intro h
    exact h.imp fun z e => z (by rw [e])
  · intro h
    exact h.imp fun z e => z (by omega)
theorem natsV_ints (r : List Nat) : natsV r = (r.map fun (n : Nat) => (n : Int)).map V.int := by
  unfold natsV
  rw [List.map_map]
  rfl
section
variable {P : Program} {w : World} {K : PySem.W.Frag} {mg : Str → Option Value} {base : Heap}
theorem scIs : FnScope ["net", "nodes", "kinds", "node", "a", "b"] ["net", "nodes"] (defScope sIsP) := ⟨rfl, rfl, rfl, by decide +kernel, rfl, by decide +kernel, by decide +kernel⟩
def spIs (K : PySem.W.Frag) (C : Addr) : Sp := fun vs H Q _ => ∃ (p l : Addr) (r : List Nat) (N : NetD), vs = [.ref p, .ref l] ∧ NetAt K C H p N ∧ Dist N.ls ∧ H l = some (.lst (natsV r)) ∧ (∀ x ∈ r, x < N.ks.length) ∧ r.length ≤ 300 ∧
  ∀ (b : Bool) (H' : Hp), Same H H' → (b = true ↔ IsP N r) → Q (.bl b) H'
theorem ok_is {f C fP fD : Addr} {fd fdP fdD : FuncData} {k : Nat} (F : Fun K "is_path" "is_path" sIsP f fd) (T : Blt mg) (hset : mg "set" = none) (hall : mg "all" = none) (c : NetC K C) (GP : Callee P w K mg base 1 "ports_of" ["path"] (spPo K) fP fdP) (mD : Meth K C "delay" fD) (GD : MethOf P w K mg base 1 ["self", "a", "b"] (spDelay K C) fD fdD) :
    FnOk P w K mg base CX0 (k + 2) f fd ["net", "nodes"] (spIs K C) := by
  refine F.ok scIs (fun vs H Q E h => ?_) (fun cdv A outer s0 H vs Q E hr h => ?_)
  · obtain ⟨p, l, r, N, rfl, _⟩ := h
    rfl
  · obtain ⟨p, l, r, N, rfl, hN, hD0, hl, hlt, hlen, q⟩ := h
    have nd := scIs.nd
    have hr1 : Room 1 _ := hr.mono (by omega)
    refine ⟨_, pss_cons (ps_if (PW.pt (pw_or (pt_cmpR op_lt (pe_callB call_len_seq (by rfl) T.len PySem.boot_len (pa_cons (pv 1) pa_nil)) pe_int (nomark _)) (pw_or1 (pt_cmpR op_lt (Ls.pe_lenSet (by rfl) T.len (by rfl) hset (pv 1)) (pe_callB call_len_seq (by rfl) T.len PySem.boot_len (pa_cons (pv 1) pa_nil)) (nomark _))))) (pss_one (ps_ret pe_bl)) (pss_nil)) <| pss_cons (ps_setLc (i := 2) (own := [("node", 3)]) (g := gName 3) (tt := tYes) rfl nd rfl rfl (sw_true rfl rfl rfl (by decide +kernel)) (pi_list (pv 1)) (blkOk_by (own := [("node", 3)]) (N := ["net", "nodes", "kinds", "node", "a", "b"]) (sc := defScope sIsP) (by decide +kernel)) (fun _ _ _ _ _ => pg_name (i := 3) nd rfl (Or.inl rfl)) (fun _ _ _ _ _ => pts_nil) (fun _ _ _ _ _ => (pe_ix (ix_listK (K := K)) (pe_fldK (K := K) (pv 0)) (pv 3) (fun _ _ => rfl)))) <| pss_cons (ps_if (pt_cmpR (op_neD hr.units) (pv 2) (pe_op op_cat (pe_op op_cat (pe_lst (pa_cons pe_str pa_nil)) (pe_op op_rep (pe_lst (pa_cons pe_str pa_nil)) (pe_op op_sub (pe_callB call_len_seq (by rfl) T.len PySem.boot_len (pa_cons (pv 1) pa_nil)) pe_int))) (pe_lst (pa_cons pe_str pa_nil))) (nomark _)) (pss_one (ps_ret pe_bl)) (pss_nil)) <| pss_one (ps_ret (pe_callB (cr_all rfl) (by rfl) hall PyProof.Rows.boot_all (pa_cons (pe_lc (own := [("a", 4), ("b", 5)]) (g := (gTup K 2 (gCons (gName 4) (gCons (gName 5) gNil)))) (tt := tYes) rfl nd (pi_list (pe_call GP.ok hr1 (by rfl) GP.mg GP.kp GP.b .nil pass0 (pa_cons (pv 1) pa_nil))) (blkOk_by (own := [("a", 4), ("b", 5)]) (N := ["net", "nodes", "kinds", "node", "a", "b"]) (sc := defScope sIsP) (by decide +kernel)) (fun _ _ _ _ _ => pg_tupK (K := K) rfl (pgs_cons (pg_name (i := 4) nd rfl (Or.inl rfl)) (pgs_cons (pg_name (i := 5) nd rfl (Or.inl rfl)) pgs_nil))) (fun _ _ _ _ _ => pts_nil) (fun _ _ _ _ _ => (pe_cmpR op_notN (pe_meth (pv 0) c.cl mD GD.ok hr1 GD.b .nil pass0 (pa_cons (pv 4) (pa_cons (pv 5) pa_nil))) pe_non (nomark _)))) pa_nil))), ?_⟩
    have eN := hN
    obtain ⟨dx, lk, ll, ld, ts0, e1, e2, e3, e4, e5⟩ := hN
    dsimp only [gName]
    refine or_read (a := decide (((natsV r).length : Int) < 2)) (b := decide (¬ r.Nodup)) (fun Q h => ?_) (fun Q h => ?_) ?_
    · exact ⟨_, rfl, l, _, rfl, .inl (SqL.of hl), _, _, rfl, rfl, _, rfl, h⟩
    · refine ⟨_, rfl, l, r.map (fun (n : Nat) => (n : Int)), rfl, by rw [← natsV_ints]; exact SqL.of hl, by rw [List.length_map]; omega, fun c' hc hn => ?_⟩
      rw [List.length_map] at hc hn
      rw [nodup_ints] at hn
      refine ⟨_, rfl, l, _, rfl, .inl (SqL.of hl), _, _, rfl, rfl, _, rfl, ?_⟩
      have e : decide ((c' : Int) < ((natsV r).length : Int)) = decide (¬ r.Nodup) := by
        rw [natsV_len]
        by_cases z : r.Nodup
        · have := hn.mpr z
          rw [decide_eq_false (by omega), decide_eq_false (by simpa using z)]
        · have : c' ≠ r.length := fun y => z (hn.mp y)
          rw [decide_eq_true (by omega), decide_eq_true z]
      rw [e]
      exact h
    · refine ite2 (fun e => ?_) (fun e => ?_)
      · refine q false H (Same.refl H) ⟨(fun z => by cases z), fun z => ?_⟩
        rw [Bool.or_eq_true, decide_eq_true_eq, decide_eq_true_eq, natsV_len] at e
        rcases e with e | e
        · have := z.two
          omega
        · exact absurd z.nd e
      · rw [Bool.or_eq_true, decide_eq_true_eq, decide_eq_true_eq, natsV_len, not_or, Classical.not_not] at e
        obtain ⟨two, ndr⟩ := e
        have two : 2 ≤ r.length := by omega
        -- kinds
        refine ⟨_, rfl, l, rfl, ⟨_, SqL.of hl⟩, fun D nD => ?_⟩
        have s1 := same_new (o := .lst []) nD
        refine lc_list (K := K) (a := l) (xs := natsV r) (fun i H' => Same H H' ∧ H' D = some (.lst (((r.take i).map (host N)).map kindV))) ⟨s1, upd_same⟩ (fun i H' _ z => SqL.of (z.1 _ _ hl)) ?_ ?_
        · rintro i x H' hi ⟨sm, hD⟩
          obtain ⟨n, en, rfl⟩ := nats_at hi
          have hnl := hlt n (List.mem_of_getElem? en)
          have hil : (r.take i).length ≤ 300 := by rw [List.length_take]; omega
          refine ⟨rfl, ?_⟩
          refine ⟨_, rfl, p, C, dx, _, _, rfl, sm _ _ e1, c.cl, c.n1, g1, _, rfl, lk, _, _, _, rfl, rfl, SqL.of (sm _ _ e2), atI_kind rfl hnl, _, hD, szl (by rw [List.length_map, List.length_map]; omega), same_but sm nD but_self, ?_⟩
          rw [upd_same, take_snoc en, List.map_append, List.map_append]
          rfl
        rintro H1 ⟨s1, hD1⟩
        rw [natsV_len, List.take_length] at hD1
        -- kinds != ...
        refine ⟨_, rfl, by show 1 ≤ sizeLine; decide, fun u nu => ?_⟩
        have s2 := same_new (o := .lst [V.str "host"]) nu
        refine ⟨by show 1 ≤ sizeLine; decide, fun u2 nu2 => ?_⟩
        have s3 := s2.trans (same_new (o := .lst [V.str "switch"]) nu2)
        refine ⟨_, rfl, l, _, rfl, .inl (SqL.of (s3 _ _ (s1 _ _ hl))), _, _, rfl, rfl, u2, _, _, rfl, rfl, upd_same, by rw [natsV_len]; omega, by rw [natsV_len]; omega, sz (by rw [natsV_len, List.length_singleton]; omega), fun u3 nu3 => ?_⟩
        have n4 := same_new (o := .lst (List.replicate (((natsV r).length : Int) - 2).toNat [V.str "switch"]).flatten) nu3
        have hu4 := n4 _ _ ((same_new (o := .lst [V.str "switch"]) nu2) _ _ (upd_same (H := H1) (a := u) (o := .lst [V.str "host"])))
        have s4 := s3.trans n4
        have h34 : (upd (upd (upd H1 u (.lst [V.str "host"])) u2 (.lst [V.str "switch"])) u3 (.lst (List.replicate (((natsV r).length : Int) - 2).toNat [V.str "switch"]).flatten)) u3 = some (.lst (List.replicate (((natsV r).length : Int) - 2).toNat [V.str "switch"]).flatten) := upd_same
        generalize (upd (upd (upd H1 u (.lst [V.str "host"])) u2 (.lst [V.str "switch"])) u3 (.lst (List.replicate (((natsV r).length : Int) - 2).toNat [V.str "switch"]).flatten)) = H4 at s4 hu4 h34 ⊢
        refine ⟨u, u3, _, _, rfl, rfl, hu4, h34, sz (by rw [natsV_len, rep_flat, List.length_replicate, List.length_singleton]; omega), fun u4 nu4 => ?_⟩
        have s5 := same_new (o := .lst ([V.str "host"] ++ (List.replicate (((natsV r).length : Int) - 2).toNat [V.str "switch"]).flatten)) nu4
        refine ⟨by show 1 ≤ sizeLine; decide, fun u5 nu5 => ?_⟩
        have n6 := same_new (o := .lst [V.str "host"]) nu5
        refine ⟨u4, u5, _, _, rfl, rfl, n6 _ _ upd_same, upd_same, sz (by rw [natsV_len, rep_flat, List.length_append, List.length_replicate, List.length_singleton]; omega), fun u6 nu6 => ?_⟩
        have n7 := same_new (o := .lst (([V.str "host"] ++ (List.replicate (((natsV r).length : Int) - 2).toNat [V.str "switch"]).flatten) ++ [V.str "host"])) nu6
        have S7 := ((s4.trans s5).trans n6).trans n7
        have epat : ([V.str "host"] ++ (List.replicate (((natsV r).length : Int) - 2).toNat [V.str "switch"]).flatten) ++ [V.str "host"] = (pat r.length).map kindV := by
          rw [natsV_len, rep_flat, show ((r.length : Int) - 2).toNat = r.length - 2 by omega]
          unfold pat
          rw [List.map_append, List.map_cons, List.map_replicate]
          rfl
        refine ⟨dKinds (r.map (host N)), dKinds (pat r.length), dp_kinds (SqL.of (S7 _ _ hD1)), dp_kinds (by rw [← epat]; exact SqL.of upd_same), (shp_kinds _).shaped, (shp_kinds _).shaped, _, rfl, ?_⟩
        rw [eqv_kinds]
        have SS := s1.trans S7
        generalize (upd (upd (upd H4 u4 (.lst ([V.str "host"] ++ (List.replicate (((natsV r).length : Int) - 2).toNat [V.str "switch"]).flatten))) u5 (.lst [V.str "host"])) u6 (.lst (([V.str "host"] ++ (List.replicate (((natsV r).length : Int) - 2).toNat [V.str "switch"]).flatten) ++ [V.str "host"]))) = H7 at SS S7 ⊢
        refine ite2 (fun e => ?_) (fun e => ?_)
        · refine q false H7 SS ⟨(fun z => by cases z), fun z => ?_⟩
          rw [Bool.not_eq_true', decide_eq_false_iff_not] at e
          exact absurd ((pat_iff two).mpr z.hs) e
        · have e : r.map (host N) = pat r.length := by simpa using e
          refine ⟨_, rfl, l, r, rfl, SS _ _ hl, fun H8 pp ts s8 npp hp hP => ?_⟩
          have S8 := SS.trans s8
          refine ⟨pp, rfl, ⟨_, SqL.of hp⟩, fun D2 nD2 => ?_⟩
          have s9 := same_new (o := .lst []) nD2
          have ltp : ts.length = (portsOf r).length := hP.length
          have lpo := ports_len r
          refine lc_list (K := K) (a := pp) (xs := ts.map V.ref) (fun i H' => Same H8 H' ∧ H' D2 = some (.lst ((((portsOf r).take i).map fun p => (joined N p.1 p.2).isSome).map V.bl))) ⟨s9, upd_same⟩ (fun i H' _ z => SqL.of (z.1 _ _ hp)) ?_ ?_
          · rintro i x H' hi ⟨sm, hD⟩
            rw [List.getElem?_map] at hi
            cases ht : ts[i]? with
            | none => rw [ht] at hi; cases hi
            | some t =>
              rw [ht] at hi
              cases hi
              obtain ⟨z, ez, hT⟩ := Paired.at hP ht
              have lt' : ((portsOf r).take i).length ≤ 300 := by rw [List.length_take]; omega
              refine ⟨t, _, rfl, same_tup sm hT, rfl, _, _, rfl, _, _, rfl, rfl, rfl, ?_⟩
              refine ⟨_, rfl, p, dx, _, rfl, sm _ _ (S8 _ _ e1), g7, _, rfl, _, rfl, p, z.1, z.2, N, rfl, eN.same (S8.trans sm), hD0, fun H9 s9 => ?_⟩
              refine ⟨rfl, _, s9 _ _ hD, szl (by rw [List.length_map, List.length_map]; omega), same_but (sm.trans s9) nD2 but_self, ?_⟩
              rw [upd_same, take_snoc ez, List.map_append, List.map_append, optV_non]
              rfl
          rintro H9 ⟨s9, hD9⟩
          rw [List.length_map, ltp, List.take_length] at hD9
          refine ⟨D2, ((portsOf r).map fun p => (joined N p.1 p.2).isSome), rfl, SqL.of hD9, q _ _ (S8.trans s9) ?_⟩
          rw [ports_all]
          exact ⟨fun z => ⟨two, ndr, (pat_iff two).mp e, z⟩, fun z => z.ad⟩
end
end My
namespace My
open PySem PySem.Spec PyProof.Rows L2
abbrev sNLine : Stmt := inClass sReader 3 /-Reader.read_net_line-/
/-- words -/
structure WsAt (K : PySem.W.Frag) (H : Hp) (lw : Addr) (ws : List Str) : Prop where
  at_ : SqL K H lw (ws.map V.str)
  asc : ∀ y ∈ ws, Asc y ∧ y.length ≤ 250
  len : ws.length ≤ 300
theorem RdAt.out {K : PySem.W.Frag} {C C2 : Addr} {H : Hp} {p dx lk ll le a : Addr} {S : RdD} (h : RdAt K C C2 H p dx lk ll le S) (n : H a = none) : a ∉ [p, lk, ll, le] := fun hm => by
  obtain ⟨ts, h3, _⟩ := h.ls
  obtain ⟨us, h5, _⟩ := h.es
  have : ∃ o, H a = some o := by
    rcases List.mem_cons.mp hm with e | hm
    · exact ⟨_, by rw [e]; exact h.at_⟩
    rcases List.mem_cons.mp hm with e | hm
    · exact ⟨_, by rw [e]; exact h.ks⟩
    rcases List.mem_cons.mp hm with e | hm
    · exact ⟨_, by rw [e]; exact h3⟩
    rw [List.mem_singleton.mp hm]
    exact ⟨_, h5⟩
  obtain ⟨o, e⟩ := this
  rw [n] at e
  cases e
section
variable {P : Program} {w : World} {K : PySem.W.Frag} {mg : Str → Option Value} {base : Heap}
theorem scNLine : FnScope ["self", "words", "nodes", "a", "b", "delay"] ["self", "words"] (defScope sNLine) := ⟨rfl, rfl, rfl, by decide +kernel, rfl, by decide +kernel, by decide +kernel⟩
-- ["self", "words", "nodes", "a", "b", "delay"]
def spNLine (K : PySem.W.Frag) (C CN C2 : Addr) (XX : Bool) (CE : Addr) : Sp := fun vs H Q E => ∃ (p dx lk ll le lw : Addr) (S : RdD) (ws : List Str), vs = [.ref p, .ref lw] ∧ RdAt K C C2 H p dx lk ll le S ∧ RdW S ∧ WsAt K H lw ws ∧
  (lineOk S ws → ∀ H', Same (hid [p, lk, ll, le] H) H' → RdAt K C C2 H' p dx lk ll le ⟨S.pl, S.pv, ⟨S.N.ks, S.N.ls ++ [lnOf ws], S.N.pr, S.N.er⟩, S.es⟩ → Q .non H') ∧ (¬ lineOk S ws → Bad XX CE S.pl E)
theorem ok_nline {f C CN C2 CE fC fM fN fD : Addr} {fd fdC fdM fdN fdD : FuncData} {XX : Bool} {k : Nat} (F : Fun K "read_net_line" "Reader.read_net_line" sNLine f fd) (c : RdC K C) (cN : NetC K CN) (T : Blt mg) (mC : Meth K C "check" fC) (GC : MethX P w K mg base 3 ["self", "holds"] (spCheck C XX CE) fC fdC)
    (mM : Meth K C "read_numbers" fM) (GM : MethX P w K mg base 4 ["self", "words", "bounds"] (spNums K C XX CE) fM fdM) (mN : Meth K C "net_so_far" fN) (GN : MethOf P w K mg base 3 ["self"] (spNsf K C CN C2) fN fdN) (mD : Meth K CN "delay" fD) (GD : MethOf P w K mg base 1 ["self", "a", "b"] (spDelay K CN) fD fdD) :
    FnOk P w K mg base (L2.CX P w) (k + 5) f fd ["self", "words"] (spNLine K C CN C2 XX CE) := by
  refine F.okX scNLine (fun vs H Q E h => ?_) (fun cdv A0 outer s0 H vs Q E hr h => ?_)
  · obtain ⟨p, dx, lk, ll, le, lw, S, ws, rfl, _⟩ := h
    rfl
  · obtain ⟨p, dx, lk, ll, le, lw, S, ws, rfl, hS, hW, hw, q1, q2⟩ := h
    have nd := scNLine.nd
    have hr1 : Room 1 _ := hr.mono (by omega)
    have hr3 : Room 3 _ := hr.mono (by omega)
    have hr4 : Room 4 _ := hr.mono (by omega)
    refine ⟨_, pss_cons (ps_set (i := 2) nd rfl (.inl rfl) (pe_tup (pa_cons pe_int (pa_cons (pe_op op_sub (pe_callB call_len_seq (by rfl) T.len PySem.boot_len (pa_cons (pe_fld (pv 0) rfl) pa_nil)) pe_int) pa_nil)))) <| pss_cons (ps_asg (pe_meth (pv 0) c.cl mM GM.ok hr4 GM.b .nil (passE (takes_of rfl rfl rfl rfl)) (pa_cons (pe_slice sl_list (pv 1) (po_some pe_int) po_none) (pa_cons (pe_lst (pa_cons (pv 2) (pa_cons (pv 2) (pa_cons (pe_tup (pa_cons pe_int (pa_cons pe_int pa_nil))) pa_nil)))) pa_nil))) (pg_lst rfl (pgs_cons (pg_name (i := 3) nd rfl (.inl rfl)) (pgs_cons (pg_name (i := 4) nd rfl (.inl rfl)) (pgs_cons (pg_name (i := 5) nd rfl (.inl rfl)) pgs_nil))))) <| pss_cons (ps_expr (pe_meth (pv 0) c.cl mC GC.ok hr3 GC.b .nil (passE (takes_of rfl rfl rfl rfl)) (pa_cons (pe_and (pe_cmpR op_ne (pv 3) (pv 4) (nomark _)) (pe_one (pe_cmpR op_isN (pe_meth (pe_meth0 (pv 0) c.cl mN GN.ok hr3 GN.b .nil pass0) cN.cl mD GD.ok hr1 GD.b .nil pass0 (pa_cons (pv 3) (pa_cons (pv 4) pa_nil))) pe_non (nomark _)))) pa_nil))) <| pss_one (ps_expr (pe_bm PySem.F.plainAttrs_list PySem.F.slot_list_append PySem.F.type_list_append mt_append (pe_fld (pv 0) rfl) (pa_cons (pe_tup (pa_cons (pv 3) (pa_cons (pv 4) (pa_cons (pv 5) pa_nil)))) pa_nil))), ?_⟩
    refine ⟨_, rfl, p, C, dx, _, _, rfl, hS.at_, c.cl, c.n5, rg5, lk, _, rfl, .inl (SqL.of hS.ks), _, _, rfl, rfl, by show 2 ≤ sizeLine; decide, fun t nt => ?_⟩
    rw [List.length_map]
    have s1 := same_new (o := .tup [V.int 0, V.int ((S.N.ks.length : Int) - 1)]) nt
    have ht := upd_same (H := H) (a := t) (o := .tup [V.int 0, V.int ((S.N.ks.length : Int) - 1)])
    generalize upd H t (.tup [V.int 0, V.int ((S.N.ks.length : Int) - 1)]) = H1 at s1 ht ⊢
    refine ⟨_, rfl, p, dx, _, rfl, s1 _ _ hS.at_, rm5, _, rfl, _, rfl, lw, _, rfl, s1.seq hw.at_, fun y ny => ?_⟩
    rw [cut1, ← List.map_drop]
    have s2 := same_new (o := .lst ((ws.drop 1).map V.str)) ny
    have hy := upd_same (H := H1) (a := y) (o := .lst ((ws.drop 1).map V.str))
    generalize upd H1 y (.lst ((ws.drop 1).map V.str)) = H2 at s2 hy ⊢
    refine ⟨_, rfl, _, rfl, by show 2 ≤ sizeLine; decide, fun t2 nt2 => ?_⟩
    have s3 := same_new (o := .tup [V.int 0, V.int 20]) nt2
    have ht2 := upd_same (H := H2) (a := t2) (o := .tup [V.int 0, V.int 20])
    generalize upd H2 t2 (.tup [V.int 0, V.int 20]) = H3 at s3 ht2 ⊢
    refine ⟨by show 3 ≤ sizeLine; decide, fun lb nlb => ?_⟩
    have s4 := same_new (o := .lst [V.ref t, V.ref t, V.ref t2]) nlb
    have hlb := upd_same (H := H3) (a := lb) (o := .lst [V.ref t, V.ref t, V.ref t2])
    generalize upd H3 lb (.lst [V.ref t, V.ref t, V.ref t2]) = H4 at s4 hlb ⊢
    have S4 := ((s1.trans s2).trans s3).trans s4
    have wsub : ∀ y ∈ ws.drop 1, y ∈ ws := fun y hy => List.mem_of_mem_drop hy
    refine ⟨p, dx, y, lb, _, S.pl, ws.drop 1, [t, t, t2], [nodeB S.N, nodeB S.N, (0, 20)], rfl, S4 _ _ hS.at_, rg1, rm1, SqL.of (s4 _ _ (s3 _ _ hy)), fun y hy => ⟨(hw.asc y (wsub y hy)).1, Nat.le_trans (hw.asc y (wsub y hy)).2 (by decide)⟩, by have := hw.len; rw [List.length_drop]; omega, SqL.of hlb,
      .cons (SqT.of (s4 _ _ (s3 _ _ (s2 _ _ ht)))) (.cons (SqT.of (s4 _ _ (s3 _ _ (s2 _ _ ht)))) (.cons (SqT.of (s4 _ _ ht2)) .nil)), fun ok H5 a s5 na ha => ?_, fun nok => q2 fun z => by rw [z.1] at nok; cases nok⟩
    have S5 := S4.trans s5
    obtain ⟨w0, w1, w2, w3, rfl⟩ := four (ws := ws) (by have := nums_len ok; rw [List.length_drop] at this; have e : [nodeB S.N, nodeB S.N, ((0 : Int), (20 : Int))].length = 3 := rfl; omega)
    have b1 := nums_in ok (i := 0) rfl rfl
    have b2 := nums_in ok (i := 1) rfl rfl
    have b3 := nums_in ok (i := 2) rfl rfl
    have e1 := nat_num b1.1
    have e2 := nat_num b2.1
    refine ⟨a, _, rfl, SqL.of ha, rfl, _, _, rfl, _, _, rfl, _, _, rfl, rfl, ?_⟩
    refine ⟨_, rfl, p, dx, _, rfl, S5 _ _ hS.at_, rm1, ?_⟩
    refine andS (a := !decide (nat w1 = nat w2)) (b := decide (joined S.N (nat w1) (nat w2) = none)) (fun Q h => ?_) (fun _ H6 s6 Q h => ?_) fun H6 s6 => ?_
    · refine ⟨_, rfl, _, rfl, rfl, ?_⟩
      rw [e1, e2, dec_nat]
      exact h _ (Same.refl _)
    · have S6 := S5.trans s6
      refine ⟨_, rfl, p, dx, _, rfl, S6 _ _ hS.at_, rm6, p, dx, lk, ll, le, S, rfl, hS.same S6, by have := hW.ls; have := hW.pl; omega, fun H7 np s7 nnp hN => ?_⟩
      obtain ⟨dn, mk, ml, md, mt, d1, _⟩ := id hN
      refine ⟨np, dn, _, rfl, d1, g7, _, rfl, _, rfl, np, nat w1, nat w2, S.N, by rw [← e1, ← e2]; rfl, hN, hW.dist, fun H8 s8 => ?_⟩
      refine ⟨rfl, ?_⟩
      have eo : ∀ o : Option Int, decide (optV o = V.non) = decide (o = none) := fun o => by cases o <;> rfl
      rw [eo]
      exact h _ (s6.trans (s7.trans s8))
    · have S6 := S5.trans s6
      refine ⟨p, dx, _, S.pl, _, rfl, S6 _ _ hS.at_, rg1, fun eb => ?_, fun eb => q2 fun z => ?_⟩
      · rw [Bool.and_eq_true, Bool.not_eq_true', decide_eq_false_iff_not, decide_eq_true_eq] at eb
        obtain ⟨ts, h3, h4⟩ := hS.ls
        obtain ⟨us, h5, h6⟩ := hS.es
        refine ⟨_, rfl, p, C, dx, _, _, rfl, S6 _ _ hS.at_, c.cl, c.n6, rg6, .inl ⟨rfl, _, SqL.of (S6 _ _ h3)⟩, _, rfl, _, rfl, _, rfl, by show 3 ≤ sizeLine; decide, fun t3 nt3 => ?_⟩
        have s7 := same_new (o := .tup [V.int (numI w1), V.int (numI w2), V.int (numI w3)]) nt3
        have ht3 := upd_same (H := H6) (a := t3) (o := .tup [V.int (numI w1), V.int (numI w2), V.int (numI w3)])
        generalize upd H6 t3 (.tup [V.int (numI w1), V.int (numI w2), V.int (numI w3)]) = H7 at s7 ht3 ⊢
        have S7 := S6.trans s7
        have lts : ts.length = S.N.ls.length := h4.length
        refine ⟨ll, _, _, rfl, rfl, S7 _ _ h3, szl (by rw [List.length_map, lts]; have := hW.ls; have := hW.pl; omega), ?_⟩
        have pll : p ≠ ll := (ne_of h3 hS.at_ (by intro z; cases z)).symm
        have t3o : t3 ∉ [p, lk, ll, le] := fun hm => by
          have : ∃ o, H6 t3 = some o := by
            rcases List.mem_cons.mp hm with e | hm
            · exact ⟨_, by rw [e]; exact S6 _ _ hS.at_⟩
            rcases List.mem_cons.mp hm with e | hm
            · exact ⟨_, by rw [e]; exact S6 _ _ hS.ks⟩
            rcases List.mem_cons.mp hm with e | hm
            · exact ⟨_, by rw [e]; exact S6 _ _ h3⟩
            rw [List.mem_singleton.mp hm]
            exact ⟨_, S6 _ _ h5⟩
          obtain ⟨o, e⟩ := this
          rw [nt3] at e
          cases e
        have mll : ll ∈ [p, lk, ll, le] := by simp
        have K1 : Same (hid [p, lk, ll, le] H) (upd H7 ll (.lst (ts.map V.ref ++ [V.ref t3]))) := hid_upd (hid_of S7) mll
        refine q1 ⟨ok, eb.1, eb.2⟩ _ K1 ⟨by rw [upd_ne pll]; exact S7 _ _ hS.at_, by rw [upd_ne hS.n1]; exact S7 _ _ hS.ks, ⟨ts ++ [t3], by rw [upd_same, List.map_append]; rfl, LinesAt.snoc (h4.same (hid_keep K1)) (SqT.of ?_)⟩, ⟨us, by rw [upd_ne hS.n3.symm]; exact S7 _ _ h5, h6.same (hid_keep K1)⟩, hS.n1, hS.n2, hS.n3⟩
        have t3l : t3 ≠ ll := fun z => t3o (by rw [z]; exact mll)
        rw [hid_out t3o, upd_ne t3l, ht3]
        show some (HO.tup [V.int (numI w1), V.int (numI w2), V.int (numI w3)]) = some (HO.tup [V.int ((nat w1 : Nat) : Int), V.int ((nat w2 : Nat) : Int), V.int (numI w3)])
        rw [← e1, ← e2]
      · obtain ⟨_, z1, z2⟩ := z
        have z1 : nat w1 ≠ nat w2 := z1
        have z2 : joined S.N (nat w1) (nat w2) = none := z2
        rw [decide_eq_false z1, decide_eq_true z2] at eb
        cases eb
end
end My
namespace My
open PySem PySem.Spec PyProof.Rows L2
abbrev sRStr : Stmt := inClass sReader 4 /-Reader.read_stream-/
theorem bnds_rep {K : PySem.W.Frag} {H : Hp} {t : Addr} {b : Int × Int} (h : SqT K H t [.int b.1, .int b.2]) : ∀ n : Nat, BndsAt K H (List.replicate n t) (List.replicate n b)
  | 0 => .nil
  | n + 1 => .cons h (bnds_rep h n)
theorem rep_refs (n : Nat) (t : Addr) : (List.replicate n [V.ref t]).flatten = (List.replicate n t).map V.ref := by rw [rep_flat, List.map_replicate]
theorem nats_of {ws : List Str} (h : ∀ y ∈ ws, 0 ≤ numI y) : (ws.map numI).map V.int = natsV (ws.map nat) := by
  unfold natsV
  rw [List.map_map, List.map_map]
  refine List.map_congr_left fun y hy => ?_
  show V.int (numI y) = V.int ((nat y : Nat) : Int)
  rw [← nat_num (h y hy)]
section
variable {P : Program} {w : World} {K : PySem.W.Frag} {mg : Str → Option Value} {base : Heap}
theorem scRStr : FnScope ["self", "words", "period", "length", "deadline", "nodes", "path", "offsets"] ["self", "words"] (defScope sRStr) := ⟨rfl, rfl, rfl, by decide +kernel, rfl, by decide +kernel, by decide +kernel⟩
-- ["self", "words", "period", "length", "deadline", "nodes", "path", "offsets"]
def spRStr (K : PySem.W.Frag) (C CN C2 : Addr) (XX : Bool) (CE : Addr) : Sp := fun vs H Q E => ∃ (p dx lk ll le lw : Addr) (S : RdD) (ws : List Str), vs = [.ref p, .ref lw] ∧ RdAt K C C2 H p dx lk ll le S ∧ RdW S ∧ WsAt K H lw ws ∧
  (strOk S ws → ∀ H', Same (hid [p, lk, ll, le] H) H' → RdAt K C C2 H' p dx lk ll le ⟨S.pl, S.pv, S.N, S.es ++ [entOf ws]⟩ → Q .non H') ∧ (¬ strOk S ws → Bad XX CE S.pl E)
theorem ok_rstr {f C CN C2 CE fC fM fN fS fI : Addr} {fd fdC fdM fdN fdS fdI : FuncData} {XX : Bool} {k : Nat} (F : Fun K "read_stream" "Reader.read_stream" sRStr f fd) (c : RdC K C) (T : Blt mg) (mC : Meth K C "check" fC) (GC : MethX P w K mg base 3 ["self", "holds"] (spCheck C XX CE) fC fdC)
    (mM : Meth K C "read_numbers" fM) (GM : MethX P w K mg base 4 ["self", "words", "bounds"] (spNums K C XX CE) fM fdM) (mN : Meth K C "net_so_far" fN) (GN : MethOf P w K mg base 3 ["self"] (spNsf K C CN C2) fN fdN) (GI : Callee P w K mg base 2 "is_path" ["net", "nodes"] (spIs K CN) fI fdI) (GS : StrMk P w K mg base C2 fS fdS) :
    FnOk P w K mg base (L2.CX P w) (k + 5) f fd ["self", "words"] (spRStr K C CN C2 XX CE) := by
  refine F.okX scRStr (fun vs H Q E h => ?_) (fun cdv A0 outer s0 H vs Q E hr h => ?_)
  · obtain ⟨p, dx, lk, ll, le, lw, S, ws, rfl, _⟩ := h
    rfl
  · obtain ⟨p, dx, lk, ll, le, lw, S, ws, rfl, hS, hW, hw, q1, q2⟩ := h
    have nd := scRStr.nd
    have hr2 : Room 2 _ := hr.mono (by omega)
    have hr3 : Room 3 _ := hr.mono (by omega)
    have hr4 : Room 4 _ := hr.mono (by omega)
    refine ⟨_, pss_cons (ps_expr (pe_meth (pv 0) c.cl mC GC.ok hr3 GC.b .nil (passE (takes_of rfl rfl rfl rfl)) (pa_cons (pe_cmpR op_eq (pe_callB call_len_seq (by rfl) T.len PySem.boot_len (pa_cons (pv 1) pa_nil)) pe_int (nomark _)) pa_nil))) <| pss_cons (ps_asg (pe_meth (pv 0) c.cl mM GM.ok hr4 GM.b .nil (passE (takes_of rfl rfl rfl rfl)) (pa_cons (pe_slice sl_list (pv 1) (po_some pe_int) (po_some pe_int)) (pa_cons (pe_lst (pa_cons (pe_tup (pa_cons pe_int (pa_cons pe_int pa_nil))) (pa_cons (pe_tup (pa_cons pe_int (pa_cons pe_int pa_nil))) (pa_cons (pe_tup (pa_cons pe_int (pa_cons pe_int pa_nil))) pa_nil)))) pa_nil))) (pg_lst rfl (pgs_cons (pg_name (i := 2) nd rfl (.inl rfl)) (pgs_cons (pg_name (i := 3) nd rfl (.inl rfl)) (pgs_cons (pg_name (i := 4) nd rfl (.inl rfl)) pgs_nil))))) <| pss_cons (ps_expr (pe_meth (pv 0) c.cl mC GC.ok hr3 GC.b .nil (passE (takes_of rfl rfl rfl rfl)) (pa_cons (pe_cmpR op_le (pv 3) (pv 2) (nomark _)) pa_nil))) <| pss_cons (ps_set (i := 5) nd rfl (.inl rfl) (pe_split (pe_ix ix_list (pv 1) pe_int (fun _ _ => rfl)) pe_str)) <| pss_cons (ps_set (i := 6) nd rfl (.inl rfl) (pe_meth (pv 0) c.cl mM GM.ok hr4 GM.b .nil (passE (takes_of rfl rfl rfl rfl)) (pa_cons (pv 5) (pa_cons (pe_op op_rep (pe_lst (pa_cons (pe_tup (pa_cons pe_int (pa_cons (pe_op op_sub (pe_callB call_len_seq (by rfl) T.len PySem.boot_len (pa_cons (pe_fld (pv 0) rfl) pa_nil)) pe_int) pa_nil))) pa_nil)) (pe_callB call_len_seq (by rfl) T.len PySem.boot_len (pa_cons (pv 5) pa_nil))) pa_nil)))) <| pss_cons (ps_expr (pe_meth (pv 0) c.cl mC GC.ok hr3 GC.b .nil (passE (takes_of rfl rfl rfl rfl)) (pa_cons (pe_call GI.ok hr2 (by rfl) GI.mg GI.kp GI.b .nil pass0 (pa_cons (pe_meth0 (pv 0) c.cl mN GN.ok hr3 GN.b .nil pass0) (pa_cons (pv 6) pa_nil))) pa_nil))) <| pss_cons (ps_set (i := 7) nd rfl (.inl rfl) (pe_meth (pv 0) c.cl mM GM.ok hr4 GM.b .nil (passE (takes_of rfl rfl rfl rfl)) (pa_cons (pe_split (pe_ix ix_list (pv 1) pe_int (fun _ _ => rfl)) pe_str) (pa_cons (pe_op op_rep (pe_lst (pa_cons (pe_tup (pa_cons pe_int (pa_cons pe_int pa_nil))) pa_nil)) (pe_op op_sub (pe_callB call_len_seq (by rfl) T.len PySem.boot_len (pa_cons (pv 6) pa_nil)) pe_int)) pa_nil)))) <| pss_one (ps_expr (pe_bm PySem.F.plainAttrs_list PySem.F.slot_list_append PySem.F.type_list_append mt_append (pe_fld (pv 0) rfl) (pa_cons (pe_tup (pa_cons (pe_make GS.mkC GS.ok hr2 (by rfl) GS.mg GS.b .nil pass0 (pa_cons (pv 2) (pa_cons (pv 3) (pa_cons (pv 4) (pa_cons (pv 6) pa_nil))))) (pa_cons (pv 7) pa_nil))) pa_nil))), ?_⟩
    refine ⟨_, rfl, p, dx, _, rfl, hS.at_, rm1, _, rfl, lw, _, rfl, .inl hw.at_, rfl, ?_⟩
    have elen : decide (V.int ((ws.map V.str).length : Int) = V.int 6) = decide (ws.length = 6) := by
      rw [List.length_map]
      exact dec_nat ws.length 6
    rw [elen]
    refine ⟨p, dx, _, S.pl, _, rfl, hS.at_, rg1, fun eb => ?_, fun eb => q2 fun z => by rw [decide_eq_true z.1] at eb; cases eb⟩
    have l6 := of_decide_eq_true eb
    obtain ⟨w0, w1, w2, w3, w4, w5, rfl⟩ := six l6
    refine ⟨_, rfl, p, dx, _, rfl, hS.at_, rm5, _, rfl, _, rfl, _, rfl, lw, _, rfl, hw.at_, fun y ny => ?_⟩
    have ecut : cutV ([w0, w1, w2, w3, w4, w5].map V.str) (some 1) (some 4) = [w1, w2, w3].map V.str := rfl
    rw [ecut]
    have s1 := same_new (o := .lst ([w1, w2, w3].map V.str)) ny
    have hy := upd_same (H := H) (a := y) (o := .lst ([w1, w2, w3].map V.str))
    generalize upd H y (.lst ([w1, w2, w3].map V.str)) = H1 at s1 hy ⊢
    refine ⟨by show 2 ≤ sizeLine; decide, fun t1 nt1 => ⟨by show 2 ≤ sizeLine; decide, fun t2 nt2 => ⟨by show 2 ≤ sizeLine; decide, fun t3 nt3 => ?_⟩⟩⟩
    have s2 := same_new (o := .tup [V.int 1, V.int 60]) nt1
    have ht1 := upd_same (H := H1) (a := t1) (o := .tup [V.int 1, V.int 60])
    generalize upd H1 t1 (.tup [V.int 1, V.int 60]) = H2 at s2 ht1 nt2 nt3 ⊢
    have s3 := same_new (o := .tup [V.int 1, V.int 60]) nt2
    have ht2 := upd_same (H := H2) (a := t2) (o := .tup [V.int 1, V.int 60])
    generalize upd H2 t2 (.tup [V.int 1, V.int 60]) = H3 at s3 ht2 nt3 ⊢
    have s4 := same_new (o := .tup [V.int 1, V.int 300]) nt3
    have ht3 := upd_same (H := H3) (a := t3) (o := .tup [V.int 1, V.int 300])
    generalize upd H3 t3 (.tup [V.int 1, V.int 300]) = H4 at s4 ht3 ⊢
    refine ⟨by show 3 ≤ sizeLine; decide, fun lb nlb => ?_⟩
    have s5 := same_new (o := .lst [V.ref t1, V.ref t2, V.ref t3]) nlb
    have hlb := upd_same (H := H4) (a := lb) (o := .lst [V.ref t1, V.ref t2, V.ref t3])
    generalize upd H4 lb (.lst [V.ref t1, V.ref t2, V.ref t3]) = H5 at s5 hlb ⊢
    have S5 := (((s1.trans s2).trans s3).trans s4).trans s5
    have asc : ∀ y ∈ [w1, w2, w3], Asc y ∧ y.length ≤ 640 := fun y hy => by
      have := hw.asc y (List.mem_cons_of_mem _ (List.mem_append_left [w4, w5] hy))
      exact ⟨this.1, Nat.le_trans this.2 (by decide)⟩
    refine ⟨p, dx, y, lb, _, S.pl, [w1, w2, w3], [t1, t2, t3], [(1, 60), (1, 60), (1, 300)], rfl, S5 _ _ hS.at_, rg1, rm1, SqL.of (s5 _ _ (s4 _ _ (s3 _ _ (s2 _ _ hy)))), asc, by show 3 ≤ 1000; decide, SqL.of hlb,
      .cons (SqT.of (s5 _ _ (s4 _ _ (s3 _ _ ht1)))) (.cons (SqT.of (s5 _ _ (s4 _ _ ht2))) (.cons (SqT.of (s5 _ _ ht3)) .nil)), fun ok H6 a s6 na ha => ?_, fun nok => q2 fun z => by have z1 : numsOk [w1, w2, w3] [(1, 60), (1, 60), (1, 300)] = true := z.2.1; rw [z1] at nok; cases nok⟩
    have S6 := S5.trans s6
    refine ⟨a, _, rfl, SqL.of ha, rfl, _, _, rfl, _, _, rfl, _, _, rfl, rfl, ?_⟩
    refine ⟨_, rfl, p, dx, _, rfl, S6 _ _ hS.at_, rm1, _, rfl, _, rfl, _, _, rfl, rfl, ?_⟩
    refine ⟨p, dx, _, S.pl, _, rfl, S6 _ _ hS.at_, rg1, fun eb2 => ?_, fun eb2 => q2 fun z => by have z1 : numI w2 ≤ numI w1 := z.2.2.1; rw [decide_eq_true z1] at eb2; cases eb2⟩
    have ole : numI w2 ≤ numI w1 := of_decide_eq_true eb2
    have g4 := hw.asc w4 (by simp)
    have g5 := hw.asc w5 (by simp)
    have c4 := cut_co w4
    have c5 := cut_co w5
    refine ⟨_, rfl, lw, _, _, _, rfl, rfl, S6.seq hw.at_, rfl, ⟨_, rfl⟩, _, _, rfl, rfl, by decide +kernel, Nat.le_trans (Nat.add_le_add_right g4.2 2) (by decide), fun z nz => ?_⟩
    have s7 := same_new (o := .lst ((Txt.split w4 ("," : Str)).map V.str)) nz
    have hz := upd_same (H := H6) (a := z) (o := .lst ((Txt.split w4 ("," : Str)).map V.str))
    generalize upd H6 z (.lst ((Txt.split w4 ("," : Str)).map V.str)) = H7 at s7 hz ⊢
    have S7 := S6.trans s7
    -- path
    refine ⟨_, rfl, p, dx, _, rfl, S7 _ _ hS.at_, rm5, _, rfl, ?_⟩
    refine ⟨_, rfl, p, C, dx, _, _, rfl, S7 _ _ hS.at_, c.cl, c.n5, rg5, lk, _, rfl, .inl (SqL.of (S7 _ _ hS.ks)), _, _, rfl, rfl, by show 2 ≤ sizeLine; decide, fun u1 nu1 => ?_⟩
    rw [List.length_map]
    have s8 := same_new (o := .tup [V.int 0, V.int ((S.N.ks.length : Int) - 1)]) nu1
    have hu1 := upd_same (H := H7) (a := u1) (o := .tup [V.int 0, V.int ((S.N.ks.length : Int) - 1)])
    generalize upd H7 u1 (.tup [V.int 0, V.int ((S.N.ks.length : Int) - 1)]) = H8 at s8 hu1 ⊢
    refine ⟨by show 1 ≤ sizeLine; decide, fun u2 nu2 => ?_⟩
    have s9 := same_new (o := .lst [V.ref u1]) nu2
    have hu2 := upd_same (H := H8) (a := u2) (o := .lst [V.ref u1])
    generalize upd H8 u2 (.lst [V.ref u1]) = H9 at s9 hu2 ⊢
    have l4 := c4.cnt
    have hz9 := s9 _ _ (s8 _ _ hz)
    have S9 := (S7.trans s8).trans s9
    refine ⟨_, rfl, z, _, rfl, .inl (SqL.of hz9), u2, _, _, rfl, rfl, hu2, by rw [List.length_map]; omega, by rw [List.length_map]; omega, sz (by rw [List.length_map, List.length_singleton]; have := g4.2; omega), fun u3 nu3 => ?_⟩
    rw [List.length_map, Int.toNat_natCast, rep_refs]
    have s10 := same_new (o := .lst ((List.replicate (Txt.split w4 ("," : Str)).length u1).map V.ref)) nu3
    have hu3 := upd_same (H := H9) (a := u3) (o := .lst ((List.replicate (Txt.split w4 ("," : Str)).length u1).map V.ref))
    generalize upd H9 u3 (.lst ((List.replicate (Txt.split w4 ("," : Str)).length u1).map V.ref)) = H10 at s10 hu3 ⊢
    have S10 := S9.trans s10
    refine ⟨p, dx, z, u3, _, S.pl, Txt.split w4 ("," : Str), List.replicate (Txt.split w4 ("," : Str)).length u1, List.replicate (Txt.split w4 ("," : Str)).length (nodeB S.N), rfl, S10 _ _ hS.at_, rg1, rm1, SqL.of (s10 _ _ hz9), fun y hy => ⟨c4.asc g4.1 y hy, Nat.le_trans (c4.sub y hy).2 (Nat.le_trans g4.2 (by decide))⟩, by have := g4.2; omega, SqL.of hu3,
      bnds_rep (SqT.of (s10 _ _ (s9 _ _ hu1))) _, fun ok4 H11 pa s11 npa hpa => ?_, fun nok => q2 fun z => by have z1 : numsOk (Txt.split w4 ("," : Str)) (List.replicate (Txt.split w4 ("," : Str)).length (nodeB S.N)) = true := z.2.2.2.1; rw [z1] at nok; cases nok⟩
    have S11 := S10.trans s11
    have b4 : ∀ y ∈ Txt.split w4 ("," : Str), 0 ≤ numI y ∧ numI y ≤ (S.N.ks.length : Int) - 1 := fun y hy => by
      obtain ⟨i, hi⟩ := List.getElem?_of_mem hy
      have il := (List.getElem?_eq_some_iff.mp hi).1
      exact nums_in ok4 hi (b := nodeB S.N) (by rw [List.getElem?_replicate, if_pos il])
    rw [nats_of fun y hy => (b4 y hy).1] at hpa
    -- is_path
    refine ⟨_, rfl, p, dx, _, rfl, S11 _ _ hS.at_, rm1, ?_⟩
    refine ⟨_, rfl, p, dx, _, rfl, S11 _ _ hS.at_, rm6, p, dx, lk, ll, le, S, rfl, hS.same S11, by have := hW.ls; have := hW.pl; omega, fun H12 np s12 nnp hN => ?_⟩
    have S12 := S11.trans s12
    refine ⟨_, rfl, np, pa, (Txt.split w4 ("," : Str)).map nat, S.N, rfl, hN, hW.dist, s12 _ _ hpa, fun x hx => ?_, by rw [List.length_map]; have := g4.2; omega, fun b H13 s13 hb => ?_⟩
    · obtain ⟨y, hy, rfl⟩ := List.mem_map.mp hx
      have := b4 y hy
      unfold nat
      omega
    have S13 := S12.trans s13
    refine ⟨p, dx, _, S.pl, b, rfl, S13 _ _ hS.at_, rg1, fun eb3 => ?_, fun eb3 => q2 fun z => by have z1 : IsP S.N ((Txt.split w4 ("," : Str)).map nat) := z.2.2.2.2.1; rw [hb.mpr z1] at eb3; cases eb3⟩
    have isp := hb.mp eb3
    have hpa13 := s13 _ _ (s12 _ _ hpa)
    -- offsets
    refine ⟨_, rfl, p, dx, _, rfl, S13 _ _ hS.at_, rm5, _, rfl, lw, _, _, _, rfl, rfl, S13.seq hw.at_, rfl, ⟨_, rfl⟩, _, _, rfl, rfl, by decide +kernel, Nat.le_trans (Nat.add_le_add_right g5.2 2) (by decide), fun v nv => ?_⟩
    have s14 := same_new (o := .lst ((Txt.split w5 ("," : Str)).map V.str)) nv
    have hv := upd_same (H := H13) (a := v) (o := .lst ((Txt.split w5 ("," : Str)).map V.str))
    generalize upd H13 v (.lst ((Txt.split w5 ("," : Str)).map V.str)) = H14 at s14 hv ⊢
    refine ⟨by show 2 ≤ sizeLine; decide, fun u4 nu4 => ?_⟩
    have s15 := same_new (o := .tup [V.int 0, V.int 500]) nu4
    have hu4 := upd_same (H := H14) (a := u4) (o := .tup [V.int 0, V.int 500])
    generalize upd H14 u4 (.tup [V.int 0, V.int 500]) = H15 at s15 hu4 ⊢
    refine ⟨by show 1 ≤ sizeLine; decide, fun u5 nu5 => ?_⟩
    have s16 := same_new (o := .lst [V.ref u4]) nu5
    have hu5 := upd_same (H := H15) (a := u5) (o := .lst [V.ref u4])
    generalize upd H15 u5 (.lst [V.ref u4]) = H16 at s16 hu5 ⊢
    have S16 := ((S13.trans s14).trans s15).trans s16
    have hpa16 := s16 _ _ (s15 _ _ (s14 _ _ hpa13))
    have lr : (natsV ((Txt.split w4 ("," : Str)).map nat)).length = (Txt.split w4 ("," : Str)).length := by rw [natsV_len, List.length_map]
    have two : 2 ≤ (Txt.split w4 ("," : Str)).length := by have := isp.two; rw [List.length_map] at this; exact this
    refine ⟨_, rfl, pa, _, rfl, .inl (SqL.of hpa16), _, _, rfl, rfl, u5, _, _, rfl, rfl, hu5, by rw [lr]; omega, by rw [lr]; have := g4.2; omega, sz (by rw [lr, List.length_singleton]; have := g4.2; omega), fun u6 nu6 => ?_⟩
    have en : (((natsV ((Txt.split w4 ("," : Str)).map nat)).length : Int) - 1).toNat = ((Txt.split w4 ("," : Str)).map nat).length - 1 := by
      rw [lr, List.length_map]
      omega
    rw [en, rep_refs]
    have s17 := same_new (o := .lst ((List.replicate (((Txt.split w4 ("," : Str)).map nat).length - 1) u4).map V.ref)) nu6
    have hu6 := upd_same (H := H16) (a := u6) (o := .lst ((List.replicate (((Txt.split w4 ("," : Str)).map nat).length - 1) u4).map V.ref))
    generalize upd H16 u6 (.lst ((List.replicate (((Txt.split w4 ("," : Str)).map nat).length - 1) u4).map V.ref)) = H17 at s17 hu6 ⊢
    have S17 := S16.trans s17
    have l5 := c5.cnt
    refine ⟨p, dx, v, u6, _, S.pl, Txt.split w5 ("," : Str), List.replicate (((Txt.split w4 ("," : Str)).map nat).length - 1) u4, List.replicate (((Txt.split w4 ("," : Str)).map nat).length - 1) (0, 500), rfl, S17 _ _ hS.at_, rg1, rm1, SqL.of (s17 _ _ (s16 _ _ (s15 _ _ hv))), fun y hy => ⟨c5.asc g5.1 y hy, Nat.le_trans (c5.sub y hy).2 (Nat.le_trans g5.2 (by decide))⟩, by have := g5.2; omega, SqL.of hu6,
      bnds_rep (b := (0, 500)) (SqT.of (s17 _ _ (s16 _ _ hu4))) _, fun ok5 H18 pb s18 npb hpb => ?_, fun nok => q2 fun z => by have z1 : numsOk (Txt.split w5 ("," : Str)) (List.replicate (((Txt.split w4 ("," : Str)).map nat).length - 1) (0, 500)) = true := z.2.2.2.2.2; rw [z1] at nok; cases nok⟩
    have S18 := S17.trans s18
    have hpa18 := s18 _ _ (s17 _ _ hpa16)
    obtain ⟨ts, h3, h4⟩ := hS.ls
    obtain ⟨us, h5, h6⟩ := hS.es
    refine ⟨_, rfl, p, C, dx, _, _, rfl, S18 _ _ hS.at_, c.cl, c.n7, rg7, .inl ⟨rfl, _, SqL.of (S18 _ _ h5)⟩, ?_⟩
    refine ⟨_, rfl, _, rfl, _, rfl, _, rfl, fun x dy nx ndy ne => ?_⟩
    have sm := same_make0 (o1 := .own x) (o2 := .ins C2 dy []) nx ndy
    refine ⟨x, dy, pa, (entOf [w0, w1, w2, w3, w4, w5]).s, rfl, upd_same, SqL.of (sm _ _ hpa18), fun H19 kb hSt => ⟨rfl, ?_⟩⟩
    have s19 := same_make nx ndy kb
    have S19 := S18.trans s19
    refine ⟨_, rfl, by show 2 ≤ sizeLine; decide, fun t9 nt9 => ?_⟩
    have hpb19 := s19 _ _ hpb
    obtain ⟨dq, lp, st1, st2, nlp⟩ := hSt
    have ox := (hS.same S18).out nx
    have ob := (hS.same S17).out npb
    have ot := (hS.same S19).out nt9
    have ol := (hS.same (S18.trans sm)).out nlp
    have s20 := same_new (o := .tup [V.ref x, V.ref pb]) nt9
    have ht9 := upd_same (H := H19) (a := t9) (o := .tup [V.ref x, V.ref pb])
    have S20 := S19.trans s20
    have x20 := s20 _ _ st1
    have l20 := s20 _ _ st2
    have b20 := s20 _ _ hpb19
    generalize upd H19 t9 (.tup [V.ref x, V.ref pb]) = H20 at s20 ht9 S20 x20 l20 b20 ⊢
    have lus : us.length = S.es.length := h6.length
    refine ⟨le, _, _, rfl, rfl, S20 _ _ h5, szl (by rw [List.length_map, lus]; have := hW.es; have := hW.pl; omega), ?_⟩
    have mle : le ∈ [p, lk, ll, le] := by simp
    have ple : p ≠ le := (ne_of h5 hS.at_ (by intro z; cases z)).symm
    have K1 : Same (hid [p, lk, ll, le] H) (upd H20 le (.lst (us.map V.ref ++ [V.ref t9]))) := hid_upd (hid_of S20) mle
    have oo : ∀ {a : Addr} {o : HO}, a ∉ [p, lk, ll, le] → H20 a = some o → hid [p, lk, ll, le] (upd H20 le (.lst (us.map V.ref ++ [V.ref t9]))) a = some o := fun {a o} n e => by
      rw [hid_out n, upd_ne (fun z => n (by rw [z]; exact mle))]
      exact e
    exact q1 ⟨l6, ok, ole, ok4, isp, ok5⟩ _ K1 ⟨by rw [upd_ne ple]; exact S20 _ _ hS.at_, by rw [upd_ne hS.n2]; exact S20 _ _ hS.ks, ⟨ts, by rw [upd_ne hS.n3]; exact S20 _ _ h3, h4.same (hid_keep K1)⟩,
      ⟨us ++ [t9], by rw [upd_same, List.map_append]; rfl, Paired.snoc ⟨x, pb, oo ot ht9, ⟨dq, lp, oo ox x20, oo ol l20⟩, oo ob b20⟩ (h6.same (hid_keep K1))⟩, hS.n1, hS.n2, hS.n3⟩
end
end My
namespace My
open PySem PySem.Spec PyProof.Rows L2
abbrev sRLine : Stmt := inClass sReader 2 /-Reader.read_line-/
theorem Reads.place {S A : RdD} {l : Str} (h : Reads S l A) : okPlace (wd (Txt.split l (" " : Str)) 0) S.pv = true := by cases h <;> assumption
theorem Reads.net_ok {S A : RdD} {l : Str} (h : Reads S l A) (k : wd (Txt.split l (" " : Str)) 0 = ("net" : Str)) : numsOk ((Txt.split l (" " : Str)).drop 1) [(0, 10), (0, 5)] = true := by
  cases h with
  | net h k' o => exact o
  | line h k' => exact absurd (k.symm.trans k') nl_ne
  | stream h k' => exact absurd (k.symm.trans k') ns_ne
  | node b h k' => exact absurd (k'.symm.trans k) (kd_ne b).1
theorem Reads.line_ok {S A : RdD} {l : Str} (h : Reads S l A) (k : wd (Txt.split l (" " : Str)) 0 = ("line" : Str)) : lineOk S (Txt.split l (" " : Str)) := by
  cases h with
  | net h k' => exact absurd (k'.symm.trans k) nl_ne
  | line h k' o => exact o
  | stream h k' => exact absurd (k.symm.trans k') ls_ne
  | node b h k' => exact absurd (k'.symm.trans k) (kd_ne b).2.1
theorem Reads.str_ok {S A : RdD} {l : Str} (h : Reads S l A) (k : wd (Txt.split l (" " : Str)) 0 = ("stream" : Str)) : strOk S (Txt.split l (" " : Str)) := by
  cases h with
  | net h k' => exact absurd (k'.symm.trans k) ns_ne
  | line h k' => exact absurd (k'.symm.trans k) ls_ne
  | stream h k' o => exact o
  | node b h k' => exact absurd (k'.symm.trans k) (kd_ne b).2.2
theorem Reads.node_ok {S A : RdD} {l : Str} (h : Reads S l A) (k1 : wd (Txt.split l (" " : Str)) 0 ≠ ("net" : Str)) (k2 : wd (Txt.split l (" " : Str)) 0 ≠ ("line" : Str)) (k3 : wd (Txt.split l (" " : Str)) 0 ≠ ("stream" : Str)) : (Txt.split l (" " : Str)).length = 1 ∧ S.N.ks.length < 12 := by
  cases h with
  | net h k' => exact absurd k' k1
  | line h k' => exact absurd k' k2
  | stream h k' => exact absurd k' k3
  | node b h k' o1 o2 => exact ⟨o1, o2⟩
theorem kind_of {k pv : Str} (h : okPlace k pv = true) (k1 : k ≠ ("net" : Str)) (k2 : k ≠ ("line" : Str)) (k3 : k ≠ ("stream" : Str)) : ∃ b, k = kdT b := by
  unfold okPlace befores at h
  rw [if_neg k1] at h
  by_cases z : k = ("host" : Str)
  · exact ⟨true, z⟩
  · rw [if_neg z] at h
    by_cases z : k = ("switch" : Str)
    · exact ⟨false, z⟩
    · rw [if_neg z, if_neg k2, if_neg k3] at h
      cases h
/-- the global PLACES -/
structure PlC (K : PySem.W.Frag) (w : World) (mg : Str → Option Value) (D : Addr) (es : Array DictEntry) (n : Nat) : Prop where
  mg : mg "PLACES" = some (.ref D)
  kd : KDict K w D es n
  none' : ∀ z, befores z = none → PySem.W.nsIn K D z = some none
  some' : ∀ z l, befores z = some l → ∃ t : Addr, PySem.W.nsIn K D z = some (some (.ref t)) ∧ ∀ H : Hp, SqT K H t (l.map V.str)
theorem inV_strs (x : Str) (l : List Str) : inV (.str x) (l.map V.str) = l.contains x := by
  unfold inV
  rw [List.any_map, List.contains_eq_any_beq]
  congr 1
  funext y
  show (y == x) = (x == y)
  rw [Bool.eq_iff_iff, beq_iff_eq, beq_iff_eq]
  exact eq_comm
theorem flat_strs (l : List Str) : (l.map V.str).all flatV = true := by
  rw [List.all_eq_true]
  intro x hx
  obtain ⟨y, _, rfl⟩ := List.mem_map.mp hx
  rfl
theorem rd_pr {at' : Int} {pv : Str} {pr er a : Int} {lk ll le : Addr} : putF "processing" (.int a) (rdF at' pv pr er lk ll le) = rdF at' pv a er lk ll le := rfl
theorem rd_er {at' : Int} {pv : Str} {pr er a : Int} {lk ll le : Addr} : putF "error" (.int a) (rdF at' pv pr er lk ll le) = rdF at' pv pr a lk ll le := rfl
theorem rd_pv {at' : Int} {pv z : Str} {pr er : Int} {lk ll le : Addr} : putF "previous" (.str z) (rdF at' pv pr er lk ll le) = rdF at' z pr er lk ll le := rfl
theorem rd_pl {at' a : Int} {pv : Str} {pr er : Int} {lk ll le : Addr} : putF "place" (.int a) (rdF at' pv pr er lk ll le) = rdF a pv pr er lk ll le := rfl
theorem wd_at {K : PySem.W.Frag} {x : Str} {ps : List Str} (h : Cut1 x ps) : atI (ps.map V.str) (0 : Int) = some (.str (wd ps 0)) := by
  cases ps with
  | nil => exact absurd rfl h.ne
  | cons a r => exact atI_nat (j := 0) rfl
/-- other numbers and texts of the reader -/
theorem RdAt.put {K : PySem.W.Frag} {C C2 : Addr} {H : Hp} {p dx lk ll le : Addr} {S : RdD} (h : RdAt K C C2 H p dx lk ll le S) (S' : RdD) (q1 : S'.N.ks = S.N.ks) (q2 : S'.N.ls = S.N.ls) (q3 : S'.es = S.es) (o : HO) :
    RdAt K C C2 (upd (upd H p o) p (.ins C dx (rdF (S'.pl : Int) S'.pv S'.N.pr S'.N.er lk ll le))) p dx lk ll le S' ∧ Same (hid [p, lk, ll, le] H) (upd (upd H p o) p (.ins C dx (rdF (S'.pl : Int) S'.pv S'.N.pr S'.N.er lk ll le))) := by
  have mp : p ∈ [p, lk, ll, le] := List.mem_cons_self
  have K1 : Same (hid [p, lk, ll, le] H) (upd (upd H p o) p (.ins C dx (rdF (S'.pl : Int) S'.pv S'.N.pr S'.N.er lk ll le))) := hid_upd (hid_upd hid_same mp) mp
  obtain ⟨ts, h3, h4⟩ := h.ls
  obtain ⟨us, h5, h6⟩ := h.es
  have e1 : lk ≠ p := ne_of h.ks h.at_ (by intro z; cases z)
  have e2 : ll ≠ p := ne_of h3 h.at_ (by intro z; cases z)
  have e3 : le ≠ p := ne_of h5 h.at_ (by intro z; cases z)
  exact ⟨⟨upd_same, by rw [upd_ne e1, upd_ne e1, q1]; exact h.ks, ⟨ts, by rw [upd_ne e2, upd_ne e2]; exact h3, by rw [q2]; exact h4.same (hid_keep K1)⟩, ⟨us, by rw [upd_ne e3, upd_ne e3]; exact h5, by rw [q3]; exact h6.same (hid_keep K1)⟩, h.n1, h.n2, h.n3⟩, K1⟩
section
variable {P : Program} {w : World} {K : PySem.W.Frag} {mg : Str → Option Value} {base : Heap}
theorem scRLine : FnScope ["self", "line", "words", "kind"] ["self", "line"] (defScope sRLine) := ⟨rfl, rfl, rfl, by decide +kernel, rfl, by decide +kernel, by decide +kernel⟩
-- ["self", "line", "words", "kind"]
def spRLine (K : PySem.W.Frag) (C CN C2 : Addr) (XX : Bool) (CE : Addr) : Sp := fun vs H Q E => ∃ (p dx lk ll le : Addr) (S : RdD) (l : Str), vs = [.ref p, .str l] ∧ RdAt K C C2 H p dx lk ll le S ∧ RdW S ∧ Asc l ∧ l.length ≤ 250 ∧
  (∀ S', Reads S l S' → ∀ H', Same (hid [p, lk, ll, le] H) H' → RdAt K C C2 H' p dx lk ll le S' → Q .non H') ∧ ((∀ S', ¬ Reads S l S') → Bad XX CE S.pl E)
theorem ok_rline {f C CN C2 CE fC fM fL fS D : Addr} {fd fdC fdM fdL fdS : FuncData} {XX : Bool} {des : Array DictEntry} {dn : Nat} {k : Nat} (F : Fun K "read_line" "Reader.read_line" sRLine f fd) (c : RdC K C) (T : Blt mg) (pl : PlC K w mg D des dn) (mC : Meth K C "check" fC) (GC : MethX P w K mg base 3 ["self", "holds"] (spCheck C XX CE) fC fdC)
    (mM : Meth K C "read_numbers" fM) (GM : MethX P w K mg base 4 ["self", "words", "bounds"] (spNums K C XX CE) fM fdM) (mL : Meth K C "read_net_line" fL) (GL : MethX P w K mg base 5 ["self", "words"] (spNLine K C CN C2 XX CE) fL fdL) (mS : Meth K C "read_stream" fS) (GS : MethX P w K mg base 5 ["self", "words"] (spRStr K C CN C2 XX CE) fS fdS) :
    FnOk P w K mg base (L2.CX P w) (k + 6) f fd ["self", "line"] (spRLine K C CN C2 XX CE) := by
  refine F.okX scRLine (fun vs H Q E h => ?_) (fun cdv A0 outer s0 H vs Q E hr h => ?_)
  · obtain ⟨p, dx, lk, ll, le, S, l, rfl, _⟩ := h
    rfl
  · obtain ⟨p, dx, lk, ll, le, S, l, rfl, hS, hW, hl1, hl2, q1, q2⟩ := h
    have nd := scRLine.nd
    have hr3 : Room 3 _ := hr.mono (by omega)
    have hr4 : Room 4 _ := hr.mono (by omega)
    have hr5 : Room 5 _ := hr.mono (by omega)
    refine ⟨_, pss_cons (ps_set (i := 2) nd rfl (.inl rfl) (pe_split (pv 1) pe_str)) <| pss_cons (ps_set (i := 3) nd rfl (.inl rfl) (pe_ix ix_list (pv 2) pe_int (fun _ _ => rfl))) <| pss_cons (ps_expr (pe_meth (pv 0) c.cl mC GC.ok hr3 GC.b .nil (passE (takes_of rfl rfl rfl rfl)) (pa_cons (pe_and (pe_cmpR (op_in_kd pl.kd) (pv 3) (pe_glob (v := .ref D) (by rfl) pl.mg rfl (by decide)) rfl) (pe_one (pe_cmpR op_in_seq (pe_fld (pv 0) rfl) (pe_ix ix_kdict (pe_glob (v := .ref D) (by rfl) pl.mg rfl (by decide)) (pv 3) (fun _ _ => rfl)) rfl))) pa_nil))) <| pss_cons (ps_if (pt_cmpR op_eq (pv 3) pe_str (nomark _)) (pss_one (ps_asg (pe_meth (pv 0) c.cl mM GM.ok hr4 GM.b .nil (passE (takes_of rfl rfl rfl rfl)) (pa_cons (pe_slice sl_list (pv 2) (po_some pe_int) po_none) (pa_cons (pe_lst (pa_cons (pe_tup (pa_cons pe_int (pa_cons pe_int pa_nil))) (pa_cons (pe_tup (pa_cons pe_int (pa_cons pe_int pa_nil))) pa_nil))) pa_nil))) (pg_lst rfl (pgs_cons (pg_att (pv 0)) (pgs_cons (pg_att (pv 0)) pgs_nil))))) (pss_one (ps_if (pt_cmpR op_eq (pv 3) pe_str (nomark _)) (pss_one (ps_expr (pe_meth (pv 0) c.cl mL GL.ok hr5 GL.b .nil (passE (takes_of rfl rfl rfl rfl)) (pa_cons (pv 2) pa_nil)))) (pss_one (ps_if (pt_cmpR op_eq (pv 3) pe_str (nomark _)) (pss_one (ps_expr (pe_meth (pv 0) c.cl mS GS.ok hr5 GS.b .nil (passE (takes_of rfl rfl rfl rfl)) (pa_cons (pv 2) pa_nil)))) (pss_cons (ps_expr (pe_meth (pv 0) c.cl mC GC.ok hr3 GC.b .nil (passE (takes_of rfl rfl rfl rfl)) (pa_cons (pe_and (pe_cmpR op_eq (pe_callB call_len_seq (by rfl) T.len PySem.boot_len (pa_cons (pv 2) pa_nil)) pe_int (nomark _)) (pe_one (pe_cmpR op_lt (pe_callB call_len_seq (by rfl) T.len PySem.boot_len (pa_cons (pe_fld (pv 0) rfl) pa_nil)) pe_int (nomark _)))) pa_nil))) <| pss_one (ps_expr (pe_bm PySem.F.plainAttrs_list PySem.F.slot_list_append PySem.F.type_list_append mt_append (pe_fld (pv 0) rfl) (pa_cons (pv 3) pa_nil))))))))) <| pss_cons (ps_fld (pv 0) (pv 3) rfl) <| pss_one (ps_fldaug (pv 0) pe_int in_add), ?_⟩
    have cs := cut_sp l
    refine ⟨_, rfl, ⟨_, rfl⟩, _, _, rfl, rfl, by decide +kernel, Nat.le_trans (Nat.add_le_add_right hl2 2) (by decide), fun lw nlw => ?_⟩
    have s1 := same_new (o := .lst ((Txt.split l (" " : Str)).map V.str)) nlw
    have hlw := upd_same (H := H) (a := lw) (o := .lst ((Txt.split l (" " : Str)).map V.str))
    generalize upd H lw (.lst ((Txt.split l (" " : Str)).map V.str)) = H1 at s1 hlw ⊢
    have hw : WsAt K H1 lw (Txt.split l (" " : Str)) := ⟨SqL.of hlw, fun y hy => ⟨cs.asc hl1 y hy, Nat.le_trans (cs.sub y hy).2 hl2⟩, by have := cs.cnt; omega⟩
    refine ⟨_, rfl, lw, _, _, _, rfl, rfl, SqL.of hlw, wd_at (K := K) cs, ?_⟩
    obtain ⟨kd, ekd⟩ : ∃ kd, wd (Txt.split l (" " : Str)) 0 = kd := ⟨_, rfl⟩
    rw [ekd]
    refine ⟨_, rfl, p, dx, _, rfl, s1 _ _ hS.at_, rm1, ?_⟩
    refine andS (a := (befores kd).isSome) (b := match befores kd with | none => false | some l => l.contains S.pv) (fun Q h => ?_) (fun ea H2 s2 Q h => ?_) fun H2 s2 => ?_
    · cases hb : befores kd with
      | none =>
        rw [hb] at h
        exact ⟨_, rfl, kd, _, rfl, rfl, pl.none' kd hb, h _ (Same.refl _)⟩
      | some bl =>
        rw [hb] at h
        obtain ⟨t, e1, e2⟩ := pl.some' kd bl hb
        exact ⟨_, rfl, kd, _, rfl, rfl, e1, h _ (Same.refl _)⟩
    · cases hb : befores kd with
      | none => rw [hb] at ea; cases ea
      | some bl =>
        rw [hb] at h
        obtain ⟨t, e1, e2⟩ := pl.some' kd bl hb
        refine ⟨_, rfl, p, C, dx, _, _, rfl, s2 _ _ (s1 _ _ hS.at_), c.cl, c.n2, rg2, _, rfl, D, kd, .ref t, rfl, rfl, ⟨des, dn, .ref t, pl.kd.at_, pl.kd.lit, e1, rfl⟩, t, _, rfl, .inr (e2 H2), rfl, flat_strs bl, ?_⟩
        rw [if_neg (by decide), inV_strs]
        exact h _ s2
    have S2 := s1.trans s2
    have eok : ((befores kd).isSome && match befores kd with | none => false | some l => l.contains S.pv) = okPlace kd S.pv := by
      unfold okPlace
      cases befores kd <;> rfl
    rw [eok]
    refine ⟨p, dx, _, S.pl, _, rfl, S2 _ _ hS.at_, rg1, fun ok => ?_, fun nok => q2 fun S' z => by have := z.place; rw [ekd, nok] at this; cases this⟩
    have hw2 : WsAt K H2 lw (Txt.split l (" " : Str)) := ⟨s2.seq hw.at_, hw.asc, hw.len⟩
    refine ⟨_, rfl, rfl, ?_⟩
    rw [dec_str]
    refine ⟨_, rfl, ?_⟩
    refine ite2 (fun e => ?_) (fun e => ?_)
    · have ek : kd = ("net" : Str) := of_decide_eq_true e
      subst ek
      refine ⟨_, rfl, p, dx, _, rfl, S2 _ _ hS.at_, rm5, _, rfl, _, rfl, lw, _, rfl, hw2.at_, fun y ny => ?_⟩
      rw [cut1, ← List.map_drop]
      have s3 := same_new (o := .lst (((Txt.split l (" " : Str)).drop 1).map V.str)) ny
      have hy := upd_same (H := H2) (a := y) (o := .lst (((Txt.split l (" " : Str)).drop 1).map V.str))
      generalize upd H2 y (.lst (((Txt.split l (" " : Str)).drop 1).map V.str)) = H3 at s3 hy ⊢
      refine ⟨by show 2 ≤ sizeLine; decide, fun t1 nt1 => ⟨by show 2 ≤ sizeLine; decide, fun t2 nt2 => ?_⟩⟩
      have s4 := same_new (o := .tup [V.int 0, V.int 10]) nt1
      have ht1 := upd_same (H := H3) (a := t1) (o := .tup [V.int 0, V.int 10])
      generalize upd H3 t1 (.tup [V.int 0, V.int 10]) = H4 at s4 ht1 nt2 ⊢
      have s5 := same_new (o := .tup [V.int 0, V.int 5]) nt2
      have ht2 := upd_same (H := H4) (a := t2) (o := .tup [V.int 0, V.int 5])
      generalize upd H4 t2 (.tup [V.int 0, V.int 5]) = H5 at s5 ht2 ⊢
      refine ⟨by show 2 ≤ sizeLine; decide, fun lb nlb => ?_⟩
      have s6 := same_new (o := .lst [V.ref t1, V.ref t2]) nlb
      have hlb := upd_same (H := H5) (a := lb) (o := .lst [V.ref t1, V.ref t2])
      generalize upd H5 lb (.lst [V.ref t1, V.ref t2]) = H6 at s6 hlb ⊢
      have S6 := (((S2.trans s3).trans s4).trans s5).trans s6
      refine ⟨p, dx, y, lb, _, S.pl, (Txt.split l (" " : Str)).drop 1, [t1, t2], [(0, 10), (0, 5)], rfl, S6 _ _ hS.at_, rg1, rm1, SqL.of (s6 _ _ (s5 _ _ (s4 _ _ hy))), fun y hy => ⟨(hw.asc y (List.mem_of_mem_drop hy)).1, Nat.le_trans (hw.asc y (List.mem_of_mem_drop hy)).2 (by decide)⟩, by have := hw.len; rw [List.length_drop]; omega, SqL.of hlb,
        .cons (SqT.of (s6 _ _ (s5 _ _ ht1))) (.cons (SqT.of (s6 _ _ ht2)) .nil), fun nok H7 a s7 na ha => ?_, fun nok => q2 fun S' z => by have := z.net_ok ekd; rw [nok] at this; cases this⟩
      have S7 := S6.trans s7
      obtain ⟨w0, x1, x2, ew⟩ := three (ws := Txt.split l (" " : Str)) (by have := nums_len nok; rw [List.length_drop] at this; have e : [((0 : Int), (10 : Int)), (0, 5)].length = 2 := rfl; omega)
      have e1 : wd (Txt.split l (" " : Str)) 1 = x1 := by rw [ew]; rfl
      have e2 : wd (Txt.split l (" " : Str)) 2 = x2 := by rw [ew]; rfl
      rw [ew] at ha
      refine ⟨a, _, rfl, SqL.of ha, rfl, _, _, rfl, ?_⟩
      refine ⟨_, rfl, p, C, dx, _, rfl, S7 _ _ hS.at_, c.cl, c.n3, (by show 7 < 1000; decide), ?_⟩
      rw [rd_pr]
      refine ⟨_, _, rfl, _, rfl, p, C, dx, _, rfl, upd_same, c.cl, c.n4, (by show 7 < 1000; decide), ?_⟩
      rw [rd_er]
      have hX := (hS.same S7).put ⟨S.pl, S.pv, ⟨S.N.ks, S.N.ls, numI x1, numI x2⟩, S.es⟩ rfl rfl rfl (.ins C dx (rdF (S.pl : Int) S.pv (numI x1) S.N.er lk ll le))
      have KX := hid_trans (hid_of S7) hX.2
      have hX := hX.1
      have hR := Reads.net (by rw [ekd]; exact ok) ekd nok
      rw [e1, e2] at hR
      generalize upd (upd H7 p (.ins C dx (rdF (S.pl : Int) S.pv (numI x1) S.N.er lk ll le))) p (.ins C dx (rdF (S.pl : Int) S.pv (numI x1) (numI x2) lk ll le)) = HX at hX KX ⊢
      refine ⟨rfl, ?_⟩
      refine ⟨_, rfl, _, rfl, p, C, dx, _, rfl, hX.at_, c.cl, c.n2, (by show 7 < 1000; decide), ?_⟩
      rw [rd_pv]
      refine ⟨_, rfl, p, C, dx, _, _, rfl, upd_same, c.cl, c.n1, rg1, _, _, rfl, rfl, dx, _, upd_same, (by show 7 < 1000; decide), ?_⟩
      rw [rd_pl]
      exact q1 _ hR _ (hid_trans KX (hX.put ⟨S.pl + 1, _, _, _⟩ rfl rfl rfl _).2) (hX.put ⟨S.pl + 1, _, _, _⟩ rfl rfl rfl _).1
    · have k1 : kd ≠ ("net" : Str) := fun z => e (decide_eq_true z)
      refine ⟨_, rfl, rfl, ?_⟩
      rw [dec_str]
      refine ⟨_, rfl, ?_⟩
      refine ite2 (fun e => ?_) (fun e => ?_)
      · have ek : kd = ("line" : Str) := of_decide_eq_true e
        subst ek
        refine ⟨_, rfl, p, dx, _, rfl, S2 _ _ hS.at_, rm3, _, rfl, p, dx, lk, ll, le, lw, S, _, rfl, hS.same S2, hW, hw2, fun lok HX K3 hX => ?_, fun nok => q2 fun S' z => nok (z.line_ok ekd)⟩
        have KX := hid_trans (hid_of S2) K3
        have hR := Reads.line (by rw [ekd]; exact ok) ekd lok
        refine ⟨_, rfl, _, rfl, p, C, dx, _, rfl, hX.at_, c.cl, c.n2, (by show 7 < 1000; decide), ?_⟩
        rw [rd_pv]
        refine ⟨_, rfl, p, C, dx, _, _, rfl, upd_same, c.cl, c.n1, rg1, _, _, rfl, rfl, dx, _, upd_same, (by show 7 < 1000; decide), ?_⟩
        rw [rd_pl]
        exact q1 _ hR _ (hid_trans KX (hX.put ⟨S.pl + 1, _, _, _⟩ rfl rfl rfl _).2) (hX.put ⟨S.pl + 1, _, _, _⟩ rfl rfl rfl _).1
      have k2 : kd ≠ ("line" : Str) := fun z => e (decide_eq_true z)
      refine ⟨_, rfl, rfl, ?_⟩
      rw [dec_str]
      refine ⟨_, rfl, ?_⟩
      refine ite2 (fun e => ?_) (fun e => ?_)
      · have ek : kd = ("stream" : Str) := of_decide_eq_true e
        subst ek
        refine ⟨_, rfl, p, dx, _, rfl, S2 _ _ hS.at_, rm4, _, rfl, p, dx, lk, ll, le, lw, S, _, rfl, hS.same S2, hW, hw2, fun sok HX K3 hX => ?_, fun nok => q2 fun S' z => nok (z.str_ok ekd)⟩
        have KX := hid_trans (hid_of S2) K3
        have hR := Reads.stream (by rw [ekd]; exact ok) ekd sok
        refine ⟨_, rfl, _, rfl, p, C, dx, _, rfl, hX.at_, c.cl, c.n2, (by show 7 < 1000; decide), ?_⟩
        rw [rd_pv]
        refine ⟨_, rfl, p, C, dx, _, _, rfl, upd_same, c.cl, c.n1, rg1, _, _, rfl, rfl, dx, _, upd_same, (by show 7 < 1000; decide), ?_⟩
        rw [rd_pl]
        exact q1 _ hR _ (hid_trans KX (hX.put ⟨S.pl + 1, _, _, _⟩ rfl rfl rfl _).2) (hX.put ⟨S.pl + 1, _, _, _⟩ rfl rfl rfl _).1
      have k3 : kd ≠ ("stream" : Str) := fun z => e (decide_eq_true z)
      refine ⟨_, rfl, p, dx, _, rfl, S2 _ _ hS.at_, rm1, ?_⟩
      refine andS (a := decide ((Txt.split l (" " : Str)).length = 1)) (b := decide (S.N.ks.length < 12)) (fun Q h => ?_) (fun _ H3 s3 Q h => ?_) fun H3 s3 => ?_
      · refine ⟨_, rfl, lw, _, rfl, .inl hw2.at_, rfl, ?_⟩
        have elen : decide (V.int (((Txt.split l (" " : Str)).map V.str).length : Int) = V.int 1) = decide ((Txt.split l (" " : Str)).length = 1) := by
          rw [List.length_map]
          exact dec_nat _ 1
        rw [elen]
        exact h _ (Same.refl _)
      · refine ⟨_, rfl, p, C, dx, _, _, rfl, s3 _ _ (S2 _ _ hS.at_), c.cl, c.n5, rg5, lk, _, rfl, .inl (SqL.of (s3 _ _ (S2 _ _ hS.ks))), _, _, rfl, rfl, ?_⟩
        have elt : decide (((S.N.ks.map kindV).length : Int) < 12) = decide (S.N.ks.length < 12) := by
          rw [List.length_map, Bool.eq_iff_iff, decide_eq_true_eq, decide_eq_true_eq]
          omega
        show Q (.bl (decide (((S.N.ks.map kindV).length : Int) < 12))) H3
        rw [elt]
        exact h _ s3
      have S3 := S2.trans s3
      refine ⟨p, dx, _, S.pl, _, rfl, S3 _ _ hS.at_, rg1, fun eb => ?_, fun eb => q2 fun S' z => ?_⟩
      · rw [Bool.and_eq_true, decide_eq_true_eq, decide_eq_true_eq] at eb
        obtain ⟨b, rfl⟩ := kind_of ok k1 k2 k3
        refine ⟨_, rfl, p, C, dx, _, _, rfl, S3 _ _ hS.at_, c.cl, c.n5, rg5, .inl ⟨rfl, _, SqL.of (S3 _ _ hS.ks)⟩, _, rfl, lk, _, _, rfl, rfl, S3 _ _ hS.ks, szl (by rw [List.length_map]; omega), ?_⟩
        have hS3 := hS.same S3
        obtain ⟨ts, h3, h4⟩ := hS3.ls
        obtain ⟨us, h5, h6⟩ := hS3.es
        have mlk : lk ∈ [p, lk, ll, le] := by simp
        have plk : p ≠ lk := (ne_of hS3.ks hS3.at_ (by intro z; cases z)).symm
        have K1 : Same (hid [p, lk, ll, le] H3) (upd H3 lk (.lst (S.N.ks.map kindV ++ [V.str (kdT b)]))) := hid_upd hid_same mlk
        have KX := hid_trans (hid_of S3) K1
        have hX : RdAt K C C2 (upd H3 lk (.lst (S.N.ks.map kindV ++ [V.str (kdT b)]))) p dx lk ll le ⟨S.pl, S.pv, ⟨S.N.ks ++ [b], S.N.ls, S.N.pr, S.N.er⟩, S.es⟩ := ⟨by rw [upd_ne plk]; exact hS3.at_, by rw [upd_same, List.map_append]; rfl, ⟨ts, by rw [upd_ne hS.n1.symm]; exact h3, h4.same (hid_keep K1)⟩, ⟨us, by rw [upd_ne hS.n2.symm]; exact h5, h6.same (hid_keep K1)⟩, hS.n1, hS.n2, hS.n3⟩
        have hR := Reads.node b (by rw [ekd]; exact ok) ekd eb.1 eb.2
        generalize upd H3 lk (.lst (S.N.ks.map kindV ++ [V.str (kdT b)])) = HX at hX KX ⊢
        refine ⟨_, rfl, _, rfl, p, C, dx, _, rfl, hX.at_, c.cl, c.n2, (by show 7 < 1000; decide), ?_⟩
        rw [rd_pv]
        refine ⟨_, rfl, p, C, dx, _, _, rfl, upd_same, c.cl, c.n1, rg1, _, _, rfl, rfl, dx, _, upd_same, (by show 7 < 1000; decide), ?_⟩
        rw [rd_pl]
        exact q1 _ hR _ (hid_trans KX (hX.put ⟨S.pl + 1, _, _, _⟩ rfl rfl rfl _).2) (hX.put ⟨S.pl + 1, _, _, _⟩ rfl rfl rfl _).1
      · have y := z.node_ok (by rw [ekd]; exact k1) (by rw [ekd]; exact k2) (by rw [ekd]; exact k3)
        rw [decide_eq_true y.1, decide_eq_true y.2] at eb
        cases eb
end
end My
namespace My
open PySem PySem.Spec PyProof.Rows L2
abbrev sRText : Stmt := top 12 /-read_text-/
theorem norm_hits {k l : Nat × Nat × Int} (h : norm k = norm l) : hits l.1 l.2.1 k = true := by
  refine hits_mk ?_
  unfold norm at h
  split at h <;> split at h <;> (obtain ⟨h1, h2⟩ := Prod.mk.inj h; omega)
theorem Dist.snoc {N : NetD} {l : Nat × Nat × Int} (h : Dist N.ls) (ne : l.1 ≠ l.2.1) (hj : joined N l.1 l.2.1 = none) : Dist (N.ls ++ [l]) := by
  have nj : ∀ k ∈ N.ls, hits l.1 l.2.1 k = false := fun k hk => by
    unfold joined at hj
    have := List.find?_eq_none.mp (Option.map_eq_none_iff.mp hj) k hk
    exact Bool.eq_false_iff.mpr this
  refine ⟨?_, fun k hk => ?_⟩
  · rw [List.map_append]
    refine nd_snoc' h.nd fun hm => ?_
    obtain ⟨k, hk, e⟩ := List.mem_map.mp hm
    have := norm_hits e
    rw [nj k hk] at this
    cases this
  · rcases List.mem_append.mp hk with z | z
    · exact h.ne k z
    · rw [List.mem_singleton.mp z]
      exact ne
theorem RdW.step {S A : RdD} {l : Str} (h : RdW S) (g : Reads S l A) (hl : S.pl < 1000) : RdW A ∧ A.pl = S.pl + 1 := by
  obtain ⟨h1, h2, h3, h4, h5⟩ := h
  cases g with
  | net => exact ⟨⟨h1, by show S.pl + 1 ≤ 1000; omega, by show _ ≤ S.pl + 1; exact Nat.le_succ_of_le h3, by show _ ≤ S.pl + 1; exact Nat.le_succ_of_le h4, h5⟩, rfl⟩
  | line h k o => exact ⟨⟨h1.snoc o.2.1 o.2.2, by show S.pl + 1 ≤ 1000; omega, by show (S.N.ls ++ _).length ≤ S.pl + 1; rw [List.length_append, List.length_singleton]; omega, by show _ ≤ S.pl + 1; exact Nat.le_succ_of_le h4, h5⟩, rfl⟩
  | stream => exact ⟨⟨h1, by show S.pl + 1 ≤ 1000; omega, by show _ ≤ S.pl + 1; exact Nat.le_succ_of_le h3, by show (S.es ++ _).length ≤ S.pl + 1; rw [List.length_append, List.length_singleton]; omega, h5⟩, rfl⟩
  | node b h k o1 o2 => exact ⟨⟨h1, by show S.pl + 1 ≤ 1000; omega, by show _ ≤ S.pl + 1; exact Nat.le_succ_of_le h3, by show _ ≤ S.pl + 1; exact Nat.le_succ_of_le h4, by show (S.N.ks ++ _).length ≤ 12; rw [List.length_append, List.length_singleton]; omega⟩, rfl⟩
theorem S0_w : RdW S0 := ⟨⟨List.nodup_nil, fun l h => absurd h List.not_mem_nil⟩, by show 0 ≤ 1000; omega, Nat.le_refl _, Nat.le_refl _, by show 0 ≤ 12; omega⟩
theorem cut_init (xs : List V) (x : V) : cutV (xs ++ [x]) none (some (-1)) = xs := by
  unfold cutV
  rw [HT.sIx_none]
  have e2 : HT.sIx (xs ++ [x]).length (xs ++ [x]).length (some (-1)) = (xs ++ [x]).length - 1 := by
    show (if (-1 : Int) < 0 then ((-1 : Int) + ((xs ++ [x]).length : Int)).toNat else min (-1 : Int).toNat (xs ++ [x]).length) = _
    rw [if_pos (by decide)]
    omega
  rw [e2, List.length_append, List.length_singleton]
  show (xs ++ [x]).take (xs.length + 1 - 1 - 0) = xs
  rw [Nat.add_sub_cancel, Nat.sub_zero, List.take_left']
  rfl
structure RdMk (P : Program) (w : World) (K : PySem.W.Frag) (mg : Str → Option Value) (base : Heap) (C f : Addr) (fd : FuncData) : Prop where
  ok : FnOk P w K mg base CX0 1 f fd ["self"] (spRInit K C)
  mg : mg "Reader" = some (.ref C)
  mkC : Mk K C f
  b : Binds K fd ["self"] []
section
variable {P : Program} {w : World} {K : PySem.W.Frag} {mg : Str → Option Value} {base : Heap}
theorem scRText : FnScope ["text", "lines", "reader", "line"] ["text"] (defScope sRText) := ⟨rfl, rfl, rfl, by decide +kernel, rfl, by decide +kernel, by decide +kernel⟩
-- ["text", "lines", "reader", "line"]
def spRText (K : PySem.W.Frag) (CN C2 : Addr) (XX : Bool) (CE : Addr) : Sp := fun vs H Q E => ∃ (x : Str) (rows : List Str) (last : Str), vs = [.str x] ∧ Txt.split x ("\n" : Str) = rows ++ [last] ∧ x.length ≤ 1000000 ∧ rows.length ≤ 900 ∧ last.length ≤ 100000 ∧ (∀ r ∈ rows, Asc r ∧ r.length ≤ 250) ∧
  (∀ S, ReadsText rows last (.inl S) → ∀ (H' : Hp) (t np le : Addr) (us : List Addr), Same H H' → H' t = some (.tup [.ref np, .ref le]) → NetAt K CN H' np S.N → H' le = some (.lst (us.map V.ref)) → EntsR C2 H' us S.es → Q (.ref t) H') ∧
  (∀ n, ReadsText rows last (.inr n) → Bad XX CE n E)
theorem ok_rtext {f C CN C2 CE fC fR fN fI : Addr} {fd fdC fdR fdN fdI : FuncData} {XX : Bool} {k : Nat} (F : Fun K "read_text" "read_text" sRText f fd) (c : RdC K C) (T : Blt mg) (GI : RdMk P w K mg base C fI fdI) (mC : Meth K C "check" fC) (GC : MethX P w K mg base 3 ["self", "holds"] (spCheck C XX CE) fC fdC)
    (mR : Meth K C "read_line" fR) (GR : MethX P w K mg base 6 ["self", "line"] (spRLine K C CN C2 XX CE) fR fdR) (mN : Meth K C "net_so_far" fN) (GN : MethOf P w K mg base 3 ["self"] (spNsf K C CN C2) fN fdN) :
    FnOk P w K mg base (L2.CX P w) (k + 7) f fd ["text"] (spRText K CN C2 XX CE) := by
  refine F.okX scRText (fun vs H Q E h => ?_) (fun cdv A0 outer s0 H vs Q E hr h => ?_)
  · obtain ⟨x, rows, last, rfl, _⟩ := h
    rfl
  · obtain ⟨x, rows, last, rfl, hsp, hx, hrows, hlast, hr1, q1, q2⟩ := h
    have nd := scRText.nd
    have hr2 : Room 2 _ := hr.mono (by omega)
    have hr3 : Room 3 _ := hr.mono (by omega)
    have hr6 : Room 6 _ := hr.mono (by omega)
    refine ⟨_, pss_cons (ps_set (i := 1) nd rfl (.inl rfl) (pe_split (pv 0) pe_str)) <| pss_cons (ps_set (i := 2) nd rfl (.inl rfl) (pe_make0 GI.mkC GI.ok hr2 (by rfl) GI.mg GI.b .nil pass0)) <| pss_cons (ps_for (passes_of rfl) rfl (pi_list (pe_slice sl_list (pv 1) po_none (po_some (pe_un un_neg pe_int)))) (pg_name (i := 3) nd rfl (.inl rfl)) (pss_one (ps_expr (pe_meth (pv 2) c.cl mR GR.ok hr6 GR.b .nil (passE (takes_of rfl rfl rfl rfl)) (pa_cons (pv 3) pa_nil))))) <| pss_cons (ps_expr (pe_meth (pv 2) c.cl mC GC.ok hr3 GC.b .nil (passE (takes_of rfl rfl rfl rfl)) (pa_cons (pe_and (pe_cmpR op_eq (pe_ix ix_list (pv 1) (pe_un un_neg pe_int) (fun _ _ => rfl)) pe_str (nomark _)) (pe_one (pe_cmpR op_gt (pe_callB call_len_seq (by rfl) T.len PySem.boot_len (pa_cons (pe_fld (pv 2) rfl) pa_nil)) pe_int (nomark _)))) pa_nil))) <| pss_one (ps_ret (pe_tup (pa_cons (pe_meth0 (pv 2) c.cl mN GN.ok hr3 GN.b .nil pass0) (pa_cons (pe_fld (pv 2) rfl) pa_nil)))), ?_⟩
    refine ⟨_, rfl, ⟨_, rfl⟩, _, _, rfl, rfl, by decide +kernel, Nat.le_trans (Nat.add_le_add_right hx 2) (by decide), fun L nL => ?_⟩
    rw [hsp]
    have s1 := same_new (o := .lst ((rows ++ [last]).map V.str)) nL
    have hL := upd_same (H := H) (a := L) (o := .lst ((rows ++ [last]).map V.str))
    generalize upd H L (.lst ((rows ++ [last]).map V.str)) = H1 at s1 hL ⊢
    refine fun p dx np ndx ne => ⟨p, dx, rfl, upd_same, fun H2 lk ll le kb nk nl nle d1 d2 d3 hp hk hl he => ⟨rfl, ?_⟩⟩
    have s0' := same_make0 (o1 := .own p) (o2 := .ins C dx []) np ndx
    have s2 := same_make np ndx kb
    have nk1 := s0'.free nk
    have nl1 := s0'.free nl
    have ne1 := s0'.free nle
    have hS2 : RdAt K C C2 H2 p dx lk ll le S0 := ⟨hp, hk, ⟨[], hl, .nil⟩, ⟨[], he, .nil⟩, d1, d2, d3⟩
    have S2 := s1.trans s2
    have hL2 := s2 _ _ hL
    refine ⟨_, rfl, _, rfl, _, rfl, L, _, rfl, SqL.of hL2, fun y ny => ?_⟩
    rw [List.map_append, show [last].map V.str = [V.str last] from rfl, cut_init]
    have s3 := same_new (o := .lst (rows.map V.str)) ny
    have hy := upd_same (H := H2) (a := y) (o := .lst (rows.map V.str))
    have S3 := S2.trans s3
    have hL3 := s3 _ _ hL2
    have oy := hS2.out ny
    have hS3 := hS2.same s3
    generalize upd H2 y (.lst (rows.map V.str)) = H3 at s3 hy S3 hL3 hS3 ⊢
    have oL : L ∉ [p, lk, ll, le] := fun hm => by
      rcases List.mem_cons.mp hm with e | hm
      · exact ne_of_none hL np e
      rcases List.mem_cons.mp hm with e | hm
      · exact ne_of_none hL nk1 e
      rcases List.mem_cons.mp hm with e | hm
      · exact ne_of_none hL nl1 e
      exact ne_of_none hL ne1 (List.mem_singleton.mp hm)
    refine ⟨y, rfl, ⟨_, SqL.of hy⟩, for_list (K := K) (a := y) (xs := rows.map V.str) (fun i σ G => ∃ (S : RdD) (v : Option V), σ = [some (.str x), some (.ref L), some (.ref p), v] ∧ ReadsAll S0 (rows.take i) (.inl S) ∧ S.pl = i ∧ RdW S ∧ Same (hid [p, lk, ll, le] H3) G ∧ RdAt K C C2 G p dx lk ll le S)
      ⟨S0, none, rfl, .done _, rfl, S0_w, hid_same, hS3⟩ (fun i σ G _ ⟨_, _, _, _, _, _, kb, _⟩ => SqL.of (kb _ _ (by rw [hid_out oy]; exact hy))) ?_ ?_⟩
    · rintro i x' σ G hi ⟨S, v, rfl, hA, hpl, hWf, kb, hS⟩
      obtain ⟨l, el, rfl⟩ := strs_at hi
      have il := (List.getElem?_eq_some_iff.mp el).1
      have hm := List.mem_of_getElem? el
      refine ⟨_, rfl, p, dx, _, rfl, hS.at_, rm2, _, rfl, p, dx, lk, ll, le, S, l, rfl, hS, hWf, (hr1 l hm).1, (hr1 l hm).2, fun S' hR G' K' hS' => ?_, fun nR => q2 _ (.bad ?_)⟩
      · obtain ⟨w1, w2⟩ := hWf.step hR (by omega)
        exact ⟨S', some (.str l), rfl, by rw [take_snoc el]; exact hA.snoc hR, by rw [w2, hpl], w1, hid_trans kb K', hS'⟩
      · have e : rows = rows.take i ++ l :: rows.drop (i + 1) := by
          obtain ⟨_, e⟩ := List.getElem?_eq_some_iff.mp el
          rw [← e, List.getElem_cons_drop, List.take_append_drop]
        rw [e]
        exact hA.stop nR _
    rintro σ G ⟨S, v, rfl, hA, hpl, hWf, kb, hS⟩
    rw [List.length_map, List.take_length] at hA
    have SG : Same H G := fun b o e => by
      have nb : b ∉ [p, lk, ll, le] := fun hm => by
        rcases List.mem_cons.mp hm with z | hm
        · exact ne_of_none e (s1.free np) z
        rcases List.mem_cons.mp hm with z | hm
        · exact ne_of_none e (s1.free nk1) z
        rcases List.mem_cons.mp hm with z | hm
        · exact ne_of_none e (s1.free nl1) z
        exact ne_of_none e (s1.free ne1) (List.mem_singleton.mp hm)
      exact kb b o (by rw [hid_out nb]; exact S3 b o e)
    have hLG := kb _ _ (by rw [hid_out oL]; exact hL3)
    refine ⟨_, rfl, p, dx, _, rfl, hS.at_, rm1, ?_⟩
    refine andS (a := decide (last = ("" : Str))) (b := decide (0 < S.N.ks.length)) (fun Q h => ?_) (fun _ H3 s3 Q h => ?_) fun H4 s4 => ?_
    · refine ⟨_, rfl, _, rfl, L, _, _, _, rfl, rfl, SqL.of hLG, by rw [List.map_append]; exact atI_last _ _, rfl, ?_⟩
      rw [dec_str]
      exact h _ (Same.refl _)
    · refine ⟨_, rfl, p, C, dx, _, _, rfl, s3 _ _ hS.at_, c.cl, c.n5, rg5, lk, _, rfl, .inl (SqL.of (s3 _ _ hS.ks)), _, _, rfl, rfl, ?_⟩
      have elt : decide ((0 : Int) < ((S.N.ks.map kindV).length : Int)) = decide (0 < S.N.ks.length) := by
        rw [List.length_map, Bool.eq_iff_iff, decide_eq_true_eq, decide_eq_true_eq]
        omega
      show Q (.bl (decide ((0 : Int) < ((S.N.ks.map kindV).length : Int)))) H3
      rw [elt]
      exact h _ s3
    have hS4 := hS.same s4
    refine ⟨p, dx, _, S.pl, _, rfl, hS4.at_, rg1, fun eb => ?_, fun eb => q2 _ (.short hA fun z => ?_)⟩
    · rw [Bool.and_eq_true, decide_eq_true_eq, decide_eq_true_eq] at eb
      refine ⟨_, rfl, p, dx, _, rfl, hS4.at_, rm6, p, dx, lk, ll, le, S, rfl, hS4, by have := hWf.ls; have := hWf.pl; omega, fun H5 np' s5 nnp hN => ?_⟩
      have hS5 := hS4.same s5
      refine ⟨_, rfl, p, C, dx, _, _, rfl, hS5.at_, c.cl, c.n7, rg7, by show 2 ≤ sizeLine; decide, fun t nt => ?_⟩
      have s6 := same_new (o := .tup [V.ref np', V.ref le]) nt
      have hS6 := hS5.same s6
      obtain ⟨us, h5, h6⟩ := hS6.es
      exact q1 S (.good hA eb.1 fun z => by rw [z] at eb; exact absurd eb.2 (by decide)) _ t np' le us (((SG.trans s4).trans s5).trans s6) upd_same (hN.same s6) h5 (h6.same hid_same)
    · rw [decide_eq_true z.1, decide_eq_true (List.length_pos_iff.mpr z.2)] at eb
      cases eb
end
end My
namespace My
open PySem PySem.Spec PyProof.Rows L2
theorem max_dl {v : Int} (a : Int) (h : v ≤ 5) : (if a + v > 1 then a + v else 1) ≤ max 1 (a + 5) := by
  rw [Int.max_def]
  split <;> split <;> omega
section
variable {P : Program} {w : World} {K : PySem.W.Frag} {mg : Str → Option Value} {base : Heap}
/-! ### _law_entry -/
theorem scEntryR : FnScope ["net", "paths", "cell", "tight", "numbers", "path", "period", "length", "stream", "offsets", "hop", "late", "spare", "deadline"] ["net", "paths", "cell", "tight"] (defScope sEntry) := ⟨rfl, rfl, rfl, by decide +kernel, rfl, by decide +kernel, by decide +kernel⟩
def spEntryR (K : PySem.W.Frag) (C C2 : Addr) : Sp := fun vs H Q _ => ∃ (p pf : Addr) (z : Int) (tg : Bool) (N : NetD) (fs : List Addr) (R : List (List Nat)), vs = [.ref p, .ref pf, .int z, .bl tg] ∧ NetAt K C H p N ∧ (0 ≤ N.er ∧ N.er ≤ 2) ∧ H pf = some (.lst (fs.map V.ref)) ∧ RowsAt H fs R ∧ R ≠ [] ∧ (∀ r ∈ R, IsP N r ∧ (∀ x ∈ r, x < N.ks.length) ∧ r.length ≤ 10) ∧
  ∀ (H' : Hp) (t : Addr) (e : EntD), Same H H' → H t = none → EntR C2 H' t e → EntWf N R e → (e.s.dl ≤ max 1 (e.os.getD (e.os.length - 1) 0 + travel N e.s (e.os.length - 1) + N.er + 5)) → Q (.ref t) H'
theorem ok_entryR {f C C2 fD fR fS : Addr} {fd fdD fdR fdS : FuncData} {k : Nat} (F : Fun K "_law_entry" "_law_entry" sEntry f fd) (T : Blt mg) (hmax : mg "max" = none) (c : NetC K C) (c2 : StrC K C2) (GD : Callee P w K mg base 1 "_law_draw" ["cell", "many", "bound"] spDraw fD fdD)
    (GR : Callee P w K mg base 2 "_law_ready" ["net", "stream", "offsets"] (spReady K C C2) fR fdR) (GS : StrMk P w K mg base C2 fS fdS) : FnOk P w K mg base CX0 (k + 3) f fd ["net", "paths", "cell", "tight"] (spEntryR K C C2) := by
  refine F.ok scEntryR (fun vs H Q E h => ?_) (fun cdv A outer s0 H vs Q E hr h => ?_)
  · obtain ⟨p, pf, z, tg, N, fs, R, rfl, _⟩ := h
    rfl
  · obtain ⟨p, pf, z, tg, N, fs, R, rfl, hN, her, hf, hR, hne, hG, q⟩ := h
    have nd := scEntryR.nd
    have hr1 : Room 1 _ := hr.mono (by omega)
    have hr2 : Room 2 _ := hr.mono (by omega)
    have eN := hN
    obtain ⟨dx, lk, ll, ld, ts, e1, e2, e3, e4, e5⟩ := hN
    refine ⟨_, pss_cons (ps_set (i := 4) nd rfl (.inl rfl) (pe_call GD.ok hr1 (by rfl) GD.mg GD.kp GD.b .nil pass0 (pa_cons (pv 2) (pa_cons pe_int (pa_cons (pe_op op_shl pe_int pe_int) pa_nil))))) <| pss_cons (ps_set (i := 5) nd rfl (.inl rfl) (pe_ix ix_list (pv 1) (pe_op op_mod (pe_ix ix_list (pv 4) pe_int (fun _ _ => rfl)) (pe_callB call_len_seq (by rfl) T.len PySem.boot_len (pa_cons (pv 1) pa_nil))) (fun _ _ => rfl))) <| pss_cons (ps_set (i := 6) nd rfl (.inl rfl) (pe_ix ix_list (pe_lst (pa_cons pe_int (pa_cons pe_int (pa_cons pe_int (pa_cons pe_int (pa_cons pe_int (pa_cons pe_int pa_nil))))))) (pe_op op_mod (pe_ix ix_list (pv 4) pe_int (fun _ _ => rfl)) pe_int) (fun _ _ => rfl))) <| pss_cons (ps_set (i := 7) nd rfl (.inl rfl) (pe_op op_add pe_int (pe_op op_mod (pe_ix ix_list (pv 4) pe_int (fun _ _ => rfl)) pe_int))) <| pss_cons (ps_set (i := 8) nd rfl (.inl rfl) (pe_make GS.mkC GS.ok hr2 (by rfl) GS.mg GS.b .nil pass0 (pa_cons (pv 6) (pa_cons (pv 7) (pa_cons pe_int (pa_cons (pv 5) pa_nil)))))) <| pss_cons (ps_set (i := 9) nd rfl (.inl rfl) (pe_lst (pa_cons (pe_op op_mod (pe_ix ix_list (pv 4) pe_int (fun _ _ => rfl)) (pv 6)) pa_nil))) <| pss_cons (ps_for PassesOwn.never rfl (pi_range2 (by rfl) T.range (pa_cons pe_int (pa_cons (pe_op op_sub (pe_callB call_len_seq (by rfl) T.len PySem.boot_len (pa_cons (pv 5) pa_nil)) pe_int) pa_nil))) (pg_name (i := 10) nd rfl (.inl rfl)) (pss_cons (ps_set (i := 11) nd rfl (.inl rfl) (pe_op op_mod (pe_ix ix_list (pv 4) (pe_op op_add pe_int (pe_op op_mod (pv 10) pe_int)) (fun _ _ => rfl)) pe_int)) <| pss_cons (ps_if (PW.pt (pw_and (pt_cmpR op_eq (pe_op op_mod (pe_op op_fdiv (pe_ix ix_list (pv 4) (pe_op op_add pe_int (pe_op op_mod (pv 10) pe_int)) (fun _ _ => rfl)) pe_int) pe_int) pe_int (nomark _)) (pw_and1 (pt_not (pt_val (pv 3)))))) (pss_one (ps_set (i := 11) nd rfl (.inl rfl) (pe_un un_neg pe_int))) (pss_nil)) <| pss_one (ps_expr (pe_bm PySem.F.plainAttrs_list PySem.F.slot_list_append PySem.F.type_list_append mt_append (pv 9) (pa_cons (pe_callB (call_max2 rfl) (by rfl) hmax (by decide +kernel) (pa_cons pe_int (pa_cons (pe_op op_add (pe_op op_add (pe_call GR.ok hr2 (by rfl) GR.mg GR.kp GR.b .nil pass0 (pa_cons (pv 0) (pa_cons (pv 8) (pa_cons (pv 9) pa_nil)))) (pe_op op_mul pe_int (pe_fld (pv 0) rfl))) (pv 11)) pa_nil))) pa_nil))))) <| pss_cons (ps_set (i := 12) nd rfl (.inl rfl) (pe_op op_mod (pe_ix ix_list (pv 4) pe_int (fun _ _ => rfl)) pe_int)) <| pss_cons (ps_if (PW.pt (pw_and (pt_cmpR op_eq (pe_op op_mod (pe_op op_fdiv (pe_ix ix_list (pv 4) pe_int (fun _ _ => rfl)) pe_int) pe_int) pe_int (nomark _)) (pw_and1 (pt_not (pt_val (pv 3)))))) (pss_one (ps_set (i := 12) nd rfl (.inl rfl) (pe_un un_neg pe_int))) (pss_nil)) <| pss_cons (ps_set (i := 13) nd rfl (.inl rfl) (pe_callB (call_max2 rfl) (by rfl) hmax (by decide +kernel) (pa_cons pe_int (pa_cons (pe_op op_add (pe_op op_add (pe_call GR.ok hr2 (by rfl) GR.mg GR.kp GR.b .nil pass0 (pa_cons (pv 0) (pa_cons (pv 8) (pa_cons (pv 9) pa_nil)))) (pe_fld (pv 0) rfl)) (pv 12)) pa_nil)))) <| pss_one (ps_ret (pe_tup (pa_cons (pe_make GS.mkC GS.ok hr2 (by rfl) GS.mg GS.b .nil pass0 (pa_cons (pv 6) (pa_cons (pv 7) (pa_cons (pv 13) (pa_cons (pv 5) pa_nil))))) (pa_cons (pv 9) pa_nil)))), ?_⟩
    refine ⟨_, rfl, _, _, rfl, rfl, ⟨by decide, by decide, by decide⟩, z, _, 12, rfl, by decide, by decide, by decide, fun H1 pn ns s1 npn hn ln bn => ?_⟩
    have bd : ∀ j, j < 12 → 0 ≤ ns.getD j 0 ∧ ns.getD j 0 < 1048576 := fun j hj => bn _ (getD_mem (by omega))
    have lfs : fs.length = R.length := hR.length
    have lR : 0 < R.length := List.length_pos_iff.mpr hne
    -- path
    have i0 : 0 ≤ ns.getD 0 0 % ((fs.map V.ref).length : Int) := Int.emod_nonneg _ (by rw [List.length_map]; omega)
    have i1 : ns.getD 0 0 % ((fs.map V.ref).length : Int) < ((fs.map V.ref).length : Int) := Int.emod_lt_of_pos _ (by rw [List.length_map]; omega)
    obtain ⟨j, ej⟩ : ∃ j : Nat, ns.getD 0 0 % ((fs.map V.ref).length : Int) = (j : Int) := ⟨_, (Int.toNat_of_nonneg i0).symm⟩
    have jl : j < fs.length := by rw [ej, List.length_map] at i1; omega
    obtain ⟨r, er, hr0, hrow⟩ := Paired.at hR (List.getElem?_eq_getElem jl)
    have rm := List.mem_of_getElem? er
    obtain ⟨ris, rlt, rle⟩ := hG r rm
    have rtwo := ris.two
    refine ⟨_, rfl, _, rfl, pn, _, _, _, rfl, rfl, SqL.of hn, atI_ints (j := 0) rfl (by omega), _, rfl, pf, _, rfl, .inl (SqL.of (s1 _ _ hf)), _, _, rfl, rfl, (by rw [List.length_map]; omega), pf, _, _, _, rfl, rfl, SqL.of (s1 _ _ hf), (by rw [ej]; exact atI_nat (by rw [List.getElem?_map, List.getElem?_eq_getElem jl]; rfl)), ?_⟩
    have hrow1 := s1 _ _ hrow
    -- period
    obtain ⟨pe, epe, pe0, pe1⟩ := pe_at (z := ns.getD 1 0 % 6) (Int.emod_nonneg _ (by decide)) (Int.emod_lt_of_pos _ (by decide))
    refine ⟨by show 6 ≤ sizeLine; decide, fun l6 n6 => ?_⟩
    have s2 := same_new (o := .lst [V.int 6, V.int 8, V.int 12, V.int 5, V.int 10, V.int 4]) n6
    refine ⟨_, rfl, pn, _, _, _, rfl, rfl, SqL.of (s2 _ _ hn), atI_ints (j := 1) rfl (by omega), _, _, rfl, rfl, (by show (0 : Int) < 6; decide), l6, _, _, _, rfl, rfl, SqL.of upd_same, epe, ?_⟩
    have S2 := s1.trans s2
    have hn2 := s2 _ _ hn
    have hrow2 := s2 _ _ hrow1
    generalize (upd H1 l6 (.lst [V.int 6, V.int 8, V.int 12, V.int 5, V.int 10, V.int 4])) = H2 at S2 hn2 hrow2 ⊢
    clear s2
    -- length
    refine ⟨_, rfl, pn, _, _, _, rfl, rfl, SqL.of hn2, atI_ints (j := 2) rfl (by omega), _, _, rfl, rfl, (by show (0 : Int) < 3; decide), _, _, rfl, rfl, ?_⟩
    have z0 : 0 ≤ ns.getD 2 0 % 3 := Int.emod_nonneg _ (by decide)
    have z1 : ns.getD 2 0 % 3 < 3 := Int.emod_lt_of_pos _ (by decide)
    -- stream
    refine ⟨_, rfl, _, rfl, _, rfl, fun x dy nx ndy ne => ⟨x, dy, fs[j], ⟨pe, 1 + ns.getD 2 0 % 3, 300, r⟩, rfl, upd_same, SqL.of (same_make0 nx ndy _ _ hrow2), fun H3 kb hS => ⟨rfl, ?_⟩⟩⟩
    have hS := hS.at
    have s3 := same_make nx ndy kb
    have S3 := S2.trans s3
    have hn3 := s3 _ _ hn2
    have hrow3 := s3 _ _ hrow2
    clear kb
    have hPo : PathOk N ⟨pe, 1 + ns.getD 2 0 % 3, 300, r⟩ := ⟨ris, rlt, rle⟩
    -- offsets
    refine ⟨_, rfl, pn, _, _, _, rfl, rfl, SqL.of hn3, atI_ints (j := 3) rfl (by omega), _, rfl, _, _, rfl, rfl, (by show 0 < pe; omega), by show 1 ≤ sizeLine; decide, fun lo nlo => ?_⟩
    have q0 : 0 ≤ ns.getD 3 0 % pe := Int.emod_nonneg _ (by omega)
    have q1 : ns.getD 3 0 % pe < pe := Int.emod_lt_of_pos _ (by omega)
    have s4 := same_new (o := .lst [V.int (ns.getD 3 0 % pe)]) nlo
    have hlo : (upd H3 lo (.lst [V.int (ns.getD 3 0 % pe)])) lo = some (.lst ([ns.getD 3 0 % pe].map V.int)) := upd_same
    have S4 := S3.trans s4
    have hn4 := s4 _ _ hn3
    have hrow4 := s4 _ _ hrow3
    have hS4 := hS.same s4
    generalize (upd H3 lo (.lst [V.int (ns.getD 3 0 % pe)])) = H4 at s4 hlo hn4 hrow4 ⊢
    have O0 : OsOk N (StrD.mk pe (1 + ns.getD 2 0 % 3) 300 r) [ns.getD 3 0 % pe] := ⟨fun h hh => by
      have : h = 0 := by simp at hh; exact hh
      subst this
      exact q0, q1, fun h hh => by simp at hh, fun h hh => by simp at hh⟩
    refine ⟨_, rfl, fs[j], _, rfl, .inl (SqL.of hrow4), _, _, rfl, rfl, 1, ((natsV r).length : Int) - 1, rfl, ⟨by decide, by decide, by rw [natsV_len]; omega, by rw [natsV_len]; omega⟩, ?_⟩
    rw [natsV_len, show (((r.length : Nat) : Int) - 1 - 1).toNat = r.length - 2 by omega]
    refine for_range (lo := 1) (n := r.length - 2) (fun i σ H' => ∃ (v10 v11 : Option V) (os : List Int), σ = [some (.ref p), some (.ref pf), some (.int z), some (.bl tg), some (.ref pn), some (.ref fs[j]), some (.int pe), some (.int (1 + ns.getD 2 0 % 3)), some (.ref x), some (.ref lo), v10, v11, none, none] ∧
      Same H3 H' ∧ H' lo = some (.lst (os.map V.int)) ∧ os.length = i + 1 ∧ OsOk N (StrD.mk pe (1 + ns.getD 2 0 % 3) 300 r) os) ⟨none, none, [ns.getD 3 0 % pe], rfl, s4, hlo, rfl, O0⟩ ?_ ?_
    · rintro i σ H' hi ⟨v10, v11, os, rfl, sm, hl, lo', hO⟩
      have hn' := sm _ _ hn3
      have w0 : 0 ≤ (1 + (i : Int)) % 4 := Int.emod_nonneg _ (by decide)
      have w1 : (1 + (i : Int)) % 4 < 4 := Int.emod_lt_of_pos _ (by decide)
      obtain ⟨m, em⟩ : ∃ m : Nat, 4 + (1 + (i : Int)) % 4 = (m : Int) := ⟨(4 + (1 + (i : Int)) % 4).toNat, (Int.toNat_of_nonneg (by omega)).symm⟩
      refine ⟨_, rfl, _, rfl, _, _, rfl, rfl, (by show (0 : Int) < 4; decide), _, _, rfl, rfl, pn, _, _, _, rfl, rfl, SqL.of hn', atI_ints (j := m) em (by omega), _, _, rfl, rfl, (by show (0 : Int) < 4; decide), ?_⟩
      have u0 : 0 ≤ ns.getD m 0 % 4 := Int.emod_nonneg _ (by decide)
      have u1 : ns.getD m 0 % 4 < 4 := Int.emod_lt_of_pos _ (by decide)
      dsimp only [gName, tSeq, tIfS]
      refine and_read (a := decide (V.int (ns.getD m 0 / 4 % 9) = V.int 0)) (b := !tg) (fun Q h => ?_) (fun _ Q h => ?_) ?_
      · exact ⟨_, rfl, _, rfl, _, _, rfl, rfl, (by show (0 : Int) < 4; decide), _, _, rfl, rfl, pn, _, _, _, rfl, rfl, SqL.of hn', atI_ints (j := m) em (by omega), _, _, rfl, rfl, ⟨by decide, by decide⟩, _, _, rfl, rfl, (by show (0 : Int) < 9; decide), rfl, _, rfl, h⟩
      · exact ⟨_, rfl, _, rfl, h⟩
      refine ite2 (fun _ => ?_) (fun _ => ?_)
      · refine ⟨_, rfl, ?_⟩
        have hlt : -1 ≤ (-(1 : Int)) ∧ (-(1 : Int)) ≤ 3 := by decide
        refine ⟨_, rfl, .inl ⟨rfl, _, SqL.of hl⟩, _, rfl, _, rfl, _, rfl, p, x, lo, N, _, os, rfl, eN.same (S3.trans sm), hS.same sm, SqL.of hl, hPo, by omega, by show os.length < r.length; omega, ?_⟩
        refine ⟨_, rfl, p, C, dx, _, _, rfl, sm _ _ (S3 _ _ e1), c.cl, c.n4, g4, _, _, rfl, rfl, .inl ⟨by decide, by decide⟩, _, _, rfl, rfl, _, rfl, _, _, rfl, rfl, _, _, rfl, ?_⟩
        refine ⟨lo, _, _, rfl, rfl, hl, szl (by rw [List.length_map]; omega), ?_⟩
        refine ⟨_, _, os ++ [_], rfl, same_but sm nlo but_self, ?_, by rw [List.length_append, lo']; rfl, hO.snoc (by omega) (max_nn _) (by have := max_lo (os.getD (os.length - 1) 0 + travel N (StrD.mk pe (1 + ns.getD 2 0 % 3) 300 r) (os.length - 1) + 2 * N.er) hlt.1; omega) (max_hi _ hlt.2)⟩
        rw [upd_same, List.map_append]
        rfl
      · have hlt : -1 ≤ ns.getD m 0 % 4 ∧ ns.getD m 0 % 4 ≤ 3 := by omega
        refine ⟨_, rfl, .inl ⟨rfl, _, SqL.of hl⟩, _, rfl, _, rfl, _, rfl, p, x, lo, N, _, os, rfl, eN.same (S3.trans sm), hS.same sm, SqL.of hl, hPo, by omega, by show os.length < r.length; omega, ?_⟩
        refine ⟨_, rfl, p, C, dx, _, _, rfl, sm _ _ (S3 _ _ e1), c.cl, c.n4, g4, _, _, rfl, rfl, .inl ⟨by decide, by decide⟩, _, _, rfl, rfl, _, rfl, _, _, rfl, rfl, _, _, rfl, ?_⟩
        refine ⟨lo, _, _, rfl, rfl, hl, szl (by rw [List.length_map]; omega), ?_⟩
        refine ⟨_, _, os ++ [_], rfl, same_but sm nlo but_self, ?_, by rw [List.length_append, lo']; rfl, hO.snoc (by omega) (max_nn _) (by have := max_lo (os.getD (os.length - 1) 0 + travel N (StrD.mk pe (1 + ns.getD 2 0 % 3) 300 r) (os.length - 1) + 2 * N.er) hlt.1; omega) (max_hi _ hlt.2)⟩
        rw [upd_same, List.map_append]
        rfl
    rintro σ H5 ⟨v10, v11, os, rfl, s5, hl5, lo5, hO5⟩
    have S5 := S3.trans s5
    have hn5 := s5 _ _ hn3
    have hrow5 := s5 _ _ hrow3
    refine ⟨_, rfl, pn, _, _, _, rfl, rfl, SqL.of hn5, atI_ints (j := 9) rfl (by omega), _, _, rfl, rfl, (by show (0 : Int) < 6; decide), ?_⟩
    dsimp only [gName, tSeq, tIfS]
    refine and_read (a := decide (V.int (ns.getD 9 0 / 6 % 9) = V.int 0)) (b := !tg) (fun Q h => ?_) (fun _ Q h => ?_) ?_
    · exact ⟨_, rfl, pn, _, _, _, rfl, rfl, SqL.of hn5, atI_ints (j := 9) rfl (by omega), _, _, rfl, rfl, ⟨by decide, by decide⟩, _, _, rfl, rfl, (by show (0 : Int) < 9; decide), rfl, _, rfl, h⟩
    · exact ⟨_, rfl, _, rfl, h⟩
    refine ite2 (fun _ => ?_) (fun _ => ?_)
    · refine ⟨_, rfl, ?_⟩
      refine ⟨_, rfl, _, rfl, _, rfl, p, x, lo, N, _, os, rfl, eN.same S5, hS.same s5, SqL.of hl5, hPo, by omega, by show os.length < r.length; omega, ?_⟩
      refine ⟨_, rfl, p, C, dx, _, _, rfl, S5 _ _ e1, c.cl, c.n4, g4, _, _, rfl, rfl, _, rfl, _, _, rfl, rfl, _, _, rfl, ?_⟩
      refine ⟨_, rfl, _, rfl, _, rfl, _, rfl, fun x2 dy2 nx2 ndy2 ne2 => ⟨x2, dy2, fs[j], ⟨pe, 1 + ns.getD 2 0 % 3, _, r⟩, rfl, upd_same, SqL.of (same_make0 nx2 ndy2 _ _ hrow5), fun H6 kb6 hS6 => ⟨rfl, ?_⟩⟩⟩
      have hS6 := hS6.at
      have s6 := same_make nx2 ndy2 kb6
      refine ⟨_, rfl, by show 2 ≤ sizeLine; decide, fun t nt => ?_⟩
      have st := same_new (o := .tup [V.ref x2, V.ref lo]) nt
      have v6 := Int.emod_lt_of_pos (ns.getD 9 0) (show (0 : Int) < 6 by decide)
      exact q _ t ⟨⟨pe, 1 + ns.getD 2 0 % 3, _, r⟩, os⟩ ((S5.trans s6).trans st) ((S5.trans s6).free nt) ⟨x2, lo, upd_same, hS6.same st, st _ _ (s6 _ _ hl5)⟩ ⟨rm, by show os.length + 1 = r.length; omega, pe0, pe1, by show 1 ≤ 1 + ns.getD 2 0 % 3; omega, by show 1 + ns.getD 2 0 % 3 ≤ 3; omega, max_one _, ⟨hO5.nn, hO5.fst, hO5.lo, hO5.hi⟩⟩ (max_dl _ (by omega))
    · refine ⟨_, rfl, _, rfl, _, rfl, p, x, lo, N, _, os, rfl, eN.same S5, hS.same s5, SqL.of hl5, hPo, by omega, by show os.length < r.length; omega, ?_⟩
      refine ⟨_, rfl, p, C, dx, _, _, rfl, S5 _ _ e1, c.cl, c.n4, g4, _, _, rfl, rfl, _, rfl, _, _, rfl, rfl, _, _, rfl, ?_⟩
      refine ⟨_, rfl, _, rfl, _, rfl, _, rfl, fun x2 dy2 nx2 ndy2 ne2 => ⟨x2, dy2, fs[j], ⟨pe, 1 + ns.getD 2 0 % 3, _, r⟩, rfl, upd_same, SqL.of (same_make0 nx2 ndy2 _ _ hrow5), fun H6 kb6 hS6 => ⟨rfl, ?_⟩⟩⟩
      have hS6 := hS6.at
      have s6 := same_make nx2 ndy2 kb6
      refine ⟨_, rfl, by show 2 ≤ sizeLine; decide, fun t nt => ?_⟩
      have st := same_new (o := .tup [V.ref x2, V.ref lo]) nt
      have v6 := Int.emod_lt_of_pos (ns.getD 9 0) (show (0 : Int) < 6 by decide)
      exact q _ t ⟨⟨pe, 1 + ns.getD 2 0 % 3, _, r⟩, os⟩ ((S5.trans s6).trans st) ((S5.trans s6).free nt) ⟨x2, lo, upd_same, hS6.same st, st _ _ (s6 _ _ hl5)⟩ ⟨rm, by show os.length + 1 = r.length; omega, pe0, pe1, by show 1 ≤ 1 + ns.getD 2 0 % 3; omega, by show 1 + ns.getD 2 0 % 3 ≤ 3; omega, max_one _, ⟨hO5.nn, hO5.fst, hO5.lo, hO5.hi⟩⟩ (max_dl _ (by omega))
end
end My
/-! An own `__eq__` with both answers. No row. -/
namespace My
open PySem PySem.Spec PyProof.Rows L2
/-- what may stand on the right -/
inductive RightV (K : PySem.W.Frag) (C : Addr) (H : Hp) : V → Prop where
  | own {b dx : Addr} {fs : List (Str × V)} (h : H b = some (.ins C dx fs)) : RightV K C H (.ref b)
  | int (i : Int) (n : PySem.W.notFirst K C (.type "int") = true) : RightV K C H (.int i)
  | lst {b : Addr} {xs : List V} (h : H b = some (.lst xs)) (n : PySem.W.notFirst K C (.type "list") = true) : RightV K C H (.ref b)
def rOwnE (K : PySem.W.Frag) (C : Addr) (sp : Sp) (E : XK) : R2 := fun x y H Q => ∃ (a dx : Addr) (fs : List (Str × V)), x = .ref a ∧ H a = some (.ins C dx fs) ∧ RightV K C H y ∧ sp [.ref a, y] H Q E
theorem op_ownE {X : Cx} {CX : CXT} {C g : Addr} {fd : FuncData} {ps : List Str} {k : Nat} {sp : Sp} {E : XK} (F : FnOk X.prog X.w X.K X.mg X.base CX k g fd ps sp) (hr : Room k X.A) (hs : PySem.W.findIn X.K (.ref C) "__eq__" = some (some (.ref g))) (hf : PySem.W.isFn X.K (.ref g) = true)
    (hb : Binds X.K fd ps []) (hx : Passes CX X E) : OpR X (compareOp .Eq) (rOwnE X.K C sp E) := by
  intro pins s σ H x y v u Q I rx ry h
  obtain ⟨a, dx, fs, rfl, ha, hy, q⟩ := h
  cases (show v = Value.ref a from rx)
  obtain ⟨mA, O, _⟩ := ins_get I.hok ha
  obtain ⟨od, J, _⟩ := O.look
  obtain ⟨m, hF⟩ := I.fr
  have go : ∀ tb : Value, PySem.W.Looks (model X.prog X.w) s.heap (typeOf u) tb → PySem.W.notFirst X.K C tb = true → wpAny (model X.prog X.w) X.A (compareOp .Eq (.ref a) u) (EP X pins σ Q) X.xe s := by
    intro tb lb nb
    show wpAny (model X.prog X.w) X.A (richCompare .Eq (.ref a) u) (EP X pins σ Q) X.xe s
    refine PySem.W.cmp_K (op := .Eq) (tb := tb) hr.units0 hF I.ok.mod.kin J lb nb hs hf ?_
    refine wpAny_mono (run_fn (us := [.ref a, u]) (vs := [.ref a, y]) F hr hb .nil hx I (.cons rfl (.cons ry .nil)) q) (fun w s' z => ?_) fun _ _ x => x
    obtain ⟨z', H', I', rz, qz⟩ := z
    exact SlX.cmpback rz ⟨z', H', I', rz, qz⟩
  cases hy with
  | @own b dy gs hb' =>
    cases (show u = Value.ref b from ry)
    obtain ⟨mB, O', _⟩ := ins_get I.hok hb'
    obtain ⟨od', J', _⟩ := O'.look
    exact go (.ref C) J'.type (by simp [PySem.W.notFirst])
  | int i n =>
    obtain ⟨t, e⟩ := (show ∃ t, u = Value.int i t from ry)
    subst e
    exact go (.type "int") (PySem.W.Looks.of_pure rfl) n
  | @lst b xs hb' n =>
    cases (show u = Value.ref b from ry)
    obtain ⟨_, _, k, _, h1⟩ := (show ObjOk X.prog X.w H s.heap b (.lst xs) from I.hok b _ hb')
    exact go (.type "list") ((PySem.W.Looks.ld h1).andThen .now) n
end My
namespace My
open PySem PySem.Spec PyProof.Rows L2
abbrev sSEq : Stmt := inClass sStream 1 /-Stream.__eq__-/
structure OwnJ (K : PySem.W.Frag) (C : Addr) : Prop where
  ha : PySem.W.findIn K (.ref C) "__class__" = some (some (.builtin "object.__class__"))
  hn : PySem.W.specialIn K (.builtin "object.__class__") "__get__" = some (some (.builtin "getset_descriptor.__get__"))
  htk : PySem.W.takesIn K (.builtin "object.__class__") = some true
  hm : PySem.W.mroIn K C (.type "object") = some true
  me : PySem.W.kitOne K (.ref C) (.ref C) = some true
/-- the same stream stands at both -/
def Twin (C2 : Addr) (a b : Addr) (H : Hp) : Prop := ∃ s, StreamAt C2 H a s ∧ StreamAt C2 H b s
theorem twin_mono {C2 a b : Addr} {H H' : Hp} (e : Ext H H') (h : Twin C2 a b H) : Twin C2 a b H' := by
  obtain ⟨s, h1, h2⟩ := h
  exact ⟨s, h1.same e, h2.same e⟩
section
variable {P : Program} {w : World} {K : PySem.W.Frag} {mg : Str → Option Value} {base : Heap}
/-! ### Stream.__eq__ -/
theorem scSEq : FnScope ["self", "other"] ["self", "other"] (defScope sSEq) := ⟨rfl, rfl, rfl, by decide +kernel, rfl, by decide +kernel, by decide +kernel⟩
theorem ok_twin {f C : Addr} {fd : FuncData} {k : Nat} (F : Fun K "__eq__" "Stream.__eq__" sSEq f fd) (hisi : mg "isinstance" = none) (c : StrC K C) (i : OwnJ K C) (gC : mg "Stream" = some (.ref C)) : FnOk P w K mg base CX0 (k + 1) f fd ["self", "other"] (spEq (Twin C)) := by
  refine F.ok scSEq (fun vs H Q E h => ?_) (fun cdv A outer s0 H vs Q E hr h => ?_)
  · obtain ⟨a, b, rfl, _⟩ := h
    rfl
  · obtain ⟨a, b, rfl, ⟨s, hS, hR⟩, q⟩ := h
    have nd := scSEq.nd
    refine ⟨_, pss_one (ps_ret (pe_and (pe_callB call_isi (by rfl) hisi PyProof.Rows.boot_isinstance (pa_cons (pv 1) (pa_cons (pe_glob (v := .ref C) (by rfl) gC rfl (by decide)) pa_nil))) (pe_and (pe_cmpR op_eq (pe_fld (pv 0) rfl) (pe_fld (pv 1) rfl) (nomark _)) (pe_and (pe_cmpR op_eq (pe_fld (pv 0) rfl) (pe_fld (pv 1) rfl) (nomark _)) (pe_and (pe_cmpR op_eq (pe_fld (pv 0) rfl) (pe_fld (pv 1) rfl) (nomark _)) (pe_one (pe_cmpR (op_eqD hr.units) (pe_fld (pv 0) rfl) (pe_fld (pv 1) rfl) (nomark _)))))))), ?_⟩
    obtain ⟨dx, lp, e1, e2⟩ := hS
    obtain ⟨dy, lq, d1, d2⟩ := hR
    refine andv (a := true) (b := true) (fun Q h => ?_) (fun _ Q h => ?_) (q H Ext.rfl')
    · exact ⟨_, rfl, .ref b, .ref C, .ref C, .ref C, true, rfl, .own C, .base (.ins d1 c.cl i.ha i.hn i.htk i.hm), i.me, h⟩
    · refine andv (a := true) (b := true) (fun Q h => ?_) (fun _ Q h => ?_) h
      · refine ⟨_, rfl, a, C, dx, _, _, rfl, e1, c.cl, c.n1, sg1, _, rfl, b, C, dy, _, _, rfl, d1, c.cl, c.n1, sg1, rfl, ?_⟩
        rw [decide_eq_true rfl]
        exact h
      · refine andv (a := true) (b := true) (fun Q h => ?_) (fun _ Q h => ?_) h
        · refine ⟨_, rfl, a, C, dx, _, _, rfl, e1, c.cl, c.n2, sg2, _, rfl, b, C, dy, _, _, rfl, d1, c.cl, c.n2, sg2, rfl, ?_⟩
          rw [decide_eq_true rfl]
          exact h
        · refine andv (a := true) (b := true) (fun Q h => ?_) (fun _ Q h => ?_) h
          · refine ⟨_, rfl, a, C, dx, _, _, rfl, e1, c.cl, c.n3, sg3, _, rfl, b, C, dy, _, _, rfl, d1, c.cl, c.n3, sg3, rfl, ?_⟩
            rw [decide_eq_true rfl]
            exact h
          · refine ⟨_, rfl, a, C, dx, _, _, rfl, e1, c.cl, c.n4, sg4, _, rfl, b, C, dy, _, _, rfl, d1, c.cl, c.n4, sg4, dList s.path, dList s.path, dp_list (SqL.of e2), dp_list (SqL.of d2), shaped_list _, shaped_list _, ?_⟩
            rw [eqv_nats, decide_eq_true rfl]
            exact h
end
/-- how Stream.__eq__ is known -/
structure TwMk (P : Program) (w : World) (K : PySem.W.Frag) (mg : Str → Option Value) (base : Heap) (C f : Addr) (fd : FuncData) : Prop where
  ok : FnOk P w K mg base CX0 1 f fd ["self", "other"] (spEq (Twin C))
  hs : PySem.W.findIn K (.ref C) "__eq__" = some (some (.ref f))
  hf : PySem.W.isFn K (.ref f) = true
  b : Binds K fd ["self", "other"] []
theorem mon_twin {C2 : Addr} : Mon (DIns C2 (Twin C2)) := mon_ins fun _ _ _ _ e r => twin_mono e r
/-- two entries: twins, equal offsets -/
abbrev DEnt (K : PySem.W.Frag) (C2 : Addr) : Eqv := DTup K (fun x y H => DIns C2 (Twin C2) x y H ∨ DList DFlat x y H)
theorem mon_ent {K : PySem.W.Frag} {C2 : Addr} : Mon (DEnt K C2) := mon_tup (mon_twin.or (mon_list mon_flat))
theorem eqG_ent {X : Cx} {C2 f : Addr} {fd : FuncData} (G : TwMk X.prog X.w X.K X.mg X.base C2 f fd) : EqG X 2 (DEnt X.K C2) := eqG_tup (mon_twin.or (mon_list mon_flat)) ((eqG_ins G.ok G.hs G.hf G.b (E := E0) pass0).or (eqG_list mon_flat eqG_flat))
theorem prs_ints {xs : List Int} {H : Hp} : Prs DFlat (xs.map V.int) (xs.map V.int) H := by
  refine ⟨rfl, fun i x y h1 h2 => ?_⟩
  rw [h1] at h2
  cases Option.some.inj h2
  obtain ⟨n, _, rfl⟩ := ints_at h1
  exact ⟨rfl, rfl, decide_eq_true rfl⟩
theorem dent {K : PySem.W.Frag} {C2 : Addr} {H : Hp} {t u : Addr} {e : EntD} (ht : EntR C2 H t e) (hu : EntR C2 H u e) : DEnt K C2 (.ref t) (.ref u) H := by
  obtain ⟨a, l, h1, h2, h3⟩ := ht
  obtain ⟨b, m, g1, g2, g3⟩ := hu
  obtain ⟨dx, lp, x1, x2⟩ := id h2
  obtain ⟨dy, lq, y1, y2⟩ := id g2
  exact ⟨t, u, _, _, rfl, rfl, SqT.of h1, SqT.of g1, Prs.cons (.inl ⟨a, b, dx, dy, _, _, rfl, rfl, x1, y1, e.s, h2, g2⟩) (Prs.cons (.inr ⟨l, m, _, _, rfl, rfl, h3, g3, prs_ints⟩) Prs.nil)⟩
theorem dents {K : PySem.W.Frag} {C2 : Addr} {H : Hp} {ts us : List Addr} {es : List EntD} (h : EntsR C2 H ts es) (g : EntsR C2 H us es) : Prs (DEnt K C2) (ts.map V.ref) (us.map V.ref) H := by
  induction h generalizing us with
  | nil =>
    cases g
    exact Prs.nil
  | cons r t ih =>
    cases g with
    | cons r' t' => exact Prs.cons (dent r r') (ih t')
abbrev sEq : Stmt := inClass sNet 1 /-Net.__eq__-/
section
variable {P : Program} {w : World} {K : PySem.W.Frag} {mg : Str → Option Value} {base : Heap}
/-! ### Net.__eq__ -/
theorem scEq : FnScope ["self", "other"] ["self", "other"] (defScope sEq) := ⟨rfl, rfl, rfl, by decide +kernel, rfl, by decide +kernel, by decide +kernel⟩
def sameN (N M : NetD) : Bool := decide (N.ks = M.ks) && (decide (N.pr = M.pr) && (decide (N.er = M.er) && Dq.sameD (delaysOf N.ls) (delaysOf M.ls)))
def spEqN (K : PySem.W.Frag) (C : Addr) : Sp := fun vs H Q _ => ∃ (p : Addr) (N : NetD) (y : V), vs = [.ref p, y] ∧ NetAt K C H p N ∧ Dist N.ls ∧
  ((∃ (q : Addr) (M : NetD), y = .ref q ∧ NetAt K C H q M ∧ Dist M.ls ∧ Q (.bl (sameN N M)) H) ∨ (∃ t : Value, TyX K H y t ∧ PySem.W.kitOne K t (.ref C) = some false ∧ Q (.bl false) H))
theorem ok_eq {f C : Addr} {fd : FuncData} {k : Nat} (F : Fun K "__eq__" "Net.__eq__" sEq f fd) (hisi : mg "isinstance" = none) (c : NetC K C) (i : OwnJ K C) (gC : mg "Net" = some (.ref C)) : FnOk P w K mg base CX0 (k + 1) f fd ["self", "other"] (spEqN K C) := by
  refine F.ok scEq (fun vs H Q E h => ?_) (fun cdv A outer s H vs Q E hr h => ?_)
  · obtain ⟨p, N, y, rfl, _⟩ := h
    rfl
  · obtain ⟨p, N, y, rfl, hN, hD, h⟩ := h
    have nd := scEq.nd
    refine ⟨_, pss_one (ps_ret (pe_and (pe_callB call_isi (by rfl) hisi PyProof.Rows.boot_isinstance (pa_cons (pv 1) (pa_cons (pe_glob (v := .ref C) (by rfl) gC rfl (by decide)) pa_nil))) (pe_and (pe_cmpR (op_eqD hr.units) (pe_fld (pv 0) rfl) (pe_fld (pv 1) rfl) (nomark _)) (pe_and (pe_cmpR op_eq (pe_fld (pv 0) rfl) (pe_fld (pv 1) rfl) (nomark _)) (pe_and (pe_cmpR op_eq (pe_fld (pv 0) rfl) (pe_fld (pv 1) rfl) (nomark _)) (pe_one (pe_cmpR (Dq.op_eqT hr.units) (pe_fld (pv 0) rfl) (pe_fld (pv 1) rfl) (nomark _)))))))), ?_⟩
    rcases h with ⟨q, M, rfl, hM, hE, z⟩ | ⟨t, ty, kit, z⟩
    · obtain ⟨dx, lk, ll, ld, ts, e1, e2, e3, e4, e5⟩ := hN
      obtain ⟨dy, mk, ml, md, us, d1, d2, d3, d4, d5⟩ := hM
      refine andv (a := true) (b := sameN N M) (fun Q h => ?_) (fun _ Q h => ?_) z
      · exact ⟨_, rfl, .ref q, .ref C, .ref C, .ref C, true, rfl, .own C, .base (.ins d1 c.cl i.ha i.hn i.htk i.hm), i.me, h⟩
      · refine andv (a := decide (N.ks = M.ks)) (fun Q h => ?_) (fun _ Q h => ?_) h
        · refine ⟨_, rfl, p, C, dx, _, _, rfl, e1, c.cl, c.n1, g1, _, rfl, q, C, dy, _, _, rfl, d1, c.cl, c.n1, g1, dKinds N.ks, dKinds M.ks, dp_kinds (SqL.of e2), dp_kinds (SqL.of d2), (shp_kinds _).shaped, (shp_kinds _).shaped, ?_⟩
          rw [eqv_kinds]
          exact h
        · refine andv (a := decide (N.pr = M.pr)) (fun Q h => ?_) (fun _ Q h => ?_) h
          · refine ⟨_, rfl, p, C, dx, _, _, rfl, e1, c.cl, c.n3, g3, _, rfl, q, C, dy, _, _, rfl, d1, c.cl, c.n3, g3, rfl, ?_⟩
            show Q (.bl (decide (V.int N.pr = V.int M.pr))) H
            rw [dec_int]
            exact h
          · refine andv (a := decide (N.er = M.er)) (fun Q h => ?_) (fun _ Q h => ?_) h
            · refine ⟨_, rfl, p, C, dx, _, _, rfl, e1, c.cl, c.n4, g4, _, rfl, q, C, dy, _, _, rfl, d1, c.cl, c.n4, g4, rfl, ?_⟩
              show Q (.bl (decide (V.int N.er = V.int M.er))) H
              rw [dec_int]
              exact h
            · refine ⟨_, rfl, p, C, dx, _, _, rfl, e1, c.cl, c.n5, g5, _, rfl, q, C, dy, _, _, rfl, d1, c.cl, c.n5, g5, ld, md, _, _, rfl, rfl, e5, d5, ?_, ?_, ?_, h⟩
              · rw [delays_flat hD]; exact flat_ints _
              · rw [delays_flat hE]; exact flat_ints _
              · rw [delays_flat hD]; exact flat_nodup hD
    · exact ⟨_, rfl, y, .ref C, t, .ref C, false, rfl, .own C, ty, kit, false, rfl, z⟩
end
structure EqMk (P : Program) (w : World) (K : PySem.W.Frag) (mg : Str → Option Value) (base : Heap) (C f : Addr) (fd : FuncData) : Prop where
  ok : FnOk P w K mg base CX0 1 f fd ["self", "other"] (spEqN K C)
  hs : PySem.W.findIn K (.ref C) "__eq__" = some (some (.ref f))
  hf : PySem.W.isFn K (.ref f) = true
  b : Binds K fd ["self", "other"] []
section
variable {P : Program} {w : World} {K : PySem.W.Frag} {mg : Str → Option Value} {base : Heap}
theorem eq_test {C : Addr} {H : Hp} {Q : VK} {E : XK} {p q : Addr} {N M : NetD} (hN : NetAt K C H p N) (dN : Dist N.ls) (hM : NetAt K C H q M) (dM : Dist M.ls) (h : Q (.bl (sameN N M)) H) : rOwnE K C (spEqN K C) E (.ref p) (.ref q) H Q := by
  obtain ⟨dx, lk, ll, ld, ts, e1, _⟩ := id hN
  obtain ⟨dy, mk, ml, md, us, d1, _⟩ := id hM
  exact ⟨p, dx, _, rfl, e1, .own d1, p, N, _, rfl, hN, dN, .inl ⟨q, M, rfl, hM, dM, h⟩⟩
end
end My
/-! What is written is read. No row. -/
namespace My
open PySem PySem.Spec PyProof.Rows L2
theorem ReadsAll.app {S A : RdD} {r r' : List Str} {e : RdD ⊕ Nat} (h : ReadsAll S r (.inl A)) (g : ReadsAll A r' e) : ReadsAll S (r ++ r') e := by
  generalize he : (Sum.inl A : RdD ⊕ Nat) = x at h
  induction h with
  | done S => cases he; exact g
  | bad => cases he
  | step h t ih => exact .step h (ih he)
theorem nums_ok {ns : List Int} {bs : List (Int × Int)} (hl : ns.length = bs.length) (hn : ∀ n ∈ ns, 0 ≤ n ∧ n < 10 ^ 9) (hb : (ns.zip bs).all inB = true) : numsOk (ns.map numT) bs = true := by
  unfold numsOk
  have e1 : (ns.map numT).all isNumT = true := by
    rw [List.all_map, List.all_eq_true]
    intro n h
    exact isnum_num (hn n h).1 (hn n h).2
  have e2 : (ns.map numT).map numI = ns := by
    rw [List.map_map]
    conv => rhs; rw [← List.map_id ns]
    exact List.map_congr_left fun n h => numI_num (hn n h).1 (hn n h).2
  rw [List.length_map, decide_eq_true hl, e1, e2, hb]
  rfl
theorem rep_in {ns : List Int} {b : Int × Int} (h : ∀ n ∈ ns, inB (n, b) = true) : (ns.zip (List.replicate ns.length b)).all inB = true := by
  rw [List.all_eq_true]
  intro z hz
  obtain ⟨i, hi⟩ := List.getElem?_of_mem hz
  obtain ⟨h1, h2⟩ := List.getElem?_zip_eq_some.mp hi
  obtain ⟨m, c⟩ := z
  have := (List.mem_replicate.mp (List.mem_of_getElem? h2)).2
  have this : c = b := this
  rw [this]
  exact h m (List.mem_of_getElem? h1)
theorem word_free {i : Int} (h : 0 ≤ i) : 32 ∉ TL.tl (numT i) := num_free h (.inl (by decide))
theorem mem_all {α : Type} {p : α → Prop} {a : α} {r : List α} (h : p a) (g : ∀ x ∈ r, p x) : ∀ x ∈ a :: r, p x := fun x hx => by
  rcases List.mem_cons.mp hx with z | z
  · rw [z]; exact h
  · exact g x z
theorem mem_none {α : Type} {p : α → Prop} : ∀ x ∈ ([] : List α), p x := fun x hx => absurd hx List.not_mem_nil
theorem join_one (x : Str) : Txt.join (" " : Str) [x] = x := TL.ext_tl (by
  rw [TL.join_eq, TL.tl_join]
  rfl)
theorem split_kd (b : Bool) : Txt.split (kdT b) (" " : Str) = [kdT b] := by
  have h := split_words (ws := [kdT b]) (by simp) (mem_all (by cases b <;> decide +kernel) mem_none)
  rw [join_one] at h
  exact h
theorem split_net {a b : Int} (h0 : 0 ≤ a) (h1 : 0 ≤ b) : Txt.split (jsT ["net ", numT a, " ", numT b]) (" " : Str) = [("net" : Str), numT a, numT b] := by
  rw [net_words]
  exact split_words (by simp) (mem_all (by decide +kernel) (mem_all (word_free h0) (mem_all (word_free h1) mem_none)))
theorem split_ln {a b d : Int} (h0 : 0 ≤ a) (h1 : 0 ≤ b) (h2 : 0 ≤ d) : Txt.split (jsT ["line ", numT a, " ", numT b, " ", numT d]) (" " : Str) = [("line" : Str), numT a, numT b, numT d] := by
  rw [line_words]
  exact split_words (by simp) (mem_all (by decide +kernel) (mem_all (word_free h0) (mem_all (word_free h1) (mem_all (word_free h2) mem_none))))
theorem split_ent {a b d : Int} {x y : Str} (h0 : 0 ≤ a) (h1 : 0 ≤ b) (h2 : 0 ≤ d) (hx : 32 ∉ TL.tl x) (hy : 32 ∉ TL.tl y) : Txt.split (jsT ["stream ", jsT [numT a, " ", numT b, " ", numT d], " ", x, " ", y]) (" " : Str) = [("stream" : Str), numT a, numT b, numT d, x, y] := by
  rw [ent_words]
  exact split_words (by simp) (mem_all (by decide +kernel) (mem_all (word_free h0) (mem_all (word_free h1) (mem_all (word_free h2) (mem_all hx (mem_all hy mem_none))))))
/-- a net and an entry within the bounds -/
structure GoodN (N : NetD) : Prop where
  k0 : 1 ≤ N.ks.length
  k1 : N.ks.length ≤ 12
  pr : 0 ≤ N.pr ∧ N.pr ≤ 10
  er : 0 ≤ N.er ∧ N.er ≤ 5
  d : Dist N.ls
  ls : ∀ l ∈ N.ls, l.1 < N.ks.length ∧ l.2.1 < N.ks.length ∧ 0 ≤ l.2.2 ∧ l.2.2 ≤ 20
structure GoodE (N : NetD) (e : EntD) : Prop where
  pe : 1 ≤ e.s.pe ∧ e.s.pe ≤ 60
  ln : 1 ≤ e.s.ln ∧ e.s.ln ≤ e.s.pe
  dl : 1 ≤ e.s.dl ∧ e.s.dl ≤ 300
  p : IsP N e.s.path
  lt : ∀ x ∈ e.s.path, x < N.ks.length
  len : e.os.length + 1 = e.s.path.length
  os : ∀ x ∈ e.os, 0 ≤ x ∧ x ≤ 500
theorem nat_numT {n : Nat} (h : n < 10 ^ 9) : nat (numT (n : Int)) = n := by
  unfold nat
  rw [numI_num (by omega) (by omega)]
  omega
theorem all2 {α : Type} {p : α → Bool} {a b : α} (h1 : p a = true) (h2 : p b = true) : [a, b].all p = true := by simp [h1, h2]
theorem all3 {α : Type} {p : α → Bool} {a b c : α} (h1 : p a = true) (h2 : p b = true) (h3 : p c = true) : [a, b, c].all p = true := by simp [h1, h2, h3]
theorem read_nodes : ∀ (ks : List Bool) (S : RdD), (S.pv = ("net" : Str) ∨ S.pv = ("host" : Str) ∨ S.pv = ("switch" : Str)) → S.N.ks.length + ks.length ≤ 12 →
    ∃ pv : Str, (ks ≠ [] → pv = ("host" : Str) ∨ pv = ("switch" : Str)) ∧ ReadsAll S (ks.map kdT) (.inl ⟨S.pl + ks.length, pv, ⟨S.N.ks ++ ks, S.N.ls, S.N.pr, S.N.er⟩, S.es⟩)
  | [], S, _, _ => ⟨S.pv, fun h => absurd rfl h, by
      rw [List.append_nil]
      exact .done S⟩
  | b :: r, S, hp, hl => by
    rw [List.length_cons] at hl
    have hk : kdT b = ("host" : Str) ∨ kdT b = ("switch" : Str) := by cases b <;> simp [kdT]
    obtain ⟨pv, h1, h2⟩ := read_nodes r ⟨S.pl + 1, kdT b, ⟨S.N.ks ++ [b], S.N.ls, S.N.pr, S.N.er⟩, S.es⟩ (.inr hk) (by show (S.N.ks ++ [b]).length + _ ≤ 12; rw [List.length_append, List.length_singleton]; omega)
    have hw : wd (Txt.split (kdT b) (" " : Str)) 0 = kdT b := by rw [split_kd]; rfl
    have ok : okPlace (wd (Txt.split (kdT b) (" " : Str)) 0) S.pv = true := by
      rw [hw]
      rcases hp with h | h | h <;> rw [h] <;> cases b <;> decide +kernel
    refine ⟨if r = [] then kdT b else pv, fun _ => ?_, .step (.node b ok hw (by rw [split_kd]; rfl) (by omega)) ?_⟩
    · by_cases z : r = []
      · rw [if_pos z]; exact hk
      · rw [if_neg z]; exact h1 z
    · by_cases z : r = []
      · rw [if_pos z, z]
        exact .done _
      · rw [if_neg z]
        have e : (⟨S.pl + (b :: r).length, pv, ⟨S.N.ks ++ b :: r, S.N.ls, S.N.pr, S.N.er⟩, S.es⟩ : RdD) = ⟨S.pl + 1 + r.length, pv, ⟨(S.N.ks ++ [b]) ++ r, S.N.ls, S.N.pr, S.N.er⟩, S.es⟩ := by
          rw [List.length_cons, List.append_assoc, show S.pl + (r.length + 1) = S.pl + 1 + r.length by omega]
          rfl
        rw [e]
        exact h2
theorem read_lines : ∀ (ls : List (Nat × Nat × Int)) (S : RdD), (S.pv = ("host" : Str) ∨ S.pv = ("switch" : Str) ∨ S.pv = ("line" : Str)) → Dist (S.N.ls ++ ls) → S.N.ks.length ≤ 12 → (∀ l ∈ ls, l.1 < S.N.ks.length ∧ l.2.1 < S.N.ks.length ∧ 0 ≤ l.2.2 ∧ l.2.2 ≤ 20) →
    ∃ pv : Str, (pv = ("host" : Str) ∨ pv = ("switch" : Str) ∨ pv = ("line" : Str)) ∧ ReadsAll S (ls.map lnT) (.inl ⟨S.pl + ls.length, pv, ⟨S.N.ks, S.N.ls ++ ls, S.N.pr, S.N.er⟩, S.es⟩)
  | [], S, hp, _, _, _ => ⟨S.pv, hp, by
      rw [List.append_nil]
      exact .done S⟩
  | l :: r, S, hp, hd, hk, hb => by
    have bl := hb l List.mem_cons_self
    obtain ⟨pv, h1, h2⟩ := read_lines r ⟨S.pl + 1, "line", ⟨S.N.ks, S.N.ls ++ [l], S.N.pr, S.N.er⟩, S.es⟩ (.inr (.inr rfl)) (by show Dist ((S.N.ls ++ [l]) ++ r); rw [List.append_assoc]; exact hd) hk fun k hk => hb k (List.mem_cons_of_mem _ hk)
    have sp : Txt.split (lnT l) (" " : Str) = [("line" : Str), numT (l.1 : Int), numT (l.2.1 : Int), numT l.2.2] := split_ln (by omega) (by omega) bl.2.2.1
    have ok : okPlace (wd (Txt.split (lnT l) (" " : Str)) 0) S.pv = true := by
      rw [sp]
      show okPlace ("line" : Str) S.pv = true
      rcases hp with h | h | h <;> rw [h] <;> decide +kernel
    have el : lnOf (Txt.split (lnT l) (" " : Str)) = l := by
      rw [sp]
      show (nat (numT (l.1 : Int)), nat (numT (l.2.1 : Int)), numI (numT l.2.2)) = l
      rw [nat_numT (by omega), nat_numT (by omega), numI_num bl.2.2.1 (by omega)]
    have lo : lineOk S (Txt.split (lnT l) (" " : Str)) := by
      refine ⟨?_, ?_⟩
      · rw [sp]
        refine nums_ok (ns := [(l.1 : Int), (l.2.1 : Int), l.2.2]) rfl (mem_all ⟨by omega, by omega⟩ (mem_all ⟨by omega, by omega⟩ (mem_all ⟨by omega, by omega⟩ mem_none))) ?_
        exact all3 (inB_iff.mpr ⟨by omega, by omega⟩) (inB_iff.mpr ⟨by omega, by omega⟩) (inB_iff.mpr ⟨by omega, by omega⟩)
      · rw [el]
        refine ⟨hd.ne l (by simp), ?_⟩
        unfold joined
        rw [Option.map_eq_none_iff, List.find?_eq_none]
        intro k hk hh
        exact nodup_mid hd k hk (hits_norm hh (hits_mk (.inl ⟨rfl, rfl⟩)))
    refine ⟨pv, h1, .step (.line ok (by rw [sp]; rfl) lo) ?_⟩
    rw [el]
    have e : (⟨S.pl + (l :: r).length, pv, ⟨S.N.ks, S.N.ls ++ l :: r, S.N.pr, S.N.er⟩, S.es⟩ : RdD) = ⟨S.pl + 1 + r.length, pv, ⟨S.N.ks, (S.N.ls ++ [l]) ++ r, S.N.pr, S.N.er⟩, S.es⟩ := by
      rw [List.length_cons, List.append_assoc, show S.pl + (r.length + 1) = S.pl + 1 + r.length by omega]
      rfl
    rw [e]
    exact h2
theorem read_ents : ∀ (es : List EntD) (S : RdD), (S.pv = ("host" : Str) ∨ S.pv = ("switch" : Str) ∨ S.pv = ("line" : Str) ∨ S.pv = ("stream" : Str)) → S.N.ks.length ≤ 12 → (∀ e ∈ es, GoodE S.N e) →
    ∃ pv : Str, ReadsAll S (es.map enT) (.inl ⟨S.pl + es.length, pv, S.N, S.es ++ es⟩)
  | [], S, hp, _, _ => ⟨S.pv, by
      rw [List.append_nil]
      exact .done S⟩
  | e :: r, S, hp, hk, hb => by
    have g := hb e List.mem_cons_self
    have g1 := g.pe
    have g2 := g.ln
    have g3 := g.dl
    obtain ⟨pv, h2⟩ := read_ents r ⟨S.pl + 1, "stream", S.N, S.es ++ [e]⟩ (.inr (.inr (.inr rfl))) hk fun k hk => hb k (List.mem_cons_of_mem _ hk)
    have two := g.p.two
    have gl := g.len
    have pn : ∀ n ∈ e.s.path.map fun (n : Nat) => (n : Int), 0 ≤ n ∧ n ≤ (S.N.ks.length : Int) - 1 := fun n hn => by
      obtain ⟨m, hm, rfl⟩ := List.mem_map.mp hn
      have := g.lt m hm
      omega
    have sp : Txt.split (enT e) (" " : Str) = [("stream" : Str), numT e.s.pe, numT e.s.ln, numT e.s.dl, commaT (e.s.path.map fun (n : Nat) => (n : Int)), commaT e.os] :=
      split_ent (by omega) (by omega) (by omega) (comma_free (fun n hn => (pn n hn).1) (.inl (by decide)) (by decide)) (comma_free (fun n hn => (g.os n hn).1) (.inl (by decide)) (by decide))
    have s4 : Txt.split (commaT (e.s.path.map fun (n : Nat) => (n : Int))) ("," : Str) = (e.s.path.map fun (n : Nat) => (n : Int)).map numT := split_comma (fun z => by rw [List.map_eq_nil_iff.mp z] at two; exact absurd two (by decide)) fun n hn => (pn n hn).1
    have s5 : Txt.split (commaT e.os) ("," : Str) = e.os.map numT := split_comma (fun z => by rw [z] at gl; simp at gl; omega) fun n hn => (g.os n hn).1
    have ok : okPlace (wd (Txt.split (enT e) (" " : Str)) 0) S.pv = true := by
      rw [sp]
      show okPlace ("stream" : Str) S.pv = true
      rcases hp with h | h | h | h <;> rw [h] <;> decide +kernel
    have ep : ((e.s.path.map fun (n : Nat) => (n : Int)).map numT).map nat = e.s.path := by
      rw [List.map_map, List.map_map]
      conv => rhs; rw [← List.map_id e.s.path]
      exact List.map_congr_left fun n hn => nat_numT (by have := g.lt n hn; omega)
    have eo : (e.os.map numT).map numI = e.os := by
      rw [List.map_map]
      conv => rhs; rw [← List.map_id e.os]
      exact List.map_congr_left fun n hn => numI_num (g.os n hn).1 (by have := g.os n hn; omega)
    have el : entOf (Txt.split (enT e) (" " : Str)) = e := by
      rw [sp]
      show (⟨⟨numI (numT e.s.pe), numI (numT e.s.ln), numI (numT e.s.dl), (Txt.split (commaT (e.s.path.map fun (n : Nat) => (n : Int))) ("," : Str)).map nat⟩, (Txt.split (commaT e.os) ("," : Str)).map numI⟩ : EntD) = e
      rw [numI_num (by omega) (by omega), numI_num (by omega) (by omega), numI_num (by omega) (by omega), s4, s5, ep, eo]
    have so : strOk S (Txt.split (enT e) (" " : Str)) := by
      refine ⟨by rw [sp]; rfl, ?_, ?_, ?_, ?_, ?_⟩
      · rw [sp]
        refine nums_ok (ns := [e.s.pe, e.s.ln, e.s.dl]) rfl (mem_all ⟨by omega, by omega⟩ (mem_all ⟨by omega, by omega⟩ (mem_all ⟨by omega, by omega⟩ mem_none))) ?_
        exact all3 (inB_iff.mpr ⟨by omega, by omega⟩) (inB_iff.mpr ⟨by omega, by omega⟩) (inB_iff.mpr ⟨by omega, by omega⟩)
      · rw [el]; omega
      · rw [sp]
        show numsOk (Txt.split (commaT (e.s.path.map fun (n : Nat) => (n : Int))) ("," : Str)) (List.replicate (Txt.split (commaT (e.s.path.map fun (n : Nat) => (n : Int))) ("," : Str)).length (nodeB S.N)) = true
        rw [s4, List.length_map]
        exact nums_ok (by rw [List.length_replicate]) (fun n hn => ⟨(pn n hn).1, by have := pn n hn; omega⟩) (rep_in fun n hn => inB_iff.mpr (pn n hn))
      · rw [el]; exact g.p
      · rw [el, sp]
        show numsOk (Txt.split (commaT e.os) ("," : Str)) (List.replicate (e.s.path.length - 1) (0, 500)) = true
        have elen : e.s.path.length - 1 = e.os.length := by omega
        rw [s5, elen]
        exact nums_ok (by rw [List.length_replicate]) (fun n hn => ⟨(g.os n hn).1, by have := g.os n hn; omega⟩) (rep_in fun n hn => inB_iff.mpr (g.os n hn))
    refine ⟨pv, .step (.stream ok (by rw [sp]; rfl) so) ?_⟩
    rw [el]
    have e' : (⟨S.pl + (e :: r).length, pv, S.N, S.es ++ e :: r⟩ : RdD) = ⟨S.pl + 1 + r.length, pv, S.N, (S.es ++ [e]) ++ r⟩ := by
      rw [List.length_cons, List.append_assoc, show S.pl + (r.length + 1) = S.pl + 1 + r.length by omega]
      rfl
    rw [e']
    exact h2
theorem read_plan {N : NetD} {es : List EntD} (hN : GoodN N) (hE : ∀ e ∈ es, GoodE N e) : ∃ (pl : Nat) (pv : Str), ReadsText (rowsT N es) "" (.inl ⟨pl, pv, N, es⟩) := by
  have k0 := hN.k0
  have k1 := hN.k1
  have h1 := hN.pr
  have h2 := hN.er
  have sp : Txt.split (netT N) (" " : Str) = [("net" : Str), numT N.pr, numT N.er] := split_net h1.1 h2.1
  have r1 : Reads S0 (netT N) ⟨1, "net", ⟨[], [], N.pr, N.er⟩, []⟩ := by
    have h := Reads.net (S := S0) (l := netT N) (by rw [sp]; show okPlace ("net" : Str) ("" : Str) = true; decide +kernel) (by rw [sp]; rfl) (by
      rw [sp]
      exact nums_ok (ns := [N.pr, N.er]) rfl (mem_all ⟨by omega, by omega⟩ (mem_all ⟨by omega, by omega⟩ mem_none)) (all2 (inB_iff.mpr ⟨by omega, by omega⟩) (inB_iff.mpr ⟨by omega, by omega⟩)))
    rw [sp] at h
    have e1 : numI (wd [("net" : Str), numT N.pr, numT N.er] 1) = N.pr := numI_num (by omega) (by omega)
    have e2 : numI (wd [("net" : Str), numT N.pr, numT N.er] 2) = N.er := numI_num (by omega) (by omega)
    rw [e1, e2] at h
    exact h
  obtain ⟨p2, q2, r2⟩ := read_nodes N.ks ⟨1, "net", ⟨[], [], N.pr, N.er⟩, []⟩ (.inl rfl) (by show 0 + _ ≤ 12; omega)
  have q2 := q2 fun z => by rw [z] at k0; exact absurd k0 (by decide)
  obtain ⟨p3, q3, r3⟩ := read_lines N.ls ⟨1 + N.ks.length, p2, ⟨[] ++ N.ks, [], N.pr, N.er⟩, []⟩ (q2.elim .inl fun z => .inr (.inl z)) hN.d k1 hN.ls
  obtain ⟨p4, r4⟩ := read_ents es ⟨1 + N.ks.length + N.ls.length, p3, ⟨[] ++ N.ks, [] ++ N.ls, N.pr, N.er⟩, []⟩ (q3.elim .inl fun z => z.elim (fun z => .inr (.inl z)) fun z => .inr (.inr (.inl z))) k1 hE
  refine ⟨_, p4, .good (S := ⟨1 + N.ks.length + N.ls.length + es.length, p4, N, es⟩) ?_ rfl fun z => by have z : N.ks = [] := z; rw [z] at k0; exact absurd k0 (by decide)⟩
  exact ((ReadsAll.app (.step r1 (.done _)) r2).app r3).app r4
theorem num_asc {i : Int} (h : 0 ≤ i) : Asc (numT i) := fun c hc => by
  rw [numT_tl h] at hc
  have := TL.numL_digits i.toNat c hc
  omega
theorem joinL_all {p : Nat → Prop} {S : List Nat} (hS : ∀ c ∈ S, p c) : ∀ {ls : List (List Nat)}, (∀ l ∈ ls, ∀ c ∈ l, p c) → ∀ c ∈ TL.joinL S ls, p c
  | [], _, c, h => absurd h List.not_mem_nil
  | [q], h, c, hc => h q List.mem_cons_self c hc
  | q :: q' :: r, h, c, hc => by
    have hc : c ∈ q ++ (S ++ TL.joinL S (q' :: r)) := hc
    rcases List.mem_append.mp hc with z | z
    · exact h q List.mem_cons_self c z
    · rcases List.mem_append.mp z with z | z
      · exact hS c z
      · exact joinL_all hS (fun l hl => h l (List.mem_cons_of_mem _ hl)) c z
theorem comma_asc {ns : List Int} (h : ∀ n ∈ ns, 0 ≤ n) : Asc (commaT ns) := by
  unfold Asc commaT
  rw [TL.join_eq, TL.tl_join, show TL.tl ("," : Str) = [44] by decide +kernel]
  refine joinL_all (fun c hc => by rw [List.mem_singleton.mp hc]; decide) fun l hl => ?_
  rw [List.map_map] at hl
  obtain ⟨n, hn, rfl⟩ := List.mem_map.mp hl
  exact num_asc (h n hn)
theorem js_asc {ps : List Str} (h : ∀ p ∈ ps, Asc p) : Asc (jsT ps) := by
  unfold Asc
  rw [tl_js]
  intro c z
  obtain ⟨l, hl, z⟩ := List.mem_flatten.mp z
  obtain ⟨p, hp, rfl⟩ := List.mem_map.mp hl
  exact h p hp c z
/-- the rows are short and of ASCII -/
theorem rows_asc {N : NetD} {es : List EntD} (hN : GoodN N) (hE : ∀ e ∈ es, GoodE N e) (h5 : ∀ e ∈ es, e.s.path.length ≤ 5) : ∀ r ∈ rowsT N es, Asc r ∧ r.length ≤ 250 := fun r hr => by
  have a1 : Asc (" " : Str) := by unfold Asc; decide +kernel
  have a2 : Asc ("net " : Str) := by unfold Asc; decide +kernel
  have a3 : Asc ("line " : Str) := by unfold Asc; decide +kernel
  have a4 : Asc ("stream " : Str) := by unfold Asc; decide +kernel
  have k1 := hN.k1
  have h1 := hN.pr
  have h2 := hN.er
  rcases List.mem_append.mp hr with hr | hr
  · rcases List.mem_append.mp hr with hr | hr
    · rcases List.mem_append.mp hr with hr | hr
      · rw [List.mem_singleton.mp hr]
        exact ⟨js_asc (mem_all a2 (mem_all (num_asc h1.1) (mem_all a1 (mem_all (num_asc h2.1) mem_none)))), Nat.le_trans (jl (jl (jl (jl l0 l2) (num_len h1.1 (by omega))) l1) (num_len h2.1 (by omega))) (by decide)⟩
      · obtain ⟨b, _, rfl⟩ := List.mem_map.mp hr
        refine ⟨?_, Nat.le_trans (kd_len b) (by decide)⟩
        unfold Asc
        cases b <;> decide +kernel
    · obtain ⟨u, hu, rfl⟩ := List.mem_map.mp hr
      have ub := hN.ls u hu
      exact ⟨js_asc (mem_all a3 (mem_all (num_asc (by omega)) (mem_all a1 (mem_all (num_asc (by omega)) (mem_all a1 (mem_all (num_asc ub.2.2.1) mem_none)))))), Nat.le_trans (jl (jl (jl (jl (jl (jl l0 l3) (num_len (show (0 : Int) ≤ (u.1 : Int) by omega) (by omega))) l1) (num_len (show (0 : Int) ≤ (u.2.1 : Int) by omega) (by omega))) l1) (num_len ub.2.2.1 (by omega))) (by decide)⟩
  · obtain ⟨e, he, rfl⟩ := List.mem_map.mp hr
    have g := hE e he
    have g1 := g.pe
    have g2 := g.ln
    have g3 := g.dl
    have p5 := h5 e he
    have gl := g.len
    have pn : ∀ n ∈ e.s.path.map fun (n : Nat) => (n : Int), 0 ≤ n ∧ n < 10 ^ 10 := fun n hn => by
      obtain ⟨m, hm, rfl⟩ := List.mem_map.mp hn
      have := g.lt m hm
      omega
    have on : ∀ n ∈ e.os, 0 ≤ n ∧ n < 10 ^ 10 := fun n hn => by
      have := g.os n hn
      omega
    have c1 := comma_len pn
    have c2 := comma_len on
    rw [List.length_map] at c1
    have c1 : (commaT (e.s.path.map fun (n : Nat) => (n : Int))).length ≤ 55 := by omega
    have c2 : (commaT e.os).length ≤ 44 := by omega
    have w5 : (wdT e.s).length ≤ 50 := jl (jl (jl (jl (jl l0 (num_len (by omega) (by omega))) l1) (num_len (by omega) (by omega))) l1) (num_len (by omega) (by omega))
    have wa : Asc (wdT e.s) := js_asc (mem_all (num_asc (by omega)) (mem_all a1 (mem_all (num_asc (by omega)) (mem_all a1 (mem_all (num_asc (by omega)) mem_none)))))
    exact ⟨js_asc (mem_all a4 (mem_all wa (mem_all a1 (mem_all (comma_asc fun n hn => (pn n hn).1) (mem_all a1 (mem_all (comma_asc fun n hn => (on n hn).1) mem_none)))))), Nat.le_trans (jl (jl (jl (jl (jl (jl l0 l4) w5) l1) c1) l1) c2) (by decide)⟩
end My
namespace My
open PySem PySem.Spec PyProof.Rows L2
abbrev sLaw : Stmt := top 25 /-law-/
theorem ints_ne {H : Hp} {p lo : Addr} {os : List Int} {ts : List Addr} (h : H lo = some (.lst (os.map V.int))) (n : os ≠ []) (hp : H p = some (.lst (ts.map V.ref))) : lo ≠ p := by
  intro z
  subst z
  rw [hp] at h
  injection h with h
  injection h with h
  cases os with
  | nil => exact n rfl
  | cons o r => cases ts with
    | nil => cases h
    | cons t r => injection h with h _; cases h
theorem EntR.butL {C : Addr} {H H' : Hp} {t p : Addr} {ts : List Addr} {e : EntD} (h : EntR C H t e) (n1 : e.s.path ≠ []) (n2 : e.os ≠ []) (hp : H p = some (.lst (ts.map V.ref))) (kb : But p H H') : EntR C H' t e := by
  obtain ⟨u, lo, h1, ⟨dx, lp, h2, h3⟩, h4⟩ := h
  have h3' : H lp = some (.lst ((e.s.path.map fun (n : Nat) => (n : Int)).map V.int)) := by
    rw [h3, List.map_map]
    rfl
  exact ⟨u, lo, kb _ _ h1 (ne_of h1 hp (by intro z; cases z)), ⟨dx, lp, kb _ _ h2 (ne_of h2 hp (by intro z; cases z)), kb _ _ h3 (ints_ne h3' (fun z => n1 (List.map_eq_nil_iff.mp z)) hp)⟩, kb _ _ h4 (ints_ne h4 n2 hp)⟩
theorem sameN_self (N : NetD) : sameN N N = true := by
  unfold sameN Dq.sameD
  rw [decide_eq_true rfl, decide_eq_true rfl, decide_eq_true rfl, beq_self_eq_true]
  show ((delaysOf N.ls).all fun p => decide (valV (delaysOf N.ls) p.1 = valV (delaysOf N.ls) p.1)) = true
  rw [List.all_eq_true]
  exact fun _ _ => decide_eq_true rfl
/-- an entry as the law draws it -/
structure Drawn20 (N : NetD) (e : EntD) : Prop where
  w : EntWf N (foundOf N 4) e
  d : e.s.dl ≤ max 1 (e.os.getD (e.os.length - 1) 0 + travel N e.s (e.os.length - 1) + N.er + 5)
theorem joined_bd {N : NetD} (wf : NetWf N) (a b : Nat) : 0 ≤ (joined N a b).getD 0 ∧ (joined N a b).getD 0 ≤ 4 := by
  unfold joined
  cases e : N.ls.find? (hits a b) with
  | none => exact ⟨by decide, by decide⟩
  | some l => exact wf.ls.dl l (List.mem_of_find?_eq_some e)
theorem travel_bd {N : NetD} (wf : NetWf N) (s : StrD) (h : Nat) : s.ln ≤ travel N s h ∧ travel N s h ≤ s.ln + 6 := by
  have h1 := joined_bd wf (s.path.getD h 0) (s.path.getD (h + 1) 0)
  have h2 := wf.p0
  have h3 := wf.p1
  unfold travel
  split <;> omega
theorem os_bd {N : NetD} {R : List (List Nat)} {e : EntD} (wf : NetWf N) (h : EntWf N R e) : ∀ k, k < e.os.length → e.os.getD k 0 ≤ 12 + 16 * k
  | 0, _ => by
    have := h.os.fst
    have := h.p1
    omega
  | k + 1, hk => by
    have h1 := os_bd wf h k (by omega)
    have h2 := h.os.hi k hk
    have h3 := (travel_bd wf e.s k).2
    have := h.l1
    have := wf.e1
    rw [Int.max_def] at h2
    split at h2 <;> omega
theorem Drawn20.good {N : NetD} {e : EntD} (wf : NetWf N) (h : Drawn20 N e) : GoodE N e ∧ e.s.path.length ≤ 5 := by
  obtain ⟨w, d⟩ := h
  have p5 := (found_lt w.mem).2
  have two := (found_is w.mem).two
  have l := w.len
  have a1 := w.p0
  have a2 := w.p1
  have a3 := w.l0
  have a4 := w.l1
  have a5 := w.d0
  have o1 := os_bd wf w (e.os.length - 1) (by omega)
  have t1 := (travel_bd wf e.s (e.os.length - 1)).2
  have e1 := wf.e1
  have dm : e.s.dl ≤ 300 := by
    rw [Int.max_def] at d
    split at d <;> omega
  refine ⟨⟨⟨by omega, by omega⟩, ⟨a3, by omega⟩, ⟨a5, dm⟩, found_is w.mem, (found_lt w.mem).1, l, fun x hx => ?_⟩, p5⟩
  obtain ⟨i, hi⟩ := List.getElem?_of_mem hx
  have il := (List.getElem?_eq_some_iff.mp hi).1
  have ex : e.os.getD i 0 = x := by rw [List.getD_eq_getElem?_getD, hi]; rfl
  have b1 := w.os.nn i il
  have b2 := os_bd wf w i il
  rw [ex] at b1 b2
  omega
theorem NetWf.good {N : NetD} (wf : NetWf N) : GoodN N := by
  have lk0 := len_count N.ks
  have := wf.h0
  have := wf.h1
  have := wf.s0
  have := wf.s1
  have := wf.p0
  have := wf.p1
  have := wf.e0
  have := wf.e1
  refine ⟨by omega, by omega, ⟨by omega, by omega⟩, ⟨by omega, by omega⟩, wf.ls.dist, fun l hl => ?_⟩
  have b := wf.ls.bd l hl
  have d := wf.ls.dl l hl
  unfold norm at b
  split at b <;> exact ⟨by omega, by omega, d.1, by omega⟩
section
variable {P : Program} {w : World} {K : PySem.W.Frag} {mg : Str → Option Value} {base : Heap}
theorem scLaw : FnScope ["script", "net", "paths", "plan", "k", "text", "told"] ["script"] (defScope sLaw) := ⟨rfl, rfl, rfl, by decide +kernel, rfl, by decide +kernel, by decide +kernel⟩
def spLaw (K : PySem.W.Frag) : Sp := fun vs H Q _ => ∃ (a : Addr) (ns : List Int), vs = [.ref a] ∧ SqL K H a (ns.map V.int) ∧ ns.length ≤ 63 ∧ ∀ H', Q (.bl true) H'
theorem ok_law {f C C2 CE fN fCe fP fE fW fT fR fNe fSe : Addr} {fd fdN fdCe fdP fdE fdW fdT fdR fdNe fdSe : FuncData} {k : Nat} (F : Fun K "law" "law" sLaw f fd) (T : Blt mg) (hisi : mg "isinstance" = none) (hstr : mg "str" = none) (htup : mg "tuple" = none) (c : NetC K C) (c2 : StrC K C2)
    (GN : Callee P w K mg base 3 "_law_net" ["cell", "more"] (spLNet K C) fN fdN) (GC : Callee P w K mg base 1 "_law_cell" ["script", "k"] (spCell K) fCe fdCe) (GP : Callee P w K mg base 2 "_law_paths" ["net", "most"] (spPaths K C) fP fdP) (GE : Callee P w K mg base 3 "_law_entry" ["net", "paths", "cell", "tight"] (spEntryR K C C2) fE fdE)
    (GW : Callee P w K mg base 2 "write_text" ["net", "plan"] (spWrite K C C2) fW fdW) (GT : Callee P w K mg base 1 "_law_text" ["net", "plan"] (spWrite K C C2) fT fdT) (GR : CalleeX P w K mg base 7 "read_text" ["text"] (spRText K C C2 false CE) fR fdR)
    (GNe : EqMk P w K mg base C fNe fdNe) (GSe : TwMk P w K mg base C2 fSe fdSe) : FnOk P w K mg base CX0 (k + 8) f fd ["script"] (spLaw K) := by
  refine F.ok scLaw (fun vs H Q E h => ?_) (fun cdv A0 outer s0 H vs Q E hr h => ?_)
  · obtain ⟨a, ns, rfl, _⟩ := h
    rfl
  · obtain ⟨a, ns, rfl, hS, hlen, q⟩ := h
    have nd := scLaw.nd
    have hr1 : Room 1 _ := hr.mono (by omega)
    have hr2 : Room 2 _ := hr.mono (by omega)
    have hr3 : Room 3 _ := hr.mono (by omega)
    have hr7 : Room 7 _ := hr.mono (by omega)
    refine ⟨_, pss_cons (ps_set (i := 1) nd rfl (.inl rfl) (pe_call GN.ok hr3 (by rfl) GN.mg GN.kp GN.b .nil pass0 (pa_cons (pe_call GC.ok hr1 (by rfl) GC.mg GC.kp GC.b .nil pass0 (pa_cons (pv 0) (pa_cons pe_int pa_nil))) (pa_cons (pe_call GC.ok hr1 (by rfl) GC.mg GC.kp GC.b .nil pass0 (pa_cons (pv 0) (pa_cons pe_int pa_nil))) pa_nil)))) <| pss_cons (ps_set (i := 2) nd rfl (.inl rfl) (pe_call GP.ok hr2 (by rfl) GP.mg GP.kp GP.b .nil pass0 (pa_cons (pv 1) (pa_cons pe_int pa_nil)))) <| pss_cons (ps_set (i := 3) nd rfl (.inl rfl) (pe_lst pa_nil)) <| C8.pss_cut (ps_if (pt_cmpR op_gt (pe_callB call_len_seq (by rfl) T.len PySem.boot_len (pa_cons (pv 2) pa_nil)) pe_int (nomark _)) (pss_one (ps_for PassesOwn.never rfl (pi_range1 (by rfl) T.range (pa_cons (pe_op op_mod (pe_callTy call_int1 (by rfl) T.int (by decide +kernel) (pa_cons (pe_call GC.ok hr1 (by rfl) GC.mg GC.kp GC.b .nil pass0 (pa_cons (pv 0) (pa_cons pe_int pa_nil))) pa_nil)) pe_int) pa_nil)) (pg_name (i := 4) nd rfl (.inl rfl)) (pss_one (ps_expr (pe_bm PySem.F.plainAttrs_list PySem.F.slot_list_append PySem.F.type_list_append mt_append (pv 3) (pa_cons (pe_call GE.ok hr3 (by rfl) GE.mg GE.kp GE.b .nil pass0 (pa_cons (pv 1) (pa_cons (pv 2) (pa_cons (pe_call GC.ok hr1 (by rfl) GC.mg GC.kp GC.b .nil pass0 (pa_cons (pv 0) (pa_cons (pe_op op_add pe_int (pv 4)) pa_nil))) (pa_cons pe_bl pa_nil))))) pa_nil)))))) (pss_nil)) <| pss_cons (ps_set (i := 5) nd rfl (.inl rfl) (pe_call GW.ok hr2 (by rfl) GW.mg GW.kp GW.b .nil pass0 (pa_cons (pv 1) (pa_cons (pv 3) pa_nil)))) <| pss_cons (ps_if (PW.pt (pw_or (pt_not (pt_val (pe_callB call_isi (by rfl) hisi PyProof.Rows.boot_isinstance (pa_cons (pv 5) (pa_cons (pe_bltn (v := .ty "str") (by rfl) hstr PyProof.Rows.boot_str rfl) pa_nil))))) (pw_or1 (pt_cmpR op_ne (pv 5) (pe_call GT.ok hr1 (by rfl) GT.mg GT.kp GT.b .nil pass0 (pa_cons (pv 1) (pa_cons (pv 3) pa_nil))) (nomark _))))) (pss_one (ps_ret pe_bl)) (pss_nil)) <| pss_cons (ps_set (i := 6) nd rfl (.inl rfl) (pe_call GR.ok hr7 (by rfl) GR.mg GR.kp GR.b .nil passL (pa_cons (pv 5) pa_nil))) <| pss_cons (ps_if (PW.pt (pw_or (pt_not (pt_val (pe_callB call_isi (by rfl) hisi PyProof.Rows.boot_isinstance (pa_cons (pv 6) (pa_cons (pe_bltn (v := .ty "tuple") (by rfl) htup PyProof.Rows.boot_tuple rfl) pa_nil))))) (pw_or (pt_cmpR op_ne (pe_callB call_len_seq (by rfl) T.len PySem.boot_len (pa_cons (pv 6) pa_nil)) pe_int (nomark _)) (pw_or (pt_not (pt_cmpR (op_ownE GNe.ok hr1 GNe.hs GNe.hf GNe.b pass0) (pe_ix ix_tup (pv 6) pe_int (fun _ _ => rfl)) (pv 1) (nomark _))) (pw_or1 (pt_cmpR (op_neD hr.units) (pe_fld (pe_ix ix_tup (pv 6) pe_int (fun _ _ => rfl)) rfl) (pe_fld (pv 1) rfl) (nomark _))))))) (pss_one (ps_ret pe_bl)) (pss_nil)) <| pss_one (ps_ret (pe_and (pe_cmpR (op_eqG (rcG_list mon_ent (eqG_ent GSe)) hr3) (pe_ix ix_tup (pv 6) pe_int (fun _ _ => rfl)) (pv 3) (nomark _)) (pe_one (pe_cmpR op_eq (pe_call GW.ok hr2 (by rfl) GW.mg GW.kp GW.b .nil pass0 (pa_cons (pe_ix ix_tup (pv 6) pe_int (fun _ _ => rfl)) (pa_cons (pe_ix ix_tup (pv 6) pe_int (fun _ _ => rfl)) pa_nil))) (pv 5) (nomark _))))), ?_⟩
    refine ⟨_, rfl, a, ns, 0, rfl, hS, _, rfl, a, ns, 1, rfl, hS, _, _, rfl, fun H1 p N s1 np hN wf => ?_⟩
    have lk0 := len_count N.ks
    have n7 : N.ks.length ≤ 7 := by have := wf.h1; have := wf.s1; omega
    have hD : Dist N.ls := wf.ls.dist
    refine ⟨_, rfl, p, 4, N, rfl, hN, n7, by omega, fun H2 pf fs s2 npf hf hR => ?_⟩
    have hN2 := hN.same s2
    have lfs : fs.length = (foundOf N 4).length := hR.length
    have hG : ∀ r ∈ foundOf N 4, IsP N r ∧ (∀ x ∈ r, x < N.ks.length) ∧ r.length ≤ 10 := fun r hr => ⟨found_is hr, (found_lt hr).1, by have := (found_lt hr).2; omega⟩
    -- plan
    refine ⟨Nat.zero_le _, fun pp npp => ?_⟩
    have s3 := same_new (o := .lst []) npp
    have S3 := (s1.trans s2).trans s3
    refine ⟨fun σ' H' => ∃ (v4 : Option V) (ts : List Addr) (es : List EntD), σ' = [some (.ref a), some (.ref p), some (.ref pf), some (.ref pp), v4, none, none] ∧ Same H2 H' ∧ H' pp = some (.lst (ts.map V.ref)) ∧ EntsR C2 H' ts es ∧ es.length ≤ 4 ∧ ∀ e ∈ es, Drawn20 N e, ?_, ?_⟩
    · refine ⟨_, rfl, pf, _, rfl, .inl (SqL.of (s3 _ _ hf)), _, _, rfl, rfl, _, rfl, ?_⟩
      refine ite2 (fun hne => ?_) (fun _ => ⟨none, [], [], rfl, s3, upd_same, .nil, by decide, fun e h => absurd h List.not_mem_nil⟩)
      have hne : foundOf N 4 ≠ [] := fun z => by
        have := of_decide_eq_true hne
        rw [List.length_map, lfs, z] at this
        exact absurd this (by decide)
      have c0 : 0 ≤ ns.getD 2 0 % 5 := Int.emod_nonneg _ (by decide)
      have c1 : ns.getD 2 0 % 5 < 5 := Int.emod_lt_of_pos _ (by decide)
      refine ⟨_, rfl, a, ns, 2, rfl, S3.seq hS, .inl ⟨_, rfl, _, _, rfl, rfl, (by show (0 : Int) < 5; decide), _, rfl, by omega, by omega, ?_⟩⟩
      refine for_range (lo := 0) (n := (ns.getD 2 0 % 5).toNat) (fun i σ H' => ∃ (v4 : Option V) (ts : List Addr) (es : List EntD), σ = [some (.ref a), some (.ref p), some (.ref pf), some (.ref pp), v4, none, none] ∧
        Same H2 H' ∧ H' pp = some (.lst (ts.map V.ref)) ∧ EntsR C2 H' ts es ∧ es.length = i ∧ ∀ e ∈ es, Drawn20 N e) ⟨none, [], [], rfl, s3, upd_same, .nil, rfl, fun e h => by cases h⟩ ?_ ?_
      · rintro i σ H' hi ⟨v4, ts, es, rfl, sm, hp, hE, le, we⟩
        rw [Int.zero_add]
        have lt : ts.length = es.length := hE.length
        refine ⟨_, rfl, .inl ⟨rfl, _, SqL.of hp⟩, _, rfl, _, rfl, _, rfl, _, rfl, _, _, rfl, rfl, a, ns, 3 + i, congrArg (fun z => [V.ref a, V.int z]) (by omega : (3 + (i : Int)) = ((3 + i : Nat) : Int)), ((s1.trans s2).trans sm).seq hS, ?_⟩
        refine ⟨p, pf, _, false, N, fs, foundOf N 4, rfl, hN2.same sm, ⟨wf.e0, wf.e1⟩, sm _ _ hf, hR.same sm, hne, hG, fun H4 t e s4 nt hT hw hd => ?_⟩
        have hp4 := s4 _ _ hp
        have nn : ∀ e : EntD, Drawn20 N e → e.s.path ≠ [] ∧ e.os ≠ [] := fun e w => by
          have two := (found_is w.w.mem).two
          have l := w.w.len
          exact ⟨fun z => by rw [z] at two; exact absurd two (by decide), fun z => by rw [z, List.length_nil] at l; omega⟩
        refine ⟨pp, _, _, rfl, rfl, hp4, szl (by rw [List.length_map]; omega), ?_⟩
        refine ⟨_, ts ++ [t], es ++ [e], rfl, same_but (sm.trans s4) npp but_self, ?_, ?_, by rw [List.length_append, le]; rfl, ?_⟩
        · rw [upd_same, List.map_append]
          rfl
        · refine Paired.snoc (F := fun (t : Addr) (e : EntD) => EntR C2 _ t e) ?_ (Paired.imp2 (hE.same s4) we fun t e h w => ?_)
          · exact hT.butL (nn e ⟨hw, hd⟩).1 (nn e ⟨hw, hd⟩).2 hp4 but_self
          · exact h.butL (nn e w).1 (nn e w).2 hp4 but_self
        · intro x hx
          rcases List.mem_append.mp hx with h | h
          · exact we x h
          · rw [List.mem_singleton.mp h]; exact ⟨hw, hd⟩
      · rintro σ H3 ⟨v4, ts, es, rfl, s4, hp4, hE4, le4, we⟩
        exact ⟨v4, ts, es, rfl, s4, hp4, hE4, by omega, we⟩
    rintro σ' H3 ⟨v4, ts, es, rfl, s3, hp3, hE3, le3, we⟩
    have hN3 := hN2.same s3
    have gN := wf.good
    have gE : ∀ e ∈ es, GoodE N e := fun e he => ((we e he).good wf).1
    have h5 : ∀ e ∈ es, e.s.path.length ≤ 5 := fun e he => ((we e he).good wf).2
    obtain ⟨pl, pv, hT⟩ := read_plan gN gE
    have k1 := gN.k1
    have x1 := gN.pr
    have x2 := gN.er
    have w1 : 0 ≤ N.pr ∧ N.pr < 10 ^ 10 := ⟨x1.1, by omega⟩
    have w2 : 0 ≤ N.er ∧ N.er < 10 ^ 10 := ⟨x2.1, by omega⟩
    have w3 : N.ks.length ≤ 100 := by omega
    have w4 : ∀ l ∈ N.ls, l.1 < 100 ∧ l.2.1 < 100 ∧ 0 ≤ l.2.2 ∧ l.2.2 < 10 ^ 10 := fun l hl => by
      have b := gN.ls l hl
      exact ⟨by omega, by omega, b.2.2.1, by omega⟩
    have w5 : N.ls.length ≤ 1000 := by have := wf.ls.few; omega
    have w6 : es.length ≤ 100 := by omega
    have w7 : ∀ e ∈ es, (0 ≤ e.s.pe ∧ e.s.pe < 10 ^ 10) ∧ (0 ≤ e.s.ln ∧ e.s.ln < 10 ^ 10) ∧ (0 ≤ e.s.dl ∧ e.s.dl < 10 ^ 10) ∧ (∀ n ∈ e.s.path, n < 100) ∧ e.s.path.length ≤ 100 ∧ (∀ n ∈ e.os, 0 ≤ n ∧ n < 10 ^ 10) ∧ e.os.length ≤ 100 := fun e he => by
      have g := gE e he
      have y1 := g.pe
      have y2 := g.ln
      have y3 := g.dl
      have y4 := g.len
      have y5 := h5 e he
      exact ⟨⟨by omega, by omega⟩, ⟨by omega, by omega⟩, ⟨by omega, by omega⟩, fun n hn => by have := g.lt n hn; omega, by omega, fun n hn => by have := g.os n hn; omega, by omega⟩
    refine ⟨_, rfl, _, rfl, ?_⟩
    refine ⟨p, pp, N, ts, es, rfl, hN3, SqL.of hp3, hE3.at, w1, w2, w3, w4, w5, w6, w7, fun H4 s4 => ?_⟩
    have hN4 := hN3.same s4
    have hp4 := s4 _ _ hp3
    have hE4 := hE3.same s4
    dsimp only [gName]
    refine or_read2 (a := false) (b := false) (fun Q h => ?_) (fun H5 s5 Q h => ?_) (fun H5 s5 => ?_)
    · exact ⟨_, rfl, .str _, .ty "str", .type "str", .type "str", true, rfl, .ty "str", .base (.str _), kit_ty (by decide +kernel), _, rfl, h _ (Same.refl _)⟩
    · refine ⟨_, rfl, _, rfl, _, rfl, p, pp, N, ts, es, rfl, hN4.same s5, SqL.of (s5 _ _ hp4), EntsR.at (hE4.same s5), w1, w2, w3, w4, w5, w6, w7, fun H6 s6 => ⟨rfl, _, rfl, ?_⟩⟩
      rw [decide_eq_true rfl]
      exact h _ s6
    refine ite2 (fun z => by cases z) (fun _ => ?_)
    have hN5 := hN4.same s5
    have hp5 := s5 _ _ hp4
    have hE5 := hE4.same s5
    have ra := rows_asc gN gE h5
    have few := wf.ls.few
    have lrows : (rowsT N es).length ≤ 112 := by
      unfold rowsT
      rw [List.length_append, List.length_append, List.length_append, List.length_map, List.length_map, List.length_map, List.length_singleton]
      omega
    have esp : Txt.split (planT N es) ("\n" : Str) = rowsT N es ++ [("" : Str)] := split_glue (rows_free gN.pr.1 gN.er.1 (fun l hl => (gN.ls l hl).2.2.1) fun e he => by
      have g := gE e he
      have y1 := g.pe
      have y2 := g.ln
      have y3 := g.dl
      exact ⟨by omega, by omega, by omega, fun n hn => (g.os n hn).1⟩)
    refine ⟨_, rfl, planT N es, rowsT N es, "", rfl, esp, ?_, by omega, by decide +kernel, ra, fun S hR H6 t np le us s6 ht hN' hle hus => ?_, fun n hR => ?_⟩
    · have := glue_len (R := rowsT N es) fun r hr => Nat.le_trans (ra r hr).2 (by decide)
      exact Nat.le_trans this (by omega)
    · have eS := hR.det hT
      cases eS
      have hN6 := hN5.same s6
      have hp6 := s6 _ _ hp5
      have hE6 := hE5.same s6
      have hN' : NetAt K C H6 np N := hN'
      have hus : EntsR C2 H6 us es := hus
      dsimp only [gName]
      refine or_read2 (a := false) (b := false) (fun Q h => ?_) (fun H7 s7 Q h => ?_) (fun H7 s7 => ?_)
      · exact ⟨_, rfl, .ref t, .ty "tuple", .type "tuple", .type "tuple", true, rfl, .ty "tuple", .base (.tup ht), kit_ty (by decide +kernel), _, rfl, h _ (Same.refl _)⟩
      · refine or_read2 (a := false) (b := false) (fun Q h => ?_) (fun H8 s8 Q h => ?_) (fun H8 s8 => h _ s8)
        · exact ⟨_, rfl, t, _, rfl, .inr (SqT.of (s7 _ _ ht)), rfl, _, rfl, h _ (Same.refl _)⟩
        · have ht8 := s8 _ _ (s7 _ _ ht)
          have S8 := s7.trans s8
          refine or_read2 (a := false) (b := false) (fun Q h => ?_) (fun H9 s9 Q h => ?_) (fun H9 s9 => h _ s9)
          · refine ⟨_, rfl, t, _, _, _, rfl, rfl, SqT.of ht8, rfl, _, rfl, eq_test (hN'.same S8) hD (hN6.same S8) hD ⟨_, rfl, ?_⟩⟩
            rw [sameN_self]
            exact h _ (Same.refl _)
          · have S9 := S8.trans s9
            obtain ⟨dx, lk, ll, ld, tl1, e1, e2, e3, e4, e5⟩ := hN'.same S9
            obtain ⟨dy, mk, ml, md, tl2, d1, d2, d3, d4, d5⟩ := hN6.same S9
            refine ⟨_, rfl, t, _, _, _, rfl, rfl, SqT.of (s9 _ _ ht8), rfl, np, C, dx, _, _, rfl, e1, c.cl, c.n2, g2, _, rfl, p, C, dy, _, _, rfl, d1, c.cl, c.n2, g2, dLines N.ls, dLines N.ls, dp_lines (SqL.of e3) e4, dp_lines (SqL.of d3) d4, (shp_lines _).shaped, (shp_lines _).shaped, _, rfl, ?_⟩
            rw [eqv_lines, decide_eq_true rfl]
            exact h _ (Same.refl _)
      refine ite2 (fun z => by cases z) (fun _ => ?_)
      have ht7 := s7 _ _ ht
      dsimp only [tNext, tRet]
      refine andS (a := true) (b := true) (fun Q h => ?_) (fun _ H8 s8 Q h => ?_) fun H8 s8 => q _
      · exact ⟨_, rfl, t, _, _, _, rfl, rfl, SqT.of ht7, rfl, _, rfl, ⟨le, pp, _, _, rfl, rfl, s7 _ _ hle, s7 _ _ hp6, dents (hus.same s7) (hE6.same s7)⟩, fun H8 e8 => h _ e8⟩
      · have S8 := s7.trans s8
        refine ⟨_, rfl, t, _, _, _, rfl, rfl, SqT.of (S8 _ _ ht), rfl, _, rfl, t, _, _, _, rfl, rfl, SqT.of (S8 _ _ ht), rfl, np, le, N, us, es, rfl, hN'.same S8, SqL.of (S8 _ _ hle), EntsR.at (hus.same S8), w1, w2, w3, w4, w5, w6, w7, fun H9 s9 => ⟨_, rfl, rfl, ?_⟩⟩
        rw [decide_eq_true rfl]
        exact h _ (s8.trans s9)
    · exact absurd (hR.det hT) (by simp)
end
end My
/-! The global PLACES as it is written. No row. -/
namespace My
open PySem PySem.Spec PyProof.Rows L2
theorem sqt_K {K : PySem.W.Frag} {a : Addr} {d : Option Addr} {us : Array Value} {n : Nat} {sl : Array (Option Value)} {xs : List V} (h : K.lookup a = some ⟨.type "tuple", d, .seq us n, sl⟩) (hs : us.size ≤ 100) (r : Vals xs us.toList) (H : Hp) : SqT K H a xs :=
  .inr ⟨_, us, n, h, rfl, rfl, Nat.le_trans hs (by decide), r⟩
theorem ns_find {K : PySem.W.Frag} {D : Addr} {es : List DictEntry} {n : Nat} (h : K.lookup D = some ⟨.type "dict", none, .dict es.toArray n, #[]⟩) (z : Str) (r : Option Value) (hf : (es.find? (·.key.isStr z)).map (·.val) = r) (hr : es.any (·.refKey) = false) : PySem.W.nsIn K D z = some r := by
  unfold PySem.W.nsIn
  rw [h]
  show (match es.toArray.toList.find? (·.key.isStr z) with
    | some e => some (some e.val)
    | none => if es.toArray.toList.any (·.refKey) then none else some none) = some r
  have e : es.toArray.toList = es := rfl
  rw [e, hr, ← hf]
  cases es.find? (·.key.isStr z) <;> rfl
theorem key_is {h : Int} {k : Tok} {x z : Str} {v : Value} : (⟨h, .str x k, v⟩ : DictEntry).key.isStr z = decide (z = x) := by
  show (x == z) = _
  rw [Bool.eq_iff_iff, beq_iff_eq, decide_eq_true_eq]
  exact eq_comm
section
variable {K : PySem.W.Frag} {w : World} {mg : Str → Option Value} {D a1 a2 a3 a4 a5 : Addr} {h1 h2 h3 h4 h5 : Int} {k1 k2 k3 k4 k5 : Tok} {n : Nat}
abbrev plEs (h1 h2 h3 h4 h5 : Int) (k1 k2 k3 k4 k5 : Tok) (a1 a2 a3 a4 a5 : Addr) : List DictEntry := [⟨h1, .str "net" k1, .ref a1⟩, ⟨h2, .str "host" k2, .ref a2⟩, ⟨h3, .str "switch" k3, .ref a3⟩, ⟨h4, .str "line" k4, .ref a4⟩, ⟨h5, .str "stream" k5, .ref a5⟩]
theorem pl_find (z : Str) : ((plEs h1 h2 h3 h4 h5 k1 k2 k3 k4 k5 a1 a2 a3 a4 a5).find? (·.key.isStr z)).map (·.val) = if z = ("net" : Str) then some (.ref a1) else if z = ("host" : Str) then some (.ref a2) else if z = ("switch" : Str) then some (.ref a3) else if z = ("line" : Str) then some (.ref a4) else if z = ("stream" : Str) then some (.ref a5) else none := by
  unfold plEs
  rw [List.find?_cons, key_is]
  by_cases e : z = ("net" : Str)
  · rw [if_pos e, decide_eq_true e]; rfl
  rw [if_neg e, decide_eq_false e, List.find?_cons, key_is]
  by_cases e : z = ("host" : Str)
  · rw [if_pos e, decide_eq_true e]; rfl
  rw [if_neg e, decide_eq_false e, List.find?_cons, key_is]
  by_cases e : z = ("switch" : Str)
  · rw [if_pos e, decide_eq_true e]; rfl
  rw [if_neg e, decide_eq_false e, List.find?_cons, key_is]
  by_cases e : z = ("line" : Str)
  · rw [if_pos e, decide_eq_true e]; rfl
  rw [if_neg e, decide_eq_false e, List.find?_cons, key_is]
  by_cases e : z = ("stream" : Str)
  · rw [if_pos e, decide_eq_true e]; rfl
  rw [if_neg e, decide_eq_false e, List.find?_nil]
  rfl
theorem plc_mk {d1 d2 d3 d4 d5 : Option Addr} {n1 n2 n3 n4 n5 : Nat} {s1 s2 s3 s4 s5 : Array (Option Value)} {j11 j21 j22 j23 j31 j32 j33 j41 j42 j43 j51 j52 j53 j54 : Tok} (hm : mg "PLACES" = some (.ref D))
    (hl : K.lookup D = some ⟨.type "dict", none, .dict (plEs h1 h2 h3 h4 h5 k1 k2 k3 k4 k5 a1 a2 a3 a4 a5).toArray n, #[]⟩) (hk : PySem.W.KeysLit w.params (plEs h1 h2 h3 h4 h5 k1 k2 k3 k4 k5 a1 a2 a3 a4 a5)) (low : (D == sysModules) = false)
    (t1 : K.lookup a1 = some ⟨.type "tuple", d1, .seq #[.str "" j11] n1, s1⟩) (t2 : K.lookup a2 = some ⟨.type "tuple", d2, .seq #[.str "net" j21, .str "host" j22, .str "switch" j23] n2, s2⟩) (t3 : K.lookup a3 = some ⟨.type "tuple", d3, .seq #[.str "net" j31, .str "host" j32, .str "switch" j33] n3, s3⟩)
    (t4 : K.lookup a4 = some ⟨.type "tuple", d4, .seq #[.str "host" j41, .str "switch" j42, .str "line" j43] n4, s4⟩) (t5 : K.lookup a5 = some ⟨.type "tuple", d5, .seq #[.str "host" j51, .str "switch" j52, .str "line" j53, .str "stream" j54] n5, s5⟩) :
    PlC K w mg D (plEs h1 h2 h3 h4 h5 k1 k2 k3 k4 k5 a1 a2 a3 a4 a5).toArray n := by
  have fd := fun z => ns_find hl z _ (pl_find z) rfl
  have c : ∀ {x : Str} {j : Tok} {xs : List V} {us : List Value}, Vals xs us → Vals (.str x :: xs) (.str x j :: us) := fun r => .cons ⟨_, rfl⟩ r
  refine ⟨hm, ⟨hl, hk, low⟩, fun z hz => ?_, fun z l hz => ?_⟩
  · rw [fd z]
    unfold befores at hz
    by_cases e : z = ("net" : Str)
    · rw [if_pos e] at hz; cases hz
    rw [if_neg e] at hz ⊢
    by_cases e : z = ("host" : Str)
    · rw [if_pos e] at hz; cases hz
    rw [if_neg e] at hz ⊢
    by_cases e : z = ("switch" : Str)
    · rw [if_pos e] at hz; cases hz
    rw [if_neg e] at hz ⊢
    by_cases e : z = ("line" : Str)
    · rw [if_pos e] at hz; cases hz
    rw [if_neg e] at hz ⊢
    by_cases e : z = ("stream" : Str)
    · rw [if_pos e] at hz; cases hz
    rw [if_neg e]
  · rw [fd z]
    unfold befores at hz
    by_cases e : z = ("net" : Str)
    · rw [if_pos e] at hz ⊢; cases hz; exact ⟨a1, rfl, sqt_K t1 (by show 1 ≤ 100; decide) (c .nil)⟩
    rw [if_neg e] at hz ⊢
    by_cases e : z = ("host" : Str)
    · rw [if_pos e] at hz ⊢; cases hz; exact ⟨a2, rfl, sqt_K t2 (by show 3 ≤ 100; decide) (c (c (c .nil)))⟩
    rw [if_neg e] at hz ⊢
    by_cases e : z = ("switch" : Str)
    · rw [if_pos e] at hz ⊢; cases hz; exact ⟨a3, rfl, sqt_K t3 (by show 3 ≤ 100; decide) (c (c (c .nil)))⟩
    rw [if_neg e] at hz ⊢
    by_cases e : z = ("line" : Str)
    · rw [if_pos e] at hz ⊢; cases hz; exact ⟨a4, rfl, sqt_K t4 (by show 3 ≤ 100; decide) (c (c (c .nil)))⟩
    rw [if_neg e] at hz ⊢
    by_cases e : z = ("stream" : Str)
    · rw [if_pos e] at hz ⊢; cases hz; exact ⟨a5, rfl, sqt_K t5 (by show 4 ≤ 100; decide) (c (c (c (c .nil))))⟩
    rw [if_neg e] at hz; cases hz
end
end My
namespace My
open PySem PySem.Spec PyProof.Rows L2
/-! ### what the top has written, the head -/
theorem all_mk {l : PySem.W.OpenLaw} {w : World} {K : PySem.W.Frag} {h : Heap} {mg : Str → Option Value} {fa C fI fDl fNq C2 fSi fSe C3 fRi fCh fRl fLn fSm fMn fNs fPo fIp fD fCe fN fJ fP fLr fEn fIn fJo fWt fLt fRt fL : Addr} (X : K.In h) (G : h.Ns mainGlobals mg) (hfa : mg "law" = some (.ref fa))
    {PD a1 a2 a3 a4 a5 : Addr} {h1 h2 h3 h4 h5 : Int} {k1 k2 k3 k4 k5 j11 j21 j22 j23 j31 j32 j33 j41 j42 j43 j51 j52 j53 j54 : Tok} {n n1 n2 n3 n4 n5 : Nat} {d1 d2 d3 d4 d5 : Option Addr} {s1 s2 s3 s4 s5 : Array (Option Value)}
    {DK : Addr}
    {odI anI : Option Addr} {slI : Array (Option Value)} {ocI dcI pmI cdI ctI : Value}
    {tkC0 : Tok}
    {tkC1 : Tok}
    {odDl anDl : Option Addr} {slDl : Array (Option Value)} {ocDl kVDl dcDl pmDl cdDl ctDl : Value}
    {odNq anNq : Option Addr} {slNq : Array (Option Value)} {ocNq kVNq dcNq pmNq cdNq ctNq : Value}
    {odSi anSi : Option Addr} {slSi : Array (Option Value)} {ocSi dcSi pmSi cdSi ctSi kVSi : Value}
    {odSe anSe : Option Addr} {slSe : Array (Option Value)} {ocSe kVSe dcSe pmSe cdSe ctSe : Value}
    {odRi anRi : Option Addr} {slRi : Array (Option Value)} {ocRi dcRi pmRi cdRi ctRi kVRi : Value}
    {odCh anCh : Option Addr} {slCh : Array (Option Value)} {ocCh kVCh dcCh pmCh cdCh ctCh : Value}
    {odRl anRl : Option Addr} {slRl : Array (Option Value)} {ocRl kVRl dcRl pmRl cdRl ctRl : Value}
    {odLn anLn : Option Addr} {slLn : Array (Option Value)} {ocLn kVLn dcLn pmLn cdLn ctLn : Value}
    {odSm anSm : Option Addr} {slSm : Array (Option Value)} {ocSm kVSm dcSm pmSm cdSm ctSm : Value}
    {odMn anMn : Option Addr} {slMn : Array (Option Value)} {ocMn kVMn dcMn pmMn cdMn ctMn : Value}
    {odNs anNs : Option Addr} {slNs : Array (Option Value)} {ocNs kVNs dcNs pmNs cdNs ctNs : Value}
    {odPo anPo : Option Addr} {slPo : Array (Option Value)} {ocPo kVPo dcPo pmPo cdPo ctPo : Value}
    {odIp anIp : Option Addr} {slIp : Array (Option Value)} {ocIp kVIp dcIp pmIp cdIp ctIp : Value}
    {odD anD : Option Addr} {slD : Array (Option Value)} {ocD kVD dcD pmD cdD ctD : Value}
    {odCe anCe : Option Addr} {slCe : Array (Option Value)} {ocCe kVCe dcCe pmCe cdCe ctCe : Value}
    {odN anN : Option Addr} {slN : Array (Option Value)} {ocN kVN dcN pmN cdN ctN : Value}
    {odJ anJ : Option Addr} {slJ : Array (Option Value)} {ocJ kVJ dcJ pmJ cdJ ctJ : Value}
    {odP anP : Option Addr} {slP : Array (Option Value)} {ocP kVP dcP pmP cdP ctP : Value}
    {odLr anLr : Option Addr} {slLr : Array (Option Value)} {ocLr kVLr dcLr pmLr cdLr ctLr : Value}
    {odEn anEn : Option Addr} {slEn : Array (Option Value)} {ocEn kVEn dcEn pmEn cdEn ctEn : Value}
    {odIn anIn : Option Addr} {slIn : Array (Option Value)} {ocIn kVIn dcIn pmIn cdIn ctIn : Value}
    {odJo anJo : Option Addr} {slJo : Array (Option Value)} {ocJo kVJo dcJo pmJo cdJo ctJo : Value}
    {odWt anWt : Option Addr} {slWt : Array (Option Value)} {ocWt kVWt dcWt pmWt cdWt ctWt : Value}
    {odLt anLt : Option Addr} {slLt : Array (Option Value)} {ocLt kVLt dcLt pmLt cdLt ctLt : Value}
    {odRt anRt : Option Addr} {slRt : Array (Option Value)} {ocRt kVRt dcRt pmRt cdRt ctRt : Value}
    {odL anL : Option Addr} {slL : Array (Option Value)} {ocL kVL dcL pmL cdL ctL : Value}
    (aC : PySem.W.nsIn K mainGlobals "Net" = some (some (.ref C)))
    (aI : PySem.W.findIn K (.ref C) "__init__" = some (some (.ref fI)))
    (iI : PySem.W.isFn K (.ref fI) = true)
    (lI : K.lookup fI = some ⟨ocI, odI, .func (PySem.W.fnOf "__init__" "Net.__init__" (defArgs sInit) (defBody sInit) (defScope sInit) .none (.ref DK) dcI pmI anI cdI ctI), slI⟩)
    (cI : PySem.W.codeIn K cdI "Net.__init__" = true)
    (kI : PySem.W.keepIn K (.ref fI) = true)
    (kwC0 : PySem.W.nsIn K DK "processing" = some (some (.int 0 tkC0)))
    (kwC1 : PySem.W.nsIn K DK "error" = some (some (.int 0 tkC1)))
    (aDl : PySem.W.findIn K (.ref C) "delay" = some (some (.ref fDl)))
    (iDl : PySem.W.isFn K (.ref fDl) = true)
    (lDl : K.lookup fDl = some ⟨ocDl, odDl, .func (PySem.W.fnOf "delay" "Net.delay" (defArgs sDelay) (defBody sDelay) (defScope sDelay) .none kVDl dcDl pmDl anDl cdDl ctDl), slDl⟩)
    (cDl : PySem.W.codeIn K cdDl "Net.delay" = true)
    (kDl : PySem.W.keepIn K (.ref fDl) = true)
    (aNq : PySem.W.findIn K (.ref C) "__eq__" = some (some (.ref fNq)))
    (iNq : PySem.W.isFn K (.ref fNq) = true)
    (lNq : K.lookup fNq = some ⟨ocNq, odNq, .func (PySem.W.fnOf "__eq__" "Net.__eq__" (defArgs sEq) (defBody sEq) (defScope sEq) .none kVNq dcNq pmNq anNq cdNq ctNq), slNq⟩)
    (cNq : PySem.W.codeIn K cdNq "Net.__eq__" = true)
    (kNq : PySem.W.keepIn K (.ref fNq) = true)
    (pgC : PySem.W.plainGet K C Str.empty = true)
    (hdC : PySem.W.hasDictIn K C = true)
    (poC : PySem.W.plainOver K C = true)
    (saC : PySem.W.findIn K (.ref C) "__setattr__" = some (some (.builtin "object.__setattr__")))
    (mkC : PySem.W.makesIn K C = true)
    (kcC : PySem.W.keepIn K (.ref C) = true)
    (nC1 : PySem.W.findIn K (.ref C) "kinds" = some none)
    (nC2 : PySem.W.findIn K (.ref C) "lines" = some none)
    (nC3 : PySem.W.findIn K (.ref C) "processing" = some none)
    (nC4 : PySem.W.findIn K (.ref C) "error" = some none)
    (nC5 : PySem.W.findIn K (.ref C) "_delays" = some none)
    (aC2 : PySem.W.nsIn K mainGlobals "Stream" = some (some (.ref C2)))
    (aSi : PySem.W.findIn K (.ref C2) "__init__" = some (some (.ref fSi)))
    (iSi : PySem.W.isFn K (.ref fSi) = true)
    (lSi : K.lookup fSi = some ⟨ocSi, odSi, .func (PySem.W.fnOf "__init__" "Stream.__init__" (defArgs sSInit) (defBody sSInit) (defScope sSInit) .none kVSi dcSi pmSi anSi cdSi ctSi), slSi⟩)
    (cSi : PySem.W.codeIn K cdSi "Stream.__init__" = true)
    (kSi : PySem.W.keepIn K (.ref fSi) = true)
    (aSe : PySem.W.findIn K (.ref C2) "__eq__" = some (some (.ref fSe)))
    (iSe : PySem.W.isFn K (.ref fSe) = true)
    (lSe : K.lookup fSe = some ⟨ocSe, odSe, .func (PySem.W.fnOf "__eq__" "Stream.__eq__" (defArgs sSEq) (defBody sSEq) (defScope sSEq) .none kVSe dcSe pmSe anSe cdSe ctSe), slSe⟩)
    (cSe : PySem.W.codeIn K cdSe "Stream.__eq__" = true)
    (kSe : PySem.W.keepIn K (.ref fSe) = true)
    (pgC2 : PySem.W.plainGet K C2 Str.empty = true)
    (hdC2 : PySem.W.hasDictIn K C2 = true)
    (poC2 : PySem.W.plainOver K C2 = true)
    (saC2 : PySem.W.findIn K (.ref C2) "__setattr__" = some (some (.builtin "object.__setattr__")))
    (mkC2 : PySem.W.makesIn K C2 = true)
    (kcC2 : PySem.W.keepIn K (.ref C2) = true)
    (nC21 : PySem.W.findIn K (.ref C2) "period" = some none)
    (nC22 : PySem.W.findIn K (.ref C2) "length" = some none)
    (nC23 : PySem.W.findIn K (.ref C2) "deadline" = some none)
    (nC24 : PySem.W.findIn K (.ref C2) "path" = some none)
    (aC3 : PySem.W.nsIn K mainGlobals "Reader" = some (some (.ref C3)))
    (aRi : PySem.W.findIn K (.ref C3) "__init__" = some (some (.ref fRi)))
    (iRi : PySem.W.isFn K (.ref fRi) = true)
    (lRi : K.lookup fRi = some ⟨ocRi, odRi, .func (PySem.W.fnOf "__init__" "Reader.__init__" (defArgs sRInit) (defBody sRInit) (defScope sRInit) .none kVRi dcRi pmRi anRi cdRi ctRi), slRi⟩)
    (cRi : PySem.W.codeIn K cdRi "Reader.__init__" = true)
    (kRi : PySem.W.keepIn K (.ref fRi) = true)
    (aCh : PySem.W.findIn K (.ref C3) "check" = some (some (.ref fCh)))
    (iCh : PySem.W.isFn K (.ref fCh) = true)
    (lCh : K.lookup fCh = some ⟨ocCh, odCh, .func (PySem.W.fnOf "check" "Reader.check" (defArgs sCheck) (defBody sCheck) (defScope sCheck) .none kVCh dcCh pmCh anCh cdCh ctCh), slCh⟩)
    (cCh : PySem.W.codeIn K cdCh "Reader.check" = true)
    (kCh : PySem.W.keepIn K (.ref fCh) = true)
    (aRl : PySem.W.findIn K (.ref C3) "read_line" = some (some (.ref fRl)))
    (iRl : PySem.W.isFn K (.ref fRl) = true)
    (lRl : K.lookup fRl = some ⟨ocRl, odRl, .func (PySem.W.fnOf "read_line" "Reader.read_line" (defArgs sRLine) (defBody sRLine) (defScope sRLine) .none kVRl dcRl pmRl anRl cdRl ctRl), slRl⟩)
    (cRl : PySem.W.codeIn K cdRl "Reader.read_line" = true)
    (kRl : PySem.W.keepIn K (.ref fRl) = true)
    (aLn : PySem.W.findIn K (.ref C3) "read_net_line" = some (some (.ref fLn)))
    (iLn : PySem.W.isFn K (.ref fLn) = true)
    (lLn : K.lookup fLn = some ⟨ocLn, odLn, .func (PySem.W.fnOf "read_net_line" "Reader.read_net_line" (defArgs sNLine) (defBody sNLine) (defScope sNLine) .none kVLn dcLn pmLn anLn cdLn ctLn), slLn⟩)
    (cLn : PySem.W.codeIn K cdLn "Reader.read_net_line" = true)
    (kLn : PySem.W.keepIn K (.ref fLn) = true)
    (aSm : PySem.W.findIn K (.ref C3) "read_stream" = some (some (.ref fSm)))
    (iSm : PySem.W.isFn K (.ref fSm) = true)
    (lSm : K.lookup fSm = some ⟨ocSm, odSm, .func (PySem.W.fnOf "read_stream" "Reader.read_stream" (defArgs sRStr) (defBody sRStr) (defScope sRStr) .none kVSm dcSm pmSm anSm cdSm ctSm), slSm⟩)
    (cSm : PySem.W.codeIn K cdSm "Reader.read_stream" = true)
    (kSm : PySem.W.keepIn K (.ref fSm) = true)
    (aMn : PySem.W.findIn K (.ref C3) "read_numbers" = some (some (.ref fMn)))
    (iMn : PySem.W.isFn K (.ref fMn) = true)
    (lMn : K.lookup fMn = some ⟨ocMn, odMn, .func (PySem.W.fnOf "read_numbers" "Reader.read_numbers" (defArgs sNums) (defBody sNums) (defScope sNums) .none kVMn dcMn pmMn anMn cdMn ctMn), slMn⟩)
    (cMn : PySem.W.codeIn K cdMn "Reader.read_numbers" = true)
    (kMn : PySem.W.keepIn K (.ref fMn) = true)
    (aNs : PySem.W.findIn K (.ref C3) "net_so_far" = some (some (.ref fNs)))
    (iNs : PySem.W.isFn K (.ref fNs) = true)
    (lNs : K.lookup fNs = some ⟨ocNs, odNs, .func (PySem.W.fnOf "net_so_far" "Reader.net_so_far" (defArgs sNsf) (defBody sNsf) (defScope sNsf) .none kVNs dcNs pmNs anNs cdNs ctNs), slNs⟩)
    (cNs : PySem.W.codeIn K cdNs "Reader.net_so_far" = true)
    (kNs : PySem.W.keepIn K (.ref fNs) = true)
    (pgC3 : PySem.W.plainGet K C3 Str.empty = true)
    (hdC3 : PySem.W.hasDictIn K C3 = true)
    (poC3 : PySem.W.plainOver K C3 = true)
    (saC3 : PySem.W.findIn K (.ref C3) "__setattr__" = some (some (.builtin "object.__setattr__")))
    (mkC3 : PySem.W.makesIn K C3 = true)
    (kcC3 : PySem.W.keepIn K (.ref C3) = true)
    (nC31 : PySem.W.findIn K (.ref C3) "place" = some none)
    (nC32 : PySem.W.findIn K (.ref C3) "previous" = some none)
    (nC33 : PySem.W.findIn K (.ref C3) "processing" = some none)
    (nC34 : PySem.W.findIn K (.ref C3) "error" = some none)
    (nC35 : PySem.W.findIn K (.ref C3) "kinds" = some none)
    (nC36 : PySem.W.findIn K (.ref C3) "lines" = some none)
    (nC37 : PySem.W.findIn K (.ref C3) "entries" = some none)
    (aPo : PySem.W.nsIn K mainGlobals "ports_of" = some (some (.ref fPo)))
    (lPo : K.lookup fPo = some ⟨ocPo, odPo, .func (PySem.W.fnOf "ports_of" "ports_of" (defArgs sPorts) (defBody sPorts) (defScope sPorts) .none kVPo dcPo pmPo anPo cdPo ctPo), slPo⟩)
    (cPo : PySem.W.codeIn K cdPo "ports_of" = true)
    (kPo : PySem.W.keepIn K (.ref fPo) = true)
    (aIp : PySem.W.nsIn K mainGlobals "is_path" = some (some (.ref fIp)))
    (lIp : K.lookup fIp = some ⟨ocIp, odIp, .func (PySem.W.fnOf "is_path" "is_path" (defArgs sIsP) (defBody sIsP) (defScope sIsP) .none kVIp dcIp pmIp anIp cdIp ctIp), slIp⟩)
    (cIp : PySem.W.codeIn K cdIp "is_path" = true)
    (kIp : PySem.W.keepIn K (.ref fIp) = true)
    (aD : PySem.W.nsIn K mainGlobals "_law_draw" = some (some (.ref fD)))
    (lD : K.lookup fD = some ⟨ocD, odD, .func (PySem.W.fnOf "_law_draw" "_law_draw" (defArgs sDraw) (defBody sDraw) (defScope sDraw) .none kVD dcD pmD anD cdD ctD), slD⟩)
    (cD : PySem.W.codeIn K cdD "_law_draw" = true)
    (kD : PySem.W.keepIn K (.ref fD) = true)
    (aCe : PySem.W.nsIn K mainGlobals "_law_cell" = some (some (.ref fCe)))
    (lCe : K.lookup fCe = some ⟨ocCe, odCe, .func (PySem.W.fnOf "_law_cell" "_law_cell" (defArgs sCell) (defBody sCell) (defScope sCell) .none kVCe dcCe pmCe anCe cdCe ctCe), slCe⟩)
    (cCe : PySem.W.codeIn K cdCe "_law_cell" = true)
    (kCe : PySem.W.keepIn K (.ref fCe) = true)
    (aN : PySem.W.nsIn K mainGlobals "_law_net" = some (some (.ref fN)))
    (lN : K.lookup fN = some ⟨ocN, odN, .func (PySem.W.fnOf "_law_net" "_law_net" (defArgs sLNet) (defBody sLNet) (defScope sLNet) .none kVN dcN pmN anN cdN ctN), slN⟩)
    (cN : PySem.W.codeIn K cdN "_law_net" = true)
    (kN : PySem.W.keepIn K (.ref fN) = true)
    (aJ : PySem.W.nsIn K mainGlobals "_law_joined" = some (some (.ref fJ)))
    (lJ : K.lookup fJ = some ⟨ocJ, odJ, .func (PySem.W.fnOf "_law_joined" "_law_joined" (defArgs sJoined) (defBody sJoined) (defScope sJoined) .none kVJ dcJ pmJ anJ cdJ ctJ), slJ⟩)
    (cJ : PySem.W.codeIn K cdJ "_law_joined" = true)
    (kJ : PySem.W.keepIn K (.ref fJ) = true)
    (aP : PySem.W.nsIn K mainGlobals "_law_paths" = some (some (.ref fP)))
    (lP : K.lookup fP = some ⟨ocP, odP, .func (PySem.W.fnOf "_law_paths" "_law_paths" (defArgs sPaths) (defBody sPaths) (defScope sPaths) .none kVP dcP pmP anP cdP ctP), slP⟩)
    (cP : PySem.W.codeIn K cdP "_law_paths" = true)
    (kP : PySem.W.keepIn K (.ref fP) = true)
    (aLr : PySem.W.nsIn K mainGlobals "_law_ready" = some (some (.ref fLr)))
    (lLr : K.lookup fLr = some ⟨ocLr, odLr, .func (PySem.W.fnOf "_law_ready" "_law_ready" (defArgs sReady) (defBody sReady) (defScope sReady) .none kVLr dcLr pmLr anLr cdLr ctLr), slLr⟩)
    (cLr : PySem.W.codeIn K cdLr "_law_ready" = true)
    (kLr : PySem.W.keepIn K (.ref fLr) = true)
    (aEn : PySem.W.nsIn K mainGlobals "_law_entry" = some (some (.ref fEn)))
    (lEn : K.lookup fEn = some ⟨ocEn, odEn, .func (PySem.W.fnOf "_law_entry" "_law_entry" (defArgs sEntry) (defBody sEntry) (defScope sEntry) .none kVEn dcEn pmEn anEn cdEn ctEn), slEn⟩)
    (cEn : PySem.W.codeIn K cdEn "_law_entry" = true)
    (kEn : PySem.W.keepIn K (.ref fEn) = true)
    (aIn : PySem.W.nsIn K mainGlobals "is_number" = some (some (.ref fIn)))
    (lIn : K.lookup fIn = some ⟨ocIn, odIn, .func (PySem.W.fnOf "is_number" "is_number" (defArgs sIsNum) (defBody sIsNum) (defScope sIsNum) .none kVIn dcIn pmIn anIn cdIn ctIn), slIn⟩)
    (cIn : PySem.W.codeIn K cdIn "is_number" = true)
    (kIn : PySem.W.keepIn K (.ref fIn) = true)
    (aJo : PySem.W.nsIn K mainGlobals "joined" = some (some (.ref fJo)))
    (lJo : K.lookup fJo = some ⟨ocJo, odJo, .func (PySem.W.fnOf "joined" "joined" (defArgs sTJoined) (defBody sTJoined) (defScope sTJoined) .none kVJo dcJo pmJo anJo cdJo ctJo), slJo⟩)
    (cJo : PySem.W.codeIn K cdJo "joined" = true)
    (kJo : PySem.W.keepIn K (.ref fJo) = true)
    (aWt : PySem.W.nsIn K mainGlobals "write_text" = some (some (.ref fWt)))
    (lWt : K.lookup fWt = some ⟨ocWt, odWt, .func (PySem.W.fnOf "write_text" "write_text" (defArgs sWrite) (defBody sWrite) (defScope sWrite) .none kVWt dcWt pmWt anWt cdWt ctWt), slWt⟩)
    (cWt : PySem.W.codeIn K cdWt "write_text" = true)
    (kWt : PySem.W.keepIn K (.ref fWt) = true)
    (aLt : PySem.W.nsIn K mainGlobals "_law_text" = some (some (.ref fLt)))
    (lLt : K.lookup fLt = some ⟨ocLt, odLt, .func (PySem.W.fnOf "_law_text" "_law_text" (defArgs sLText) (defBody sLText) (defScope sLText) .none kVLt dcLt pmLt anLt cdLt ctLt), slLt⟩)
    (cLt : PySem.W.codeIn K cdLt "_law_text" = true)
    (kLt : PySem.W.keepIn K (.ref fLt) = true)
    (aRt : PySem.W.nsIn K mainGlobals "read_text" = some (some (.ref fRt)))
    (lRt : K.lookup fRt = some ⟨ocRt, odRt, .func (PySem.W.fnOf "read_text" "read_text" (defArgs sRText) (defBody sRText) (defScope sRText) .none kVRt dcRt pmRt anRt cdRt ctRt), slRt⟩)
    (cRt : PySem.W.codeIn K cdRt "read_text" = true)
    (kRt : PySem.W.keepIn K (.ref fRt) = true)
    (aL : PySem.W.nsIn K mainGlobals "law" = some (some (.ref fL)))
    (lL : K.lookup fL = some ⟨ocL, odL, .func (PySem.W.fnOf "law" "law" (defArgs sLaw) (defBody sLaw) (defScope sLaw) .none kVL dcL pmL anL cdL ctL), slL⟩)
    (cL : PySem.W.codeIn K cdL "law" = true)
    (kL : PySem.W.keepIn K (.ref fL) = true)
    (z_range : PySem.W.nsIn K mainGlobals "range" = some none)
    (z_len : PySem.W.nsIn K mainGlobals "len" = some none)
    (z_int : PySem.W.nsIn K mainGlobals "int" = some none)
    (z_list : PySem.W.nsIn K mainGlobals "list" = some none)
    (z_enum : PySem.W.nsIn K mainGlobals "enumerate" = some none)
    (z_zip : PySem.W.nsIn K mainGlobals "zip" = some none)
    (z_max : PySem.W.nsIn K mainGlobals "max" = some none)
    (z_isi : PySem.W.nsIn K mainGlobals "isinstance" = some none)
    (z_set : PySem.W.nsIn K mainGlobals "set" = some none)
    (z_all : PySem.W.nsIn K mainGlobals "all" = some none)
    (z_str : PySem.W.nsIn K mainGlobals "str" = some none)
    (z_tup : PySem.W.nsIn K mainGlobals "tuple" = some none)
    (ha : PySem.W.findIn K (.ref C2) "__class__" = some (some (.builtin "object.__class__")))
    (haN : PySem.W.findIn K (.ref C) "__class__" = some (some (.builtin "object.__class__")))
    (hn : PySem.W.specialIn K (.builtin "object.__class__") "__get__" = some (some (.builtin "getset_descriptor.__get__")))
    (htk : PySem.W.takesIn K (.builtin "object.__class__") = some true)
    (hm : PySem.W.mroIn K C2 (.type "object") = some true)
    (hmN : PySem.W.mroIn K C (.type "object") = some true)
    (zPD : PySem.W.nsIn K mainGlobals "PLACES" = some (some (.ref PD)))
    (dPD : K.lookup PD = some ⟨.type "dict", none, .dict (plEs h1 h2 h3 h4 h5 k1 k2 k3 k4 k5 a1 a2 a3 a4 a5).toArray n, #[]⟩)
    (kyPD : PySem.W.KeysLit w.params (plEs h1 h2 h3 h4 h5 k1 k2 k3 k4 k5 a1 a2 a3 a4 a5))
    (loPD : (PD == sysModules) = false)
    (t1 : K.lookup a1 = some ⟨.type "tuple", d1, .seq #[.str "" j11] n1, s1⟩)
    (t2 : K.lookup a2 = some ⟨.type "tuple", d2, .seq #[.str "net" j21, .str "host" j22, .str "switch" j23] n2, s2⟩)
    (t3 : K.lookup a3 = some ⟨.type "tuple", d3, .seq #[.str "net" j31, .str "host" j32, .str "switch" j33] n3, s3⟩)
    (t4 : K.lookup a4 = some ⟨.type "tuple", d4, .seq #[.str "host" j41, .str "switch" j42, .str "line" j43] n4, s4⟩)
    (t5 : K.lookup a5 = some ⟨.type "tuple", d5, .seq #[.str "host" j51, .str "switch" j52, .str "line" j53, .str "stream" j54] n5, s5⟩) :
    ∃ fd : FuncData, (∀ (s : Shared) (v : Value), BindsTo s fd ⟨[v], []⟩ [("script", v)]) ∧ ∀ base : Heap, K.In base → base.Ns mainGlobals mg → FnOk l.prog w K mg base CX0 8 fa fd ["script"] (spLaw K) := by
  have e := hfa.symm.trans (PySem.W.mg_of X G aL)
  cases e
  have T : Blt mg := ⟨PySem.W.mg_none_of X G z_range, PySem.W.mg_none_of X G z_len, PySem.W.mg_none_of X G z_int, PySem.W.mg_none_of X G z_list, PySem.W.mg_none_of X G z_enum⟩
  have hrange := PySem.W.mg_none_of X G z_range
  have hlen := PySem.W.mg_none_of X G z_len
  have hint := PySem.W.mg_none_of X G z_int
  have hlist := PySem.W.mg_none_of X G z_list
  have henum := PySem.W.mg_none_of X G z_enum
  have hzip := PySem.W.mg_none_of X G z_zip
  have hmax := PySem.W.mg_none_of X G z_max
  have hisi := PySem.W.mg_none_of X G z_isi
  have hset := PySem.W.mg_none_of X G z_set
  have hall := PySem.W.mg_none_of X G z_all
  have hstr := PySem.W.mg_none_of X G z_str
  have htup := PySem.W.mg_none_of X G z_tup
  have cC : NetC K C := ⟨⟨pgC, hdC, poC, saC⟩, nC1, nC2, nC3, nC4, nC5⟩
  have gCC := PySem.W.mg_of X G aC
  have FI : FunInit K fI _ := ⟨⟨_, _, _, _, _, _, _, _, _, _, rfl, lI, cI, .inl ⟨rfl, rfl⟩, .inr ⟨DK, rfl, fun q hq => by
    rcases List.mem_cons.mp hq with rfl | hq
    · exact ⟨_, kwC0, ⟨_, rfl⟩⟩
    rw [List.mem_singleton.mp hq]
    exact ⟨_, kwC1, ⟨_, rfl⟩⟩⟩⟩, kI⟩
  have MIC : Mk K C fI := ⟨mkC, aI, iI, kcC⟩
  have FDl := fun_mk (st := sDelay) lDl cDl kDl
  have mDl : Meth K C "delay" fDl := ⟨aDl, iDl, kDl⟩
  have BDl : Binds K _ ["self", "a", "b"] [] := FDl.binds (ps := ["self", "a", "b"]) fun _ _ _ _ _ _ us hl => match us, hl with | [_, _, _], _ => rfl
  have FNq := fun_mk (st := sEq) lNq cNq kNq
  have mNq : Meth K C "__eq__" fNq := ⟨aNq, iNq, kNq⟩
  have BNq : Binds K _ ["self", "other"] [] := FNq.binds (ps := ["self", "other"]) fun _ _ _ _ _ _ us hl => match us, hl with | [_, _], _ => rfl
  have cC2 : StrC K C2 := ⟨⟨pgC2, hdC2, poC2, saC2⟩, nC21, nC22, nC23, nC24⟩
  have gCC2 := PySem.W.mg_of X G aC2
  have FSi := fun_mk (st := sSInit) lSi cSi kSi
  have BSi : Binds K _ ["self", "period", "length", "deadline", "path"] [] := FSi.binds (ps := ["self", "period", "length", "deadline", "path"]) fun _ _ _ _ _ _ us hl => match us, hl with | [_, _, _, _, _], _ => rfl
  have MIC2 : Mk K C2 fSi := ⟨mkC2, aSi, iSi, kcC2⟩
  have FSe := fun_mk (st := sSEq) lSe cSe kSe
  have mSe : Meth K C2 "__eq__" fSe := ⟨aSe, iSe, kSe⟩
  have BSe : Binds K _ ["self", "other"] [] := FSe.binds (ps := ["self", "other"]) fun _ _ _ _ _ _ us hl => match us, hl with | [_, _], _ => rfl
  have cC3 : RdC K C3 := ⟨⟨pgC3, hdC3, poC3, saC3⟩, nC31, nC32, nC33, nC34, nC35, nC36, nC37⟩
  have gCC3 := PySem.W.mg_of X G aC3
  have FRi := fun_mk (st := sRInit) lRi cRi kRi
  have BRi : Binds K _ ["self"] [] := FRi.binds (ps := ["self"]) fun _ _ _ _ _ _ us hl => match us, hl with | [_], _ => rfl
  have MIC3 : Mk K C3 fRi := ⟨mkC3, aRi, iRi, kcC3⟩
  have FCh := fun_mk (st := sCheck) lCh cCh kCh
  have mCh : Meth K C3 "check" fCh := ⟨aCh, iCh, kCh⟩
  have BCh : Binds K _ ["self", "holds"] [] := FCh.binds (ps := ["self", "holds"]) fun _ _ _ _ _ _ us hl => match us, hl with | [_, _], _ => rfl
  have FRl := fun_mk (st := sRLine) lRl cRl kRl
  have mRl : Meth K C3 "read_line" fRl := ⟨aRl, iRl, kRl⟩
  have BRl : Binds K _ ["self", "line"] [] := FRl.binds (ps := ["self", "line"]) fun _ _ _ _ _ _ us hl => match us, hl with | [_, _], _ => rfl
  have FLn := fun_mk (st := sNLine) lLn cLn kLn
  have mLn : Meth K C3 "read_net_line" fLn := ⟨aLn, iLn, kLn⟩
  have BLn : Binds K _ ["self", "words"] [] := FLn.binds (ps := ["self", "words"]) fun _ _ _ _ _ _ us hl => match us, hl with | [_, _], _ => rfl
  have FSm := fun_mk (st := sRStr) lSm cSm kSm
  have mSm : Meth K C3 "read_stream" fSm := ⟨aSm, iSm, kSm⟩
  have BSm : Binds K _ ["self", "words"] [] := FSm.binds (ps := ["self", "words"]) fun _ _ _ _ _ _ us hl => match us, hl with | [_, _], _ => rfl
  have FMn := fun_mk (st := sNums) lMn cMn kMn
  have mMn : Meth K C3 "read_numbers" fMn := ⟨aMn, iMn, kMn⟩
  have BMn : Binds K _ ["self", "words", "bounds"] [] := FMn.binds (ps := ["self", "words", "bounds"]) fun _ _ _ _ _ _ us hl => match us, hl with | [_, _, _], _ => rfl
  have FNs := fun_mk (st := sNsf) lNs cNs kNs
  have mNs : Meth K C3 "net_so_far" fNs := ⟨aNs, iNs, kNs⟩
  have BNs : Binds K _ ["self"] [] := FNs.binds (ps := ["self"]) fun _ _ _ _ _ _ us hl => match us, hl with | [_], _ => rfl
  have FPo := fun_mk (st := sPorts) lPo cPo kPo
  have gPo := PySem.W.mg_of X G aPo
  have BPo : Binds K _ ["path"] [] := FPo.binds (ps := ["path"]) fun _ _ _ _ _ _ us hl => match us, hl with | [_], _ => rfl
  have FIp := fun_mk (st := sIsP) lIp cIp kIp
  have gIp := PySem.W.mg_of X G aIp
  have BIp : Binds K _ ["net", "nodes"] [] := FIp.binds (ps := ["net", "nodes"]) fun _ _ _ _ _ _ us hl => match us, hl with | [_, _], _ => rfl
  have FD := fun_mk (st := sDraw) lD cD kD
  have gD := PySem.W.mg_of X G aD
  have BD : Binds K _ ["cell", "many", "bound"] [] := FD.binds (ps := ["cell", "many", "bound"]) fun _ _ _ _ _ _ us hl => match us, hl with | [_, _, _], _ => rfl
  have FCe := fun_mk (st := sCell) lCe cCe kCe
  have gCe := PySem.W.mg_of X G aCe
  have BCe : Binds K _ ["script", "k"] [] := FCe.binds (ps := ["script", "k"]) fun _ _ _ _ _ _ us hl => match us, hl with | [_, _], _ => rfl
  have FN := fun_mk (st := sLNet) lN cN kN
  have gN := PySem.W.mg_of X G aN
  have BN : Binds K _ ["cell", "more"] [] := FN.binds (ps := ["cell", "more"]) fun _ _ _ _ _ _ us hl => match us, hl with | [_, _], _ => rfl
  have FJ := fun_mk (st := sJoined) lJ cJ kJ
  have gJ := PySem.W.mg_of X G aJ
  have BJ : Binds K _ ["net", "a", "b"] [] := FJ.binds (ps := ["net", "a", "b"]) fun _ _ _ _ _ _ us hl => match us, hl with | [_, _, _], _ => rfl
  have FP := fun_mk (st := sPaths) lP cP kP
  have gP := PySem.W.mg_of X G aP
  have BP : Binds K _ ["net", "most"] [] := FP.binds (ps := ["net", "most"]) fun _ _ _ _ _ _ us hl => match us, hl with | [_, _], _ => rfl
  have FLr := fun_mk (st := sReady) lLr cLr kLr
  have gLr := PySem.W.mg_of X G aLr
  have BLr : Binds K _ ["net", "stream", "offsets"] [] := FLr.binds (ps := ["net", "stream", "offsets"]) fun _ _ _ _ _ _ us hl => match us, hl with | [_, _, _], _ => rfl
  have FEn := fun_mk (st := sEntry) lEn cEn kEn
  have gEn := PySem.W.mg_of X G aEn
  have BEn : Binds K _ ["net", "paths", "cell", "tight"] [] := FEn.binds (ps := ["net", "paths", "cell", "tight"]) fun _ _ _ _ _ _ us hl => match us, hl with | [_, _, _, _], _ => rfl
  have FIn := fun_mk (st := sIsNum) lIn cIn kIn
  have gIn := PySem.W.mg_of X G aIn
  have BIn : Binds K _ ["word"] [] := FIn.binds (ps := ["word"]) fun _ _ _ _ _ _ us hl => match us, hl with | [_], _ => rfl
  have FJo := fun_mk (st := sTJoined) lJo cJo kJo
  have gJo := PySem.W.mg_of X G aJo
  have BJo : Binds K _ ["numbers"] [] := FJo.binds (ps := ["numbers"]) fun _ _ _ _ _ _ us hl => match us, hl with | [_], _ => rfl
  have FWt := fun_mk (st := sWrite) lWt cWt kWt
  have gWt := PySem.W.mg_of X G aWt
  have BWt : Binds K _ ["net", "plan"] [] := FWt.binds (ps := ["net", "plan"]) fun _ _ _ _ _ _ us hl => match us, hl with | [_, _], _ => rfl
  have FLt := fun_mk (st := sLText) lLt cLt kLt
  have gLt := PySem.W.mg_of X G aLt
  have BLt : Binds K _ ["net", "plan"] [] := FLt.binds (ps := ["net", "plan"]) fun _ _ _ _ _ _ us hl => match us, hl with | [_, _], _ => rfl
  have FRt := fun_mk (st := sRText) lRt cRt kRt
  have gRt := PySem.W.mg_of X G aRt
  have BRt : Binds K _ ["text"] [] := FRt.binds (ps := ["text"]) fun _ _ _ _ _ _ us hl => match us, hl with | [_], _ => rfl
  have FL := fun_mk (st := sLaw) lL cL kL
  refine ⟨PySem.W.fnOf "law" "law" (defArgs sLaw) (defBody sLaw) (defScope sLaw) .none kVL dcL pmL anL cdL ctL, fun s v => .of_eq rfl, fun base _ _ => ?_⟩
  have oi : OwnJ K C2 := ⟨ha, hn, htk, hm, if_pos (beq_self_eq_true _)⟩
  have oiN : OwnJ K C := ⟨haN, hn, htk, hmN, if_pos (beq_self_eq_true _)⟩
  have GI : NetMk l.prog w K mg base C fI _ := ⟨ok_init FI T cC, gCC, MIC, kb_net FI⟩
  have GSi : StrMk l.prog w K mg base C2 fSi _ := ⟨ok_sinit FSi T cC2, gCC2, MIC2, BSi, kcC2⟩
  have GSe : TwMk l.prog w K mg base C2 fSe _ := ⟨ok_twin FSe hisi cC2 oi gCC2, mSe.1, mSe.2, BSe⟩
  have GNq : EqMk l.prog w K mg base C fNq _ := ⟨ok_eq FNq hisi cC oiN gCC, mNq.1, mNq.2, BNq⟩
  have GDl : MethOf l.prog w K mg base 1 ["self", "a", "b"] (spDelay K C) fDl _ := ⟨ok_delay FDl cC, BDl⟩
  have GD : Callee l.prog w K mg base 1 "_law_draw" ["cell", "many", "bound"] spDraw fD _ := ⟨ok_draw FD T, gD, FD.kp, BD⟩
  have GCe : Callee l.prog w K mg base 1 "_law_cell" ["script", "k"] (spCell K) fCe _ := ⟨ok_cell FCe T, gCe, FCe.kp, BCe⟩
  have GN : Callee l.prog w K mg base 3 "_law_net" ["cell", "more"] (spLNet K C) fN _ := ⟨ok_lnet FN T GD GI, gN, FN.kp, BN⟩
  have GJ : Callee l.prog w K mg base 1 "_law_joined" ["net", "a", "b"] (spJoined K C) fJ _ := ⟨ok_joined FJ cC, gJ, FJ.kp, BJ⟩
  have GP : Callee l.prog w K mg base 2 "_law_paths" ["net", "most"] (spPaths K C) fP _ := ⟨ok_paths FP T cC GJ, gP, FP.kp, BP⟩
  have GPo : Callee l.prog w K mg base 1 "ports_of" ["path"] (spPo K) fPo _ := ⟨ok_ports FPo T hzip, gPo, FPo.kp, BPo⟩
  have GIp : Callee l.prog w K mg base 2 "is_path" ["net", "nodes"] (spIs K C) fIp _ := ⟨ok_is FIp T hset hall cC GPo mDl GDl, gIp, FIp.kp, BIp⟩
  have GLr : Callee l.prog w K mg base 2 "_law_ready" ["net", "stream", "offsets"] (spReady K C C2) fLr _ := ⟨ok_ready FLr T cC cC2 GJ, gLr, FLr.kp, BLr⟩
  have GEn : Callee l.prog w K mg base 3 "_law_entry" ["net", "paths", "cell", "tight"] (spEntryR K C C2) fEn _ := ⟨ok_entryR FEn T hmax cC cC2 GD GLr GSi, gEn, FEn.kp, BEn⟩
  have GIn : Callee l.prog w K mg base 1 "is_number" ["word"] spIsNum fIn _ := ⟨ok_isnum FIn T.len, gIn, FIn.kp, BIn⟩
  have GJo : Callee l.prog w K mg base 1 "joined" ["numbers"] (spTJoined K) fJo _ := ⟨ok_tjoined FJo hstr, gJo, FJo.kp, BJo⟩
  have GWt : Callee l.prog w K mg base 2 "write_text" ["net", "plan"] (spWrite K C C2) fWt _ := ⟨ok_write FWt cC cC2 GJo, gWt, FWt.kp, BWt⟩
  have GLt : Callee l.prog w K mg base 1 "_law_text" ["net", "plan"] (spWrite K C C2) fLt _ := ⟨ok_ltext FLt hstr cC cC2, gLt, FLt.kp, BLt⟩
  have pl := plc_mk (w := w) (mg := mg) (PySem.W.mg_of X G zPD) dPD kyPD loPD t1 t2 t3 t4 t5
  have GRi : RdMk l.prog w K mg base C3 fRi _ := ⟨ok_rinit FRi cC3, gCC3, MIC3, BRi⟩
  have GCh : MethX l.prog w K mg base 3 ["self", "holds"] (spCheck C3 false C) fCh _ := ⟨ok_check0 FCh, BCh⟩
  have GMn : MethX l.prog w K mg base 4 ["self", "words", "bounds"] (spNums K C3 false C) fMn _ := ⟨ok_nums FMn cC3 T hall hzip mCh GCh GIn, BMn⟩
  have GNs : MethOf l.prog w K mg base 3 ["self"] (spNsf K C3 C C2) fNs _ := ⟨ok_nsf FNs cC3 GI, BNs⟩
  have GLn : MethX l.prog w K mg base 5 ["self", "words"] (spNLine K C3 C C2 false C) fLn _ := ⟨ok_nline FLn cC3 cC T mCh GCh mMn GMn mNs GNs mDl GDl, BLn⟩
  have GSm : MethX l.prog w K mg base 5 ["self", "words"] (spRStr K C3 C C2 false C) fSm _ := ⟨ok_rstr FSm cC3 T mCh GCh mMn GMn mNs GNs GIp GSi, BSm⟩
  have GRl : MethX l.prog w K mg base 6 ["self", "line"] (spRLine K C3 C C2 false C) fRl _ := ⟨ok_rline FRl cC3 T pl mCh GCh mMn GMn mLn GLn mSm GSm, BRl⟩
  have GRt : CalleeX l.prog w K mg base 7 "read_text" ["text"] (spRText K C C2 false C) fRt _ := ⟨ok_rtext FRt cC3 T GRi mCh GCh mRl GRl mNs GNs, gRt, FRt.kp, BRt⟩
  exact ok_law FL T hisi hstr htup cC cC2 GN GCe GP GEn GWt GLt GRt GNq GSe
end My
open PySem PySem.W PyProof.Rows in
set_option maxHeartbeats 0 in
theorem PySem.Challenge.cw_metronet_k20_texts_of_plans_holds : PySem.Challenge.rw_metronet_k20_texts_of_plans.Holds := by
  w_on; o_law; k_head; (case hw => w_witness2)
  k_fill
  refine L2.walk_of (l := PySem.Challenge.rw_metronet_k20_texts_of_plans) (n := 63) (k := 8) (x := "script") (CX := fun _ => L2.CX0) (sp := fun w => My.spLaw _) rfl (by decide) rfl ⟨rfl, by decide, by decide⟩ (fun w h Y => PySem.W.kIn_of Y) ?F (fun _ _ a ns hl _ hS => ⟨a, ns, rfl, hS, hl, fun _ => rfl⟩) (fun _ _ _ _ _ h => h)
  case F =>
    intro w mg fa h KX G hmg
    refine' My.all_mk KX G hmg ?aC ?aI ?iI ?lI ?cI ?kI ?kwC0 ?kwC1 ?aDl ?iDl ?lDl ?cDl ?kDl ?aNq ?iNq ?lNq ?cNq ?kNq ?pgC ?hdC ?poC ?saC ?mkC ?kcC ?nC1 ?nC2 ?nC3 ?nC4 ?nC5 ?aC2 ?aSi ?iSi ?lSi ?cSi ?kSi ?aSe ?iSe ?lSe ?cSe ?kSe ?pgC2 ?hdC2 ?poC2 ?saC2 ?mkC2 ?kcC2 ?nC21 ?nC22 ?nC23 ?nC24 ?aC3 ?aRi ?iRi ?lRi ?cRi ?kRi ?aCh ?iCh ?lCh ?cCh ?kCh ?aRl ?iRl ?lRl ?cRl ?kRl ?aLn ?iLn ?lLn ?cLn ?kLn ?aSm ?iSm ?lSm ?cSm ?kSm ?aMn ?iMn ?lMn ?cMn ?kMn ?aNs ?iNs ?lNs ?cNs ?kNs ?pgC3 ?hdC3 ?poC3 ?saC3 ?mkC3 ?kcC3 ?nC31 ?nC32 ?nC33 ?nC34 ?nC35 ?nC36 ?nC37 ?aPo ?lPo ?cPo ?kPo ?aIp ?lIp ?cIp ?kIp ?aD ?lD ?cD ?kD ?aCe ?lCe ?cCe ?kCe ?aN ?lN ?cN ?kN ?aJ ?lJ ?cJ ?kJ ?aP ?lP ?cP ?kP ?aLr ?lLr ?cLr ?kLr ?aEn ?lEn ?cEn ?kEn ?aIn ?lIn ?cIn ?kIn ?aJo ?lJo ?cJo ?kJo ?aWt ?lWt ?cWt ?kWt ?aLt ?lLt ?cLt ?kLt ?aRt ?lRt ?cRt ?kRt ?aL ?lL ?cL ?kL ?z_range ?z_len ?z_int ?z_list ?z_enum ?z_zip ?z_max ?z_isi ?z_set ?z_all ?z_str ?z_tup ?ha ?haN ?hn ?htk ?hm ?hmN ?zPD ?dPD ?kyPD ?loPD ?t1 ?t2 ?t3 ?t4 ?t5
    (case aC => k_is)
    (case aI => k_is)
    (case iI => k_is)
    (case lI => k_is)
    (case cI => k_is)
    (case kI => k_is)
    (case kwC0 => k_is)
    (case kwC1 => k_is)
    (case aDl => k_is)
    (case iDl => k_is)
    (case lDl => k_is)
    (case cDl => k_is)
    (case kDl => k_is)
    (case aNq => k_is)
    (case iNq => k_is)
    (case lNq => k_is)
    (case cNq => k_is)
    (case kNq => k_is)
    (case pgC => k_is)
    (case hdC => k_is)
    (case poC => k_is)
    (case saC => k_is)
    (case mkC => k_is)
    (case kcC => k_is)
    (case nC1 => k_is)
    (case nC2 => k_is)
    (case nC3 => k_is)
    (case nC4 => k_is)
    (case nC5 => k_is)
    (case aC2 => k_is)
    (case aSi => k_is)
    (case iSi => k_is)
    (case lSi => k_is)
    (case cSi => k_is)
    (case kSi => k_is)
    (case aSe => k_is)
    (case iSe => k_is)
    (case lSe => k_is)
    (case cSe => k_is)
    (case kSe => k_is)
    (case pgC2 => k_is)
    (case hdC2 => k_is)
    (case poC2 => k_is)
    (case saC2 => k_is)
    (case mkC2 => k_is)
    (case kcC2 => k_is)
    (case nC21 => k_is)
    (case nC22 => k_is)
    (case nC23 => k_is)
    (case nC24 => k_is)
    (case aC3 => k_is)
    (case aRi => k_is)
    (case iRi => k_is)
    (case lRi => k_is)
    (case cRi => k_is)
    (case kRi => k_is)
    (case aCh => k_is)
    (case iCh => k_is)
    (case lCh => k_is)
    (case cCh => k_is)
    (case kCh => k_is)
    (case aRl => k_is)
    (case iRl => k_is)
    (case lRl => k_is)
    (case cRl => k_is)
    (case kRl => k_is)
    (case aLn => k_is)
    (case iLn => k_is)
    (case lLn => k_is)
    (case cLn => k_is)
    (case kLn => k_is)
    (case aSm => k_is)
    (case iSm => k_is)
    (case lSm => k_is)
    (case cSm => k_is)
    (case kSm => k_is)
    (case aMn => k_is)
    (case iMn => k_is)
    (case lMn => k_is)
    (case cMn => k_is)
    (case kMn => k_is)
    (case aNs => k_is)
    (case iNs => k_is)
    (case lNs => k_is)
    (case cNs => k_is)
    (case kNs => k_is)
    (case pgC3 => k_is)
    (case hdC3 => k_is)
    (case poC3 => k_is)
    (case saC3 => k_is)
    (case mkC3 => k_is)
    (case kcC3 => k_is)
    (case nC31 => k_is)
    (case nC32 => k_is)
    (case nC33 => k_is)
    (case nC34 => k_is)
    (case nC35 => k_is)
    (case nC36 => k_is)
    (case nC37 => k_is)
    (case aPo => k_is)
    (case lPo => k_is)
    (case cPo => k_is)
    (case kPo => k_is)
    (case aIp => k_is)
    (case lIp => k_is)
    (case cIp => k_is)
    (case kIp => k_is)
    (case aD => k_is)
    (case lD => k_is)
    (case cD => k_is)
    (case kD => k_is)
    (case aCe => k_is)
    (case lCe => k_is)
    (case cCe => k_is)
    (case kCe => k_is)
    (case aN => k_is)
    (case lN => k_is)
    (case cN => k_is)
    (case kN => k_is)
    (case aJ => k_is)
    (case lJ => k_is)
    (case cJ => k_is)
    (case kJ => k_is)
    (case aP => k_is)
    (case lP => k_is)
    (case cP => k_is)
    (case kP => k_is)
    (case aLr => k_is)
    (case lLr => k_is)
    (case cLr => k_is)
    (case kLr => k_is)
    (case aEn => k_is)
    (case lEn => k_is)
    (case cEn => k_is)
    (case kEn => k_is)
    (case aIn => k_is)
    (case lIn => k_is)
    (case cIn => k_is)
    (case kIn => k_is)
    (case aJo => k_is)
    (case lJo => k_is)
    (case cJo => k_is)
    (case kJo => k_is)
    (case aWt => k_is)
    (case lWt => k_is)
    (case cWt => k_is)
    (case kWt => k_is)
    (case aLt => k_is)
    (case lLt => k_is)
    (case cLt => k_is)
    (case kLt => k_is)
    (case aRt => k_is)
    (case lRt => k_is)
    (case cRt => k_is)
    (case kRt => k_is)
    (case aL => k_is)
    (case lL => k_is)
    (case cL => k_is)
    (case kL => k_is)
    (case z_range => k_is)
    (case z_len => k_is)
    (case z_int => k_is)
    (case z_list => k_is)
    (case z_enum => k_is)
    (case z_zip => k_is)
    (case z_max => k_is)
    (case z_isi => k_is)
    (case z_set => k_is)
    (case z_all => k_is)
    (case z_str => k_is)
    (case z_tup => k_is)
    (case ha => k_is)
    (case haN => k_is)
    (case hn => k_is)
    (case htk => k_is)
    (case hm => k_is)
    (case hmN => k_is)
    (case zPD => k_is)
    (case dPD => k_is)
    (case kyPD => k_keys)
    (case loPD => decide)
    (case t1 => k_is)
    (case t2 => k_is)
    (case t3 => k_is)
    (case t4 => k_is)
    (case t5 => k_is)
