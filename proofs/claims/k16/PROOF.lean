import PyProof.Rows.All
import Wide.All
import OpenK.AllK
import Wide.FinOn
import HandS.ForMost
import HandS.Wide
import HandS.Defaults
import HandS.MakeKwOnly
import HandS.Flow
import HandS.More
import HandS.Walk
import KE.LtData
import HandS.TupSets
import HandS.SortKw
import HandS.SetKeys
import KE.DataMinMax
import HandS.DictTup
import PyProof.DictMoreH
import HandS.SortRule
import KE.KItemsList
import KE.KDictZip
import KE.KTurns
import KE.KEqDict
import PyProof.DictFindH
import HandS.Gcd
import HandS.IsInst
import KE.KMathGC
import HandS.Deep
import HandS.Codes
import PyProof.Rows.TupDisplay
import HandS.Iter
import PyProof.NeKinds
import HandS.DictComp
import HandS.Conv
import PySem.Challenge.RW_metronet_k16_whole_streams_that_come_and
set_option Elab.async false
set_option linter.all false
set_option maxRecDepth 100000
set_option maxHeartbeats 4000000
/-! What any law wants, without the row: heaps, loops, order of data. -/
namespace My
open PySem PySem.Spec PyProof.Rows L2

theorem same_new {H : Hp} {p : Addr} {o : HO} (h : H p = none) : Same H (upd H p o) := fun b x e => by
  rw [upd_ne (ne_of_none e h)]
  exact e
/-- an object that H does not know may change -/
theorem same_mut {H H' : Hp} {p : Addr} {o : HO} (e : Same H H') (h : H p = none) : Same H (upd H' p o) := fun a u ha => by
  rw [upd_ne (ne_of_none ha h)]
  exact e a u ha
theorem ne_new {H H' : Hp} {a p : Addr} (n : H p = none) (h : H' p ≠ none) (e : H' a = none) : p ≠ a := fun q => h (q ▸ e)
/-- a list of ints by place -/
theorem ints_at {ns : List Int} {i : Nat} {y : V} (h : (ns.map V.int)[i]? = some y) : ∃ n, ns[i]? = some n ∧ y = .int n := by
  rw [List.getElem?_map] at h
  cases e : ns[i]? with
  | none => rw [e] at h; cases h
  | some n => rw [e] at h; exact ⟨n, rfl, (Option.some.inj h).symm⟩
theorem int_at {ns : List Int} {i : Nat} {n : Int} (h : ns[i]? = some n) : (ns.map V.int)[i]? = some (.int n) := by
  rw [List.getElem?_map, h]; rfl
theorem atI_int {ns : List Int} {i : Nat} (h : i < ns.length) : atI (ns.map V.int) (i : Int) = some (.int ns[i]) := atI_nat (int_at (List.getElem?_eq_getElem h))
theorem sz {n : Nat} (h : n ≤ 100000) : n ≤ sizeLine := Nat.le_trans h (by decide)
theorem szl {n : Nat} (h : n < 100000) : n < sizeLine := Nat.lt_of_lt_of_le h (by decide)

theorem getD_lt {α : Type} {xs : List α} {j : Nat} (d : α) (h : j < xs.length) : xs.getD j d = xs[j] := by
  rw [List.getD_eq_getElem?_getD, List.getElem?_eq_getElem h]; rfl
theorem getD_at {α : Type} {xs : List α} {j : Nat} (d : α) (h : j < xs.length) : xs[j]? = some (xs.getD j d) := by
  rw [getD_lt d h, List.getElem?_eq_getElem h]
theorem atI_ints {ns : List Int} {z : Int} {j : Nat} (e : z = (j : Int)) (h : j < ns.length) : atI (ns.map V.int) z = some (.int (ns.getD j 0)) := by
  rw [e]
  exact atI_nat (int_at (getD_at 0 h))
theorem getD_mem {ns : List Int} {j : Nat} (h : j < ns.length) : ns.getD j 0 ∈ ns := by
  rw [getD_lt 0 h]; exact List.getElem_mem h
/-! ### tests that change nothing -/
theorem or_read {t u : TT} {σ : L2.St} {H : Hp} {Q : Bool → Hp → Prop} {a b : Bool} (ht : ∀ Q : Bool → Hp → Prop, Q a H → t σ H Q) (hu : ∀ Q : Bool → Hp → Prop, Q b H → u σ H Q) (h : Q (a || b) H) : tOr t u σ H Q := by
  refine ht _ ?_
  cases a with
  | true => exact iteT h
  | false => exact iteF (hu _ h)
theorem and_read {t u : TT} {σ : L2.St} {H : Hp} {Q : Bool → Hp → Prop} {a b : Bool} (ht : ∀ Q : Bool → Hp → Prop, Q a H → t σ H Q) (hu : a = true → ∀ Q : Bool → Hp → Prop, Q b H → u σ H Q) (h : Q (a && b) H) : tAnd t u σ H Q := by
  refine ht _ ?_
  cases a with
  | true => exact iteT (hu rfl _ h)
  | false => exact iteF h
/-! ### < of data -/
section
variable {X : Cx}
def rLtD (K : PySem.W.Frag) : R2 := fun x y H Q => ∃ d e, Dp K H x d ∧ Dp K H y e ∧ PySem.W.alike d e = true ∧ d ≠ .none ∧ min d.depth e.depth ≤ 64 ∧ Q (.bl (PySem.W.dataLt d e)) H
theorem op_ltD (hu : X.A.units + 64 < cLine) : OpR X (compareOp .Lt) (rLtD X.K) := by
  intro pins s σ H x y v u Q I rx ry h
  obtain ⟨d, e, hd, he, al, nn, dp, q⟩ := h
  obtain ⟨as, r1⟩ := Dp.reads I d x v hd rx
  obtain ⟨bs, r2⟩ := Dp.reads I e y u he ry
  have z : wpAny (model X.prog X.w) X.A (compareOp .Lt v u) (EP X pins σ Q) X.xe s := PySem.W.rcLt_alike d e X.A s v u as bs r1 r2 al nn (by omega) X.prog X.w X.xe (EP X pins σ Q) ⟨.bl _, H, I, rfl, q⟩
  exact z
end
/-! ### rules that name the written part, for a comprehension's block -/
section
variable {X : Cx} {K : PySem.W.Frag}
theorem pe_fldK {e : Expr} {f : Str} {pos : Pos} {ta : TE} (he : PE X e ta) (hK : X.K = K := by rfl) (hb : attributeBase e f X.env (eval e X.env) = eval e X.env := by rfl) : PE X (.Attribute e f pos) (tFld K ta f) := by
  subst hK
  exact pe_fld he hb
theorem ix_listK (hK : X.K = K := by rfl) : IxR X (rIxL K) := by
  subst hK
  exact ix_list
theorem ix_tupK (hK : X.K = K := by rfl) : IxR X (rIxT K) := by
  subst hK
  exact ix_tup
def rLenK (K : PySem.W.Frag) : List V → Hp → VK → Prop := fun xs H Q => ∃ p ys, xs = [.ref p] ∧ (SqL K H p ys ∨ SqT K H p ys) ∧ Q (.int ys.length) H
theorem call_lenK (hK : X.K = K := by rfl) : CallR X (.builtin "len") (rLenK K) := by
  subst hK
  exact call_len_seq
theorem pg_tupK {es : List Expr} {k : Nat} {t : TGs} {n : Nat} {pos : Pos} (hc : X.calm = true) (h : PGs X es t) (hK : X.K = K := by rfl)
    (hn : (assignEach es X.env).length = n := by rfl) (hst : (assignEach es X.env).findIdx? (·.1) = none := by rfl) : PG X (.Tuple es k pos) (gTup K n t) := by
  subst hK
  exact pg_tup hc h hn hst
end
end My
/-! min(d, default=..), max(d, default=..) over the int keys of a dict. No row. -/
namespace My
open PySem PySem.Spec PyProof.Rows L2
section
variable {X : Cx}
def rMinKD : List V → List V → Hp → VK → Prop := fun vs zs H Q => ∃ (a : Addr) (kvs : List (Key × V)) (is : List Int) (d : V), vs = [V.ref a] ∧ zs = [d] ∧ H a = some (.dK kvs) ∧ kvs.map (·.1) = is.map Sum.inl ∧ (is = [] → Q d H) ∧ (is ≠ [] → ∀ m, m ∈ is → (∀ j ∈ is, m ≤ j) → Q (.int m) H)
def rMaxKD : List V → List V → Hp → VK → Prop := fun vs zs H Q => ∃ (a : Addr) (kvs : List (Key × V)) (is : List Int) (d : V), vs = [V.ref a] ∧ zs = [d] ∧ H a = some (.dK kvs) ∧ kvs.map (·.1) = is.map Sum.inl ∧ (is = [] → Q d H) ∧ (is ≠ [] → ∀ m, m ∈ is → (∀ j ∈ is, j ≤ m) → Q (.int m) H)
theorem cr_minKD (hc : X.calm = true) : CallRK X (.builtin "min") ["default"] rMinKD := by
  intro pins s σ H vs zs us ws Q I r r2 h
  obtain ⟨a, kvs, is, d, rfl, rfl, ha, hv, q0, q⟩ := h
  rw [Vals.ref1 r]
  obtain ⟨dv, rd, rfl⟩ : ∃ dv, RelV d dv ∧ ws = [dv] := by
    cases r2 with
    | cons r t => cases t with
      | nil => exact ⟨_, r, rfl⟩
  obtain ⟨_, hsys, vs, rel, dof⟩ := dk_of I.hok ha
  obtain ⟨ep, dat⟩ := dof.dictAt
  obtain ⟨ob, es, ho, hex, hdat, hko, hpr, hnd⟩ := id dat
  have hlt : a < s.heap.objs.size := Heap.lt_size ho
  have hkeys : vs.map (·.1) = is.map Sum.inl := (KV.keys rel).symm.trans hv
  have hlv : vs.length = is.length := by
    have e1 := congrArg List.length hkeys
    rw [List.length_map, List.length_map] at e1
    exact e1
  have hval : ∀ (i : Nat) (v : Value), (∃ k x, vs[i]? = some (k, x) ∧ (mixKind X.prog X.w).is k v = true) → ∃ t, v = Value.int (is.getD i 0) t := fun i v ⟨k, x, hk, hkey⟩ => by
    have e1 : (vs.map (·.1))[i]? = some k := by rw [List.getElem?_map, hk] <;> rfl
    rw [hkeys, List.getElem?_map] at e1
    obtain ⟨j, hj, e2⟩ := Option.map_eq_some_iff.mp e1
    subst e2
    have hi : Value.isInt j v = true := hkey
    obtain ⟨t, e3⟩ := Value.isInt_shape (k := j) (v := v) hi
    refine ⟨t, ?_⟩
    rw [e3, List.getD_eq_getElem?_getD, hj] <;> rfl
  have hnew : ∀ b (u : Obj), s.heap.get? b = some u → b ∉ [s.heap.objs.size] := fun b u e hm => by
    have e1 : b = s.heap.objs.size := List.mem_singleton.mp hm
    have e2 := Heap.lt_size e
    rw [e1] at e2
    exact absurd e2 (Nat.lt_irrefl _)
  show wpAny _ _ (call (.builtin "min") [.ref a] [("default", dv)]) _ _ _
  refine call_min_walkD (wpAny_pyIter_dict (knd := mixKind X.prog X.w) hsys dat ?_)
  refine ⟨_, _, _, _, _, _, _, s.heap, _, rfl, (Walks.dictKeys (knd := mixKind X.prog X.w) (A := X.A.in1) (I.ok.hd hc) s.heap.objs.size a (Nat.ne_of_lt hlt) vs ep).toS,
    ⟨⟨_, Heap.get?_push_size _ rfl, rfl, rfl⟩, dat.keep fun b u e => Heap.get?_push_of_some _ e⟩, fun b hb => ?_, hnew, fun b o e => Heap.get?_push_of_some _ e, fun hz s' m => ?_, fun hp => ⟨fun i j vi vj s Q E _ => CmpOf.ints_lt (fun i => is.getD i 0) hval i j vi vj s Q E, fun v s' hP m => ?_⟩⟩
  · show b < (s.heap.push _).objs.size
    rw [Heap.size_push]
    rcases List.mem_cons.mp hb with e | hb
    · rw [e]
      exact Nat.lt_succ_self _
    · rw [List.mem_singleton.mp hb]
      exact Nat.lt_succ_of_lt hlt
  · obtain ⟨h', tk, rfl, hk'⟩ := PySem.W.moved_old (s := s) rfl rfl m
    exact ⟨d, H, I.kept (t' := tk) fun b u e => hk' b u e, rd, q0 (List.eq_nil_of_length_eq_zero (by omega))⟩
  · obtain ⟨h', tk, rfl, hk'⟩ := PySem.W.moved_old (s := s) rfl rfl m
    obtain ⟨t, rfl⟩ := hval _ v hP
    obtain ⟨b1, b2⟩ := argBest_lt (fun i => is.getD i 0) (vs.length - 1)
    have hne : is ≠ [] := fun z => by
      rw [z] at hlv
      have : vs.length = 0 := hlv
      omega
    refine ⟨.int _, H, I.kept (t' := tk) fun b u e => hk' b u e, ⟨t, rfl⟩, q hne _ ?_ fun j hj => ?_⟩
    · have hb : argBest (fun i j => decide (is.getD i 0 < is.getD j 0)) (vs.length - 1) < is.length := by omega
      rw [List.getD_eq_getElem?_getD, List.getElem?_eq_getElem hb]
      exact List.getElem_mem hb
    · obtain ⟨i, hi, e⟩ := List.mem_iff_getElem.mp hj
      have e2 : is.getD i 0 = j := by rw [List.getD_eq_getElem?_getD, List.getElem?_eq_getElem hi, ← e] <;> rfl
      rw [← e2]
      exact b2 i (by omega)
theorem cr_maxKD (hc : X.calm = true) : CallRK X (.builtin "max") ["default"] rMaxKD := by
  intro pins s σ H vs zs us ws Q I r r2 h
  obtain ⟨a, kvs, is, d, rfl, rfl, ha, hv, q0, q⟩ := h
  rw [Vals.ref1 r]
  obtain ⟨dv, rd, rfl⟩ : ∃ dv, RelV d dv ∧ ws = [dv] := by
    cases r2 with
    | cons r t => cases t with
      | nil => exact ⟨_, r, rfl⟩
  obtain ⟨_, hsys, vs, rel, dof⟩ := dk_of I.hok ha
  obtain ⟨ep, dat⟩ := dof.dictAt
  obtain ⟨ob, es, ho, hex, hdat, hko, hpr, hnd⟩ := id dat
  have hlt : a < s.heap.objs.size := Heap.lt_size ho
  have hkeys : vs.map (·.1) = is.map Sum.inl := (KV.keys rel).symm.trans hv
  have hlv : vs.length = is.length := by
    have e1 := congrArg List.length hkeys
    rw [List.length_map, List.length_map] at e1
    exact e1
  have hval : ∀ (i : Nat) (v : Value), (∃ k x, vs[i]? = some (k, x) ∧ (mixKind X.prog X.w).is k v = true) → ∃ t, v = Value.int (is.getD i 0) t := fun i v ⟨k, x, hk, hkey⟩ => by
    have e1 : (vs.map (·.1))[i]? = some k := by rw [List.getElem?_map, hk] <;> rfl
    rw [hkeys, List.getElem?_map] at e1
    obtain ⟨j, hj, e2⟩ := Option.map_eq_some_iff.mp e1
    subst e2
    have hi : Value.isInt j v = true := hkey
    obtain ⟨t, e3⟩ := Value.isInt_shape (k := j) (v := v) hi
    refine ⟨t, ?_⟩
    rw [e3, List.getD_eq_getElem?_getD, hj] <;> rfl
  have hnew : ∀ b (u : Obj), s.heap.get? b = some u → b ∉ [s.heap.objs.size] := fun b u e hm => by
    have e1 : b = s.heap.objs.size := List.mem_singleton.mp hm
    have e2 := Heap.lt_size e
    rw [e1] at e2
    exact absurd e2 (Nat.lt_irrefl _)
  show wpAny _ _ (call (.builtin "max") [.ref a] [("default", dv)]) _ _ _
  refine call_max_walkD (wpAny_pyIter_dict (knd := mixKind X.prog X.w) hsys dat ?_)
  refine ⟨_, _, _, _, _, _, _, s.heap, _, rfl, (Walks.dictKeys (knd := mixKind X.prog X.w) (A := X.A.in1) (I.ok.hd hc) s.heap.objs.size a (Nat.ne_of_lt hlt) vs ep).toS,
    ⟨⟨_, Heap.get?_push_size _ rfl, rfl, rfl⟩, dat.keep fun b u e => Heap.get?_push_of_some _ e⟩, fun b hb => ?_, hnew, fun b o e => Heap.get?_push_of_some _ e, fun hz s' m => ?_, fun hp => ⟨fun i j vi vj s Q E _ => CmpOf.ints_gt (fun i => is.getD i 0) hval i j vi vj s Q E, fun v s' hP m => ?_⟩⟩
  · show b < (s.heap.push _).objs.size
    rw [Heap.size_push]
    rcases List.mem_cons.mp hb with e | hb
    · rw [e]
      exact Nat.lt_succ_self _
    · rw [List.mem_singleton.mp hb]
      exact Nat.lt_succ_of_lt hlt
  · obtain ⟨h', tk, rfl, hk'⟩ := PySem.W.moved_old (s := s) rfl rfl m
    exact ⟨d, H, I.kept (t' := tk) fun b u e => hk' b u e, rd, q0 (List.eq_nil_of_length_eq_zero (by omega))⟩
  · obtain ⟨h', tk, rfl, hk'⟩ := PySem.W.moved_old (s := s) rfl rfl m
    obtain ⟨t, rfl⟩ := hval _ v hP
    obtain ⟨b1, b2⟩ := argBest_gt (fun i => is.getD i 0) (vs.length - 1)
    have hne : is ≠ [] := fun z => by
      rw [z] at hlv
      have : vs.length = 0 := hlv
      omega
    refine ⟨.int _, H, I.kept (t' := tk) fun b u e => hk' b u e, ⟨t, rfl⟩, q hne _ ?_ fun j hj => ?_⟩
    · have hb : argBest (fun i j => decide (is.getD i 0 > is.getD j 0)) (vs.length - 1) < is.length := by omega
      rw [List.getD_eq_getElem?_getD, List.getElem?_eq_getElem hb]
      exact List.getElem_mem hb
    · obtain ⟨i, hi, e⟩ := List.mem_iff_getElem.mp hj
      have e2 : is.getD i 0 = j := by rw [List.getD_eq_getElem?_getD, List.getElem?_eq_getElem hi, ← e] <;> rfl
      rw [← e2]
      exact b2 i (by omega)
end
end My
/-! d.setdefault(k, x) of a dict with tuple keys. No row. -/
namespace My
open PySem PySem.Spec PyProof.Rows L2
def tDSetdT (td ty tx : TE) : TE := fun σ H Q => td σ H fun x H1 => ∃ a, x = .ref a ∧ IsD H1 a ∧ ty σ H1 fun y H2 => tx σ H2 fun z H3 => ∃ (kvs : List (List Key × V)) (k : List Key) (b : Addr), H3 a = some (.dT kvs) ∧ y = .ref b ∧ H3 b = some (.tup (k.map kV)) ∧ kvs.length < sizeLine ∧
  (∀ v, valV kvs k = some v → Q v H3) ∧ (valV kvs k = none → Q z (upd H3 a (.dT (putK kvs k z))))
section
variable {X : Cx} {o e f : Expr} {td ty tx : TE} {apos cpos : Pos} {pins : List (Addr × Obj)} {σ : L2.St} {H : Hp} {s : Shared} {a b : Addr} {r : Value} {d : V} {A : Around} {E : Value → Shared → Prop}
theorem d_setdT {kvs : List (List Key × V)} {k : List Key} {Q : Value → Shared → Prop} (hu : A.units + 1 < cLine) (I : Inv X pins σ H s) (e : H a = some (.dT kvs)) (eb : H b = some (.tup (k.map kV))) (rd : RelV d r) (hl : kvs.length < sizeLine)
    (h1 : ∀ v, valV kvs k = some v → ∀ (w' : Value) (s' : Shared), Inv X pins σ H s' → RelV v w' → Q w' s') (h2 : valV kvs k = none → ∀ (w' : Value) (s' : Shared), Inv X pins σ (upd H a (.dT (putK kvs k d))) s' → RelV d w' → Q w' s') :
    wpAny (model X.prog X.w) A (call (.builtin "dict.setdefault") [.ref a, .ref b, r]) Q E s := by
  obtain ⟨z, hd, xs, rel, dd⟩ := dt_of I.hok e
  have hz : xs.length ≤ sizeLine := by rw [← Paired.length rel]; exact z
  have rv := rel.val k
  refine call_setdefault_heap (tupleKind_room_in1 hu) (key_of I.hok eb) hd dd (fun p hp => ?_) (fun hn h' dd' hs => ?_) hz
  · rw [hp] at rv
    cases q0 : valV kvs k with
    | none => rw [q0] at rv; exact (show False from rv).elim
    | some v0 =>
      rw [q0] at rv
      exact h1 v0 q0 _ _ (I.tok _) rv
  · rw [hn] at rv
    cases q0 : valV kvs k with
    | some v0 => rw [q0] at rv; exact (show False from rv).elim
    | none =>
      have hl2 : (putK kvs k d).length ≤ sizeLine := by have := length_putK kvs k d; omega
      obtain ⟨q, es, ep, hq, g2, g3, g4, _, g5⟩ := dd'
      refine h2 q0 _ _ (d_write I (by rw [e]; exact True.intro) hs ⟨q, hq⟩ ⟨hl2, hd, _, (rel.put k eb rd).keeps fun c ys ec => ?_, q, es, ep, hq, g2, g3, g4, g5⟩) rd
      rw [upd_ne (ne_of ec e (fun z => nomatch z))]
      exact ec
theorem pe_dsetdT (hu : X.A.units + 1 < cLine) (ho : PE X o td) (he : PE X e ty) (hf : PE X f tx) (m : M2 X o "setdefault" apos e f cpos) : PE X (.Call (.Attribute o "setdefault" apos) [e, f] [] cpos) (tDSetdT td ty tx) := by
  refine ⟨fun pins s σ H Q I h => ?_⟩
  refine wpAny_Call_method m.base m.few m.line PySem.F.plainAttrs_dict PySem.F.slot_dict_setdefault PySem.F.type_dict_setdefault (thn (ho.run pins s σ H _ I h) fun u s1 ⟨x, H1, I1, rx, a, ex, d, q1⟩ => ?_)
  subst ex
  obtain rfl : u = Value.ref a := rx
  obtain ⟨t1, t2, _⟩ := isD_at I1 d
  refine ⟨t1, t2, ?_⟩
  rw [m.trees]
  refine Calls.callWith_builtin rfl (Calls.evalArgs_plain (Calls.spliced_cons (thn (he.run pins s1 σ H1 _ I1 q1) fun iv s2 ⟨y, H2, I2, ry, q2⟩ =>
    Calls.spliced_cons (thn (hf.run pins s2 σ H2 _ I2 q2) fun fv s3 ⟨z, H3, I3, rz, kvs, k, b, ea, ey, eb, hl, q3, q4⟩ => Calls.spliced_nil ?_))))
  subst ey
  cases (show iv = Value.ref b from ry)
  exact d_setdT hu I3 ea eb rz hl (fun v hv w' s4 I4 rw' => ⟨v, _, I4, rw', q3 v hv⟩) fun hn w' s4 I4 rw' => ⟨z, _, I4, rw', q4 hn⟩
end
end My
/-! sorted(xs) of triples of ints, any length. No row. -/
namespace SrtO
open PySem PySem.Spec PyProof.Rows L2
abbrev I3 := Int × Int × Int
def lex3 (p q : I3) : Bool := if p.1 = q.1 then (if p.2.1 = q.2.1 then decide (p.2.2 < q.2.2) else decide (p.2.1 < q.2.1)) else decide (p.1 < q.1)
theorem lex3_iff {p q : I3} : lex3 p q = true ↔ p.1 < q.1 ∨ (p.1 = q.1 ∧ (p.2.1 < q.2.1 ∨ (p.2.1 = q.2.1 ∧ p.2.2 < q.2.2))) := by
  unfold lex3
  by_cases e : p.1 = q.1
  · rw [if_pos e]
    by_cases e2 : p.2.1 = q.2.1
    · rw [if_pos e2, decide_eq_true_eq]; omega
    · rw [if_neg e2, decide_eq_true_eq]; omega
  · rw [if_neg e, decide_eq_true_eq]; omega
theorem lex3_no {p q : I3} : lex3 p q = false ↔ ¬ (p.1 < q.1 ∨ (p.1 = q.1 ∧ (p.2.1 < q.2.1 ∨ (p.2.1 = q.2.1 ∧ p.2.2 < q.2.2)))) := by
  rw [← lex3_iff]
  cases lex3 p q <;> simp
theorem swo_lex3 {α : Type} (k : α → I3) : Swo fun v u => lex3 (k v) (k u) := by
  refine ⟨fun x y h => ?_, fun x y z h1 h2 => ?_⟩
  · have a := lex3_iff.mp h
    refine lex3_no.mpr ?_
    omega
  · have a := lex3_no.mp h1
    have b := lex3_no.mp h2
    refine lex3_no.mpr ?_
    omega
def IsTrip (h : Heap) (v : Value) (k : I3) : Prop := ∃ a o t u r n, v = .ref a ∧ h.get? a = some o ∧ o.cls = .type "tuple" ∧ o.data = .seq #[.int k.1 t, .int k.2.1 u, .int k.2.2 r] n
theorem IsTrip.keeps {h h' : Heap} {v : Value} {x : I3} (p : IsTrip h v x) (k : ∀ b o, h.get? b = some o → o.cls = .type "tuple" → h'.get? b = some o) : IsTrip h' v x := by
  obtain ⟨a, o, t, u, r, n, e, ho, hc, hd⟩ := p
  exact ⟨a, o, t, u, r, n, e, k _ _ ho hc, hc, hd⟩
theorem firsts3 {h : Heap} : ∀ {vs : List Value}, (∀ v ∈ vs, ∃ x, IsTrip h v x) → ∃ fs : List Value, PySem.W.KatTups h vs fs ∧ fs.length = vs.length ∧ ∀ f ∈ fs, ∃ x t, f = Value.int x t
  | [], _ => ⟨[], PySem.W.KatTups.nil, rfl, fun _ hm => by simp at hm⟩
  | v :: vs, hp => by
    obtain ⟨fs, h1, h2, h3⟩ := firsts3 (vs := vs) fun v' hm => hp v' (List.mem_cons_of_mem _ hm)
    obtain ⟨x, a, o, t, u, r, n, e, ho, hc, hd⟩ := hp v (List.mem_cons_self ..)
    subst e
    refine ⟨.int x.1 t :: fs, PySem.W.KatTups.cons ho hc hd rfl h1, by rw [List.length_cons, List.length_cons, h2], fun f hm => ?_⟩
    rcases List.mem_cons.mp hm with rfl | hm
    · exact ⟨_, t, rfl⟩
    · exact h3 f hm
section
variable {prog : Program} {w : World} {A : Around} {E : Value → Shared → Prop} {s : Shared}
theorem trip_cmp {vs : List Value} {k : Value → I3} (hp : ∀ v ∈ vs, IsTrip s.heap v (k v)) : Cmp prog w A s (tuples' true) (fun p => p.1 ∈ vs) (lt2 fun v u => lex3 (k v) (k u)) := by
  intro p q hm hm'
  have h1 := hp _ hm
  have h2 := hp _ hm'
  show wpAny (model prog w) A (keyLt' (tuples' true) p.1 q.1) (fun r s' => s' = s ∧ r = lex3 (k p.1) (k q.1)) (fun _ _ => False) s
  unfold lex3
  generalize k p.1 = x at h1 ⊢
  generalize k q.1 = x' at h2 ⊢
  obtain ⟨x, y, z⟩ := x
  obtain ⟨x', y', z'⟩ := x'
  dsimp only at *
  obtain ⟨a, o, t, u, r, n, e, ho, hc, hd⟩ := h1
  obtain ⟨a', o', t', u', r', n', e', ho', hc', hd'⟩ := h2
  dsimp only at hd hd'
  rw [e, e']
  refine PySem.W.kat_lt ho hd ho' hd' ?_
  show PySem.W.KatLex prog w A true (decide (3 < 3)) _ [(.int x t, .int x' t'), (.int y u, .int y' u'), (.int z r, .int z' r')] 0 s
  refine PySem.W.kat_cons (SeqAt.EqAt.int_int x t x' t' prog w _ _ ?_)
  refine PySem.W.kat_go (fun e1 => ?_) (fun e1 => ?_)
  · have ex : x = x' := by simpa using e1
    rw [if_pos ex]
    refine PySem.W.kat_yes (PySem.W.kat_cons (SeqAt.EqAt.int_int y u y' u' prog w _ _ ?_))
    refine PySem.W.kat_go (fun e2 => ?_) (fun e2 => ?_)
    · have ey : y = y' := by simpa using e2
      rw [if_pos ey]
      refine PySem.W.kat_yes (PySem.W.kat_cons (SeqAt.EqAt.int_int z r z' r' prog w _ _ ?_))
      refine PySem.W.kat_go (fun e3 => ?_) (fun e3 => ?_)
      · have ez : z = z' := by simpa using e3
        exact PySem.W.kat_yes (PySem.W.kat_nil ⟨rfl, (by rw [ez]; exact (decide_eq_false (Int.lt_irrefl _)).symm)⟩)
      · refine PySem.W.kat_no (PySem.W.kat_one _ _ (PyProof.Rows.lt_int ?_))
        exact ⟨rfl, rfl⟩
    · have ey : ¬ y = y' := by simpa using e2
      rw [if_neg ey]
      refine PySem.W.kat_no (PySem.W.kat_one _ _ (PyProof.Rows.lt_int ?_))
      exact ⟨rfl, rfl⟩
  · have ex : ¬ x = x' := by simpa using e1
    rw [if_neg ex]
    exact PySem.W.kat_no (oneLt_int ⟨rfl, rfl⟩)
theorem trips_sortable {a : Addr} {vs : List Value} {k : Value → I3} (h0 : 0 < vs.length) (hp : ∀ v ∈ vs, IsTrip s.heap v (k v)) (ha : ∀ o, s.heap.get? a = some o → o.cls ≠ .type "tuple") : SortableO prog w A s a vs fun v u => lex3 (k v) (k u) := by
  intro h' keep
  have hp' : ∀ v ∈ vs, IsTrip h' v (k v) := fun v hm => (hp v hm).keeps fun b o e c => keep b o (fun z => by subst z; exact ha o e c) e
  obtain ⟨fs, h1, h2, h3⟩ := firsts3 fun v hm => ⟨_, hp' v hm⟩
  refine ⟨tuples' true, fun Q E hq => ?_, trip_cmp hp'⟩
  refine PySem.W.kat_kind (T := .type "int") h1 (by omega) (fun f hm => ?_) (by rfl) ?_
  · obtain ⟨x, t, rfl⟩ := h3 f hm
    exact PySem.W.Looks.now
  · have e : (Value.type "int" != Value.type "tuple") = true := by first | decide +kernel | rfl | decide
    rw [e]
    exact hq
theorem sorted_trips {l : Addr} {vs : List Value} {k : Value → I3} {Q : Value → Shared → Prop} (hl : s.heap.IsList l vs.toArray) (hz : vs.length ≤ sizeLine) (hp : ∀ v ∈ vs, IsTrip s.heap v (k v))
    (h : ∀ (h' : Heap) (d : Addr) (out : List Value), Srtd (fun v u => lex3 (k v) (k u)) out → Stb (fun v u => lex3 (k v) (k u)) out vs → (∀ b o, s.heap.get? b = some o → h'.get? b = some o) → s.heap.objs.size ≤ d → (∃ n, h'.get? d = some (seqObj "list" out.toArray n)) → Q (.ref d) { s with heap := h' }) :
    wpAny (model prog w) A (call (.builtin "sorted") [.ref l]) Q E s := by
  refine sorted_ord (swo_lex3 k) hl hz (fun h2 h₁ a ha kk => ?_) fun out hs hb => ?_
  · refine trips_sortable (s := { s with heap := h₁ }) (by omega) (fun v hm => (hp v hm).keeps fun b o e _ => (kk b o e).2) fun o e => ?_
    have e' : some o = some (seqObj "list" vs.toArray 0) := e.symm.trans ha
    cases e'
    intro c
    exact absurd (Value.type.inj c) (by decide)
  · exact h _ _ out hs hb (fun b o e => sortedAll_old e) (Nat.le_succ _) (sortedAll_at s.heap vs out.toArray)
end
end SrtO
namespace L2
open PySem PySem.Spec PyProof.Rows
abbrev ltT (k : V → SrtO.I3) (x y : V) : Bool := SrtO.lex3 (k x) (k y)
def rSortedT3 (K : PySem.W.Frag) : List V → Hp → VK → Prop := fun vs H Q => ∃ (a : Addr) (xs : List V) (k : V → SrtO.I3), vs = [V.ref a] ∧ SqL K H a xs ∧ (∀ x ∈ xs, ∃ t, x = V.ref t ∧ H t = some (.tup [.int (k x).1, .int (k x).2.1, .int (k x).2.2])) ∧
  ∀ ys p, SrtO.Srtd (ltT k) ys → ys.Perm xs → H p = none → Q (.ref p) (upd H p (.lst ys))
section
variable {X : Cx}
theorem cr_sortedT3 : CallR X (.builtin "sorted") (rSortedT3 X.K) := by
  intro pins s σ H vs us Q I r h
  obtain ⟨a, xs, k, rfl, hs, hx, q⟩ := h
  obtain ⟨its, rv, hl, hz⟩ := I.list hs
  obtain ⟨u, rfl, ru⟩ := vals1 r
  obtain rfl : u = Value.ref a := ru
  obtain ⟨e1, e2⟩ := refs_back rv fun x m => by
    obtain ⟨t, e, _⟩ := hx x m
    exact ⟨t, e⟩
  refine SrtO.sorted_trips (k := fun u => k (backV u)) hl.isList (by rw [← rv.length]; exact hz) (fun v hv => ?_) fun h' d out h1 h2 kp hd hn => ?_
  · obtain ⟨t, rfl⟩ := e2 v hv
    have hm : V.ref t ∈ xs := by rw [e1]; exact List.mem_map.mpr ⟨_, hv, rfl⟩
    obtain ⟨t', e, ht⟩ := hx _ hm
    cases e
    obtain ⟨_, its2, r2, o, ho, hc, n, hd⟩ := I.hok _ _ ht
    obtain ⟨u1, u2, u3, rfl, ri, rj, rk⟩ : ∃ u1 u2 u3, its2 = [u1, u2, u3] ∧ RelV (.int (k (.ref t)).1) u1 ∧ RelV (.int (k (.ref t)).2.1) u2 ∧ RelV (.int (k (.ref t)).2.2) u3 := by
      cases r2 with
      | cons a1 r2 => cases r2 with
        | cons a2 r2 => cases r2 with
          | cons a3 r2 => cases r2 with
            | nil => exact ⟨_, _, _, rfl, a1, a2, a3⟩
    obtain ⟨t1, rfl⟩ := ri
    obtain ⟨t2, rfl⟩ := rj
    obtain ⟨t3, rfl⟩ := rk
    exact ⟨t, o, t1, t2, t3, n, rfl, ho, hc, hd⟩
  · have h3 : ∀ u ∈ out, ∃ a, u = Value.ref a := fun u hu => e2 u (h2.perm.mem_iff.mp hu)
    obtain ⟨n, hn⟩ := hn
    have hb : (out.map backV).Perm xs := by
      rw [e1]
      exact h2.perm.map backV
    refine ⟨.ref d, upd H d (.lst (out.map backV)), I.laid (t' := s.toks) kp hd ⟨?_, out, n, vals_back h3, hn⟩, rfl, q _ d (SrtO.srtd_map h1) hb (I.hok.fresh hd)⟩
    rw [hb.length_eq]
    exact hz
end
end L2
/-! Nets as data, how the heap bears them. No row. -/
namespace My
open PySem PySem.Spec PyProof.Rows L2
/-- a net as data: host or not, the lines, processing, clock bound -/
structure NetD where
  ks : List Bool
  ls : List (Nat × Nat × Int)
  pr : Int
  er : Int
def kindV (b : Bool) : V := .str (if b then "host" else "switch")
def lineV (l : Nat × Nat × Int) : List V := [.int (l.1 : Int), .int (l.2.1 : Int), .int l.2.2]
def key2 (a b : Nat) : List Key := [Sum.inl (a : Int), Sum.inl (b : Int)]
def put2 (acc : List (List Key × V)) (l : Nat × Nat × Int) : List (List Key × V) := putK (putK acc (key2 l.1 l.2.1) (.int l.2.2)) (key2 l.2.1 l.1) (.int l.2.2)
def delaysOf (ls : List (Nat × Nat × Int)) : List (List Key × V) := ls.foldl put2 []
theorem put2_len (acc : List (List Key × V)) (l : Nat × Nat × Int) : (put2 acc l).length ≤ acc.length + 2 := by
  have h1 := length_putK (putK acc (key2 l.1 l.2.1) (.int l.2.2)) (key2 l.2.1 l.1) (.int l.2.2)
  have h2 := length_putK acc (key2 l.1 l.2.1) (.int l.2.2)
  unfold put2
  omega
theorem foldl_len : ∀ (ls : List (Nat × Nat × Int)) (acc : List (List Key × V)), (ls.foldl put2 acc).length ≤ acc.length + 2 * ls.length
  | [], acc => by simp
  | l :: r, acc => by
    have := foldl_len r (put2 acc l)
    have := put2_len acc l
    rw [List.foldl_cons, List.length_cons]
    omega
theorem delays_len (ls : List (Nat × Nat × Int)) : (delaysOf ls).length ≤ 2 * ls.length := by
  have := foldl_len ls []
  rw [List.length_nil] at this
  unfold delaysOf
  omega
theorem delays_snoc (ls : List (Nat × Nat × Int)) (l : Nat × Nat × Int) : delaysOf (ls ++ [l]) = put2 (delaysOf ls) l := by
  unfold delaysOf
  rw [List.foldl_append]
  rfl
theorem take_snoc {α : Type} {xs : List α} {i : Nat} {x : α} (h : xs[i]? = some x) : xs.take (i + 1) = xs.take i ++ [x] := by
  rw [List.take_add_one, h]
  rfl
theorem key2_inj {a b c d : Nat} (e : key2 a b = key2 c d) : a = c ∧ b = d := by
  unfold key2 at e
  injection e with e1 e2
  injection e2 with e2 _
  injection e1 with e1
  injection e2 with e2
  exact ⟨by omega, by omega⟩
/-- the line joins both nodes -/
def hits (a b : Nat) (l : Nat × Nat × Int) : Bool := (decide (l.1 = a) && decide (l.2.1 = b)) || (decide (l.1 = b) && decide (l.2.1 = a))
theorem valV_put2 (acc : List (List Key × V)) (l : Nat × Nat × Int) (a b : Nat) : valV (put2 acc l) (key2 a b) = if hits a b l = true then some (.int l.2.2) else valV acc (key2 a b) := by
  unfold put2 hits
  rw [valV_put, valV_put]
  by_cases h1 : key2 a b = key2 l.2.1 l.1
  · obtain ⟨e1, e2⟩ := key2_inj h1
    rw [if_pos h1, if_pos]
    simp [e1, e2]
  · rw [if_neg h1]
    by_cases h2 : key2 a b = key2 l.1 l.2.1
    · obtain ⟨e1, e2⟩ := key2_inj h2
      rw [if_pos h2, if_pos]
      simp [e1, e2]
    · rw [if_neg h2, if_neg]
      intro h
      rw [Bool.or_eq_true, Bool.and_eq_true, Bool.and_eq_true, decide_eq_true_eq, decide_eq_true_eq, decide_eq_true_eq, decide_eq_true_eq] at h
      rcases h with ⟨e1, e2⟩ | ⟨e1, e2⟩
      · exact h2 (by rw [e1, e2])
      · exact h1 (by rw [e1, e2])
theorem valV_fold (a b : Nat) : ∀ (ls : List (Nat × Nat × Int)) (acc : List (List Key × V)), (valV (ls.foldl put2 acc) (key2 a b)).isSome = (ls.any (hits a b) || (valV acc (key2 a b)).isSome)
  | [], acc => by simp
  | l :: r, acc => by
    rw [List.foldl_cons, valV_fold a b r, valV_put2, List.any_cons]
    cases hits a b l with
    | true => simp
    | false => simp
def adj (N : NetD) (a b : Nat) : Bool := N.ls.any (hits a b)
theorem adj_val (N : NetD) (a b : Nat) : (valV (delaysOf N.ls) (key2 a b)).isSome = adj N a b := by
  unfold delaysOf adj
  rw [valV_fold]
  simp [valV_nil]
/-- the first line that joins both -/
def joined (N : NetD) (a b : Nat) : Option Int := (N.ls.find? (hits a b)).map (·.2.2)
theorem joined_some (N : NetD) (a b : Nat) : (joined N a b).isSome = adj N a b := by
  unfold joined adj
  rw [Option.isSome_map, Bool.eq_iff_iff, List.find?_isSome, List.any_eq_true]

def nbs (N : NetD) (a : Nat) : List Nat := (List.range N.ks.length).filter (adj N a)
def natsV (ns : List Nat) : List V := ns.map fun (n : Nat) => V.int (n : Int)
/-- host or not -/
def host (N : NetD) (a : Nat) : Bool := N.ks.getD a true
def lastN (r : List Nat) : Nat := r.getD (r.length - 1) 0
def okb (N : NetD) (r : List Nat) (b : Nat) : Bool := !(r.contains b) && adj N (lastN r) b
def exH (N : NetD) (r : List Nat) : List (List Nat) := ((List.range N.ks.length).filter fun b => okb N r b && host N b).map fun b => r ++ [b]
def exS (N : NetD) (r : List Nat) : List (List Nat) := ((List.range N.ks.length).filter fun b => okb N r b && !host N b).map fun b => r ++ [b]
def rowsOf (N : NetD) : Nat → List (List Nat)
  | 0 => ((List.range N.ks.length).filter (host N)).map fun a => [a]
  | t + 1 => (rowsOf N t).flatMap (exS N)
def foundOf (N : NetD) : Nat → List (List Nat)
  | 0 => []
  | t + 1 => foundOf N t ++ (rowsOf N t).flatMap (exH N)
theorem natsV_at {ns : List Nat} {i n : Nat} (h : ns[i]? = some n) : (natsV ns)[i]? = some (.int (n : Int)) := by
  unfold natsV
  rw [List.getElem?_map, h]
  rfl
theorem natsV_len (ns : List Nat) : (natsV ns).length = ns.length := List.length_map ..
theorem natsV_flat (ns : List Nat) : (natsV ns).all flatV = true := by
  rw [List.all_eq_true]
  intro x hx
  obtain ⟨n, _, rfl⟩ := List.mem_map.mp hx
  rfl
theorem natsV_in (ns : List Nat) (b : Nat) : inV (.int (b : Int)) (natsV ns) = ns.contains b := by
  unfold inV natsV
  rw [List.any_map, List.contains_eq_any_beq]
  congr 1
  funext x
  show ((x : Int) == (b : Int)) = (b == x)
  rw [Bool.eq_iff_iff, beq_iff_eq, beq_iff_eq]
  omega
theorem natsV_app (r : List Nat) (b : Nat) : natsV r ++ [V.int (b : Int)] = natsV (r ++ [b]) := by
  unfold natsV
  rw [List.map_append]
  rfl
theorem len_flat {α β : Type} (f : α → List β) (m : Nat) (h : ∀ a, (f a).length ≤ m) : ∀ l : List α, (l.flatMap f).length ≤ m * l.length
  | [] => by simp
  | a :: r => by
    have := len_flat f m h r
    have := h a
    rw [List.flatMap_cons, List.length_append, List.length_cons, Nat.mul_add]
    omega
theorem exH_len (N : NetD) (r : List Nat) : (exH N r).length ≤ N.ks.length := by
  have := List.length_filter_le (fun b => okb N r b && host N b) (List.range N.ks.length)
  unfold exH
  rw [List.length_map]
  rw [List.length_range] at this
  exact this
theorem exS_len (N : NetD) (r : List Nat) : (exS N r).length ≤ N.ks.length := by
  have := List.length_filter_le (fun b => okb N r b && !host N b) (List.range N.ks.length)
  unfold exS
  rw [List.length_map]
  rw [List.length_range] at this
  exact this
theorem rows_len (N : NetD) (h : N.ks.length ≤ 7) : ∀ t, (rowsOf N t).length ≤ 8 ^ (t + 1)
  | 0 => by
    have := List.length_filter_le (host N) (List.range N.ks.length)
    rw [List.length_range] at this
    show (((List.range N.ks.length).filter (host N)).map fun a => [a]).length ≤ 8 ^ 1
    rw [List.length_map]
    omega
  | t + 1 => by
    have h1 := rows_len N h t
    have h2 := len_flat (exS N) 7 (fun a => Nat.le_trans (exS_len N a) h) (rowsOf N t)
    show ((rowsOf N t).flatMap (exS N)).length ≤ _
    rw [Nat.pow_succ]
    omega
theorem found_len (N : NetD) (h : N.ks.length ≤ 7) : ∀ t, (foundOf N t).length ≤ 8 ^ (t + 1)
  | 0 => by simp [foundOf]
  | t + 1 => by
    have h1 := found_len N h t
    have h0 := rows_len N h t
    have h2 := len_flat (exH N) 7 (fun a => Nat.le_trans (exH_len N a) h) (rowsOf N t)
    show (foundOf N t ++ (rowsOf N t).flatMap (exH N)).length ≤ _
    rw [List.length_append, Nat.pow_succ]
    omega
theorem ex_ne (N : NetD) (r x : List Nat) (h : x ∈ exH N r ∨ x ∈ exS N r) : x ≠ [] := by
  rcases h with h | h
  · obtain ⟨b, _, rfl⟩ := List.mem_map.mp h
    simp
  · obtain ⟨b, _, rfl⟩ := List.mem_map.mp h
    simp
theorem rows_row (N : NetD) : ∀ t, ∀ r ∈ rowsOf N t, r.length = t + 1
  | 0, r, h => by
    obtain ⟨a, _, rfl⟩ := List.mem_map.mp h
    rfl
  | t + 1, r, h => by
    obtain ⟨r', h1, h2⟩ := List.mem_flatMap.mp h
    obtain ⟨b, _, rfl⟩ := List.mem_map.mp h2
    rw [List.length_append, rows_row N t r' h1]
    rfl
theorem flat_take {α β : Type} (f : α → List β) {l : List α} {i : Nat} {a : α} (h : l[i]? = some a) : (l.take (i + 1)).flatMap f = (l.take i).flatMap f ++ f a := by
  rw [take_snoc h, List.flatMap_append, List.flatMap_cons, List.flatMap_nil, List.append_nil]
theorem filt_succ {α : Type} (p : Nat → Bool) (f : Nat → α) (j : Nat) : ((List.range (j + 1)).filter p).map f = ((List.range j).filter p).map f ++ (if p j = true then [f j] else []) := by
  rw [List.range_succ, List.filter_append, List.map_append, List.filter_cons]
  split <;> rfl
def optV : Option Int → V
  | none => .non
  | some d => .int d
theorem optV_non (o : Option Int) : (!decide (optV o = .non)) = o.isSome := by
  cases o with
  | none => rfl
  | some d => rfl
theorem dec_nat (a b : Nat) : decide (V.int (a : Int) = V.int (b : Int)) = decide (a = b) := by
  by_cases h : a = b
  · rw [h]; simp
  · rw [decide_eq_false h, decide_eq_false]
    intro z
    injection z with z
    omega
theorem find_take {α : Type} (p : α → Bool) {l : List α} {i : Nat} {a : α} (h : l[i]? = some a) (h0 : (l.take i).find? p = none) (hp : p a = true) : l.find? p = some a := by
  have e : l = l.take i ++ a :: l.drop (i + 1) := by
    obtain ⟨hi, e⟩ := List.getElem?_eq_some_iff.mp h
    rw [← e, List.getElem_cons_drop, List.take_append_drop]
  rw [e, List.find?_append, h0, List.find?_cons, hp]
  rfl
theorem find_skip {α : Type} (p : α → Bool) {l : List α} {i : Nat} {a : α} (h : l[i]? = some a) (h0 : (l.take i).find? p = none) (hp : ¬ p a = true) : (l.take (i + 1)).find? p = none := by
  rw [take_snoc h, List.find?_append, h0, List.find?_cons, Bool.eq_false_iff.mpr hp]
  rfl
/-! ### the instance's attributes -/
def netF (lk ll : Addr) (pr er : Int) (ld : Addr) : List (Str × V) := [("kinds", .ref lk), ("lines", .ref ll), ("processing", .int pr), ("error", .int er), ("_delays", .ref ld)]
theorem putF_new {f : Str} {v : V} : ∀ {fs : List (Str × V)}, fs.lookup f = none → putF f v fs = fs ++ [(f, v)]
  | [], _ => rfl
  | (g, x) :: r, h => by
    have e : (f == g) = false := by
      cases q : f == g with
      | false => rfl
      | true => rw [List.lookup_cons, q] at h; cases h
    rw [List.lookup_cons, e] at h
    have ne : ¬ g = f := fun z => by rw [z] at e; simp at e
    show (if g = f then (g, v) :: r else (g, x) :: putF f v r) = _
    rw [if_neg ne, putF_new h]
    rfl
theorem f1 {lk : Addr} : putF "kinds" (.ref lk) [] = [(("kinds" : Str), V.ref lk)] := rfl
theorem f2 {lk ll : Addr} : putF "lines" (.ref ll) [(("kinds" : Str), V.ref lk)] = [(("kinds" : Str), V.ref lk), ("lines", V.ref ll)] := putF_new rfl
theorem f3 {lk ll : Addr} {pr : Int} : putF "processing" (.int pr) [(("kinds" : Str), V.ref lk), ("lines", V.ref ll)] = [(("kinds" : Str), V.ref lk), ("lines", V.ref ll), ("processing", .int pr)] := putF_new rfl
theorem f4 {lk ll : Addr} {pr er : Int} : putF "error" (.int er) [(("kinds" : Str), V.ref lk), ("lines", V.ref ll), ("processing", .int pr)] = [(("kinds" : Str), V.ref lk), ("lines", V.ref ll), ("processing", .int pr), ("error", .int er)] := putF_new rfl
theorem f5 {lk ll ld : Addr} {pr er : Int} : putF "_delays" (.ref ld) [(("kinds" : Str), V.ref lk), ("lines", V.ref ll), ("processing", .int pr), ("error", .int er)] = netF lk ll pr er ld := putF_new rfl
section
variable {lk ll ld : Addr} {pr er : Int}
theorem g1 : (netF lk ll pr er ld).lookup ("kinds" : Str) = some (.ref lk) := rfl
theorem g2 : (netF lk ll pr er ld).lookup ("lines" : Str) = some (.ref ll) := rfl
theorem g3 : (netF lk ll pr er ld).lookup ("processing" : Str) = some (.int pr) := rfl
theorem g4 : (netF lk ll pr er ld).lookup ("error" : Str) = some (.int er) := rfl
theorem g5 : (netF lk ll pr er ld).lookup ("_delays" : Str) = some (.ref ld) := rfl
theorem g6 : (netF lk ll pr er ld).lookup ("neighbours" : Str) = none := rfl
theorem g7 : (netF lk ll pr er ld).lookup ("delay" : Str) = none := rfl
end
/-- tuples of lines -/
abbrev LinesAt (K : PySem.W.Frag) (H : Hp) (ts : List Addr) (ls : List (Nat × Nat × Int)) : Prop := Paired (fun (t : Addr) (l : Nat × Nat × Int) => SqT K H t (lineV l)) ts ls
theorem same_tup {K : PySem.W.Frag} {H H' : Hp} {a : Addr} {xs : List V} (e : Same H H') (h : SqT K H a xs) : SqT K H' a xs := by
  rcases h with (h | ⟨o, h⟩) | h
  · exact .inl (.inl (e _ _ h))
  · exact .inl (.inr ⟨o, e _ _ h⟩)
  · exact .inr h
theorem Paired.imp {α β : Type} {F G : α → β → Prop} : ∀ {l1 : List α} {l2 : List β}, Paired F l1 l2 → (∀ a b, F a b → G a b) → Paired G l1 l2
  | _, _, .nil, _ => .nil
  | _, _, .cons r t, f => .cons (f _ _ r) (Paired.imp t f)
theorem Paired.at {α β : Type} {F : α → β → Prop} : ∀ {xs : List α} {ys : List β}, Paired F xs ys → ∀ {i : Nat} {x : α}, xs[i]? = some x → ∃ y, ys[i]? = some y ∧ F x y
  | _, _, .nil, i, x, h => by cases h
  | _, _, .cons r t, 0, x, h => by
    have e := Option.some.inj h
    subst e
    exact ⟨_, rfl, r⟩
  | _, _, .cons r t, i + 1, x, h => Paired.at t h
theorem Paired.snoc {α β : Type} {F : α → β → Prop} {x : α} {y : β} (r : F x y) : ∀ {xs : List α} {ys : List β}, Paired F xs ys → Paired F (xs ++ [x]) (ys ++ [y])
  | _, _, .nil => .cons r .nil
  | _, _, .cons h t => .cons h (Paired.snoc r t)
theorem LinesAt.same {K : PySem.W.Frag} {H H' : Hp} {ts : List Addr} {ls : List (Nat × Nat × Int)} (h : LinesAt K H ts ls) (e : Same H H') : LinesAt K H' ts ls := Paired.imp h fun _ _ q => same_tup e q
/-- a Net stands at p -/
def NetAt (K : PySem.W.Frag) (C : Addr) (H : Hp) (p : Addr) (N : NetD) : Prop := ∃ (dx lk ll ld : Addr) (ts : List Addr), H p = some (.ins C dx (netF lk ll N.pr N.er ld)) ∧ H lk = some (.lst (N.ks.map kindV)) ∧ H ll = some (.lst (ts.map V.ref)) ∧
  LinesAt K H ts N.ls ∧ H ld = some (.dT (delaysOf N.ls))
theorem NetAt.same {K : PySem.W.Frag} {C : Addr} {H H' : Hp} {p : Addr} {N : NetD} (h : NetAt K C H p N) (e : Same H H') : NetAt K C H' p N := by
  obtain ⟨dx, lk, ll, ld, ts, h1, h2, h3, h4, h5⟩ := h
  exact ⟨dx, lk, ll, ld, ts, e _ _ h1, e _ _ h2, e _ _ h3, h4.same e, e _ _ h5⟩
/-- all but p is kept -/
def But (p : Addr) (H H' : Hp) : Prop := ∀ b o, H b = some o → b ≠ p → H' b = some o
theorem But.trans {p : Addr} {H H1 H2 : Hp} (a : But p H H1) (b : But p H1 H2) : But p H H2 := fun c o h n => b c o (a c o h n) n
theorem But.seq {K : PySem.W.Frag} {p C dx a : Addr} {fs : List (Str × V)} {H H' : Hp} {xs : List V} (h : But p H H') (hp : H p = some (.ins C dx fs)) (q : SqL K H a xs) : SqL K H' a xs := by
  rcases q with (q | ⟨o, q⟩) | q
  · exact .inl (.inl (h _ _ q (ne_of q hp (by intro z; cases z))))
  · exact .inl (.inr ⟨o, h _ _ q (ne_of q hp (by intro z; cases z))⟩)
  · exact .inr q
theorem But.tup {K : PySem.W.Frag} {p C dx a : Addr} {fs : List (Str × V)} {H H' : Hp} {xs : List V} (h : But p H H') (hp : H p = some (.ins C dx fs)) (q : SqT K H a xs) : SqT K H' a xs := by
  rcases q with (q | ⟨o, q⟩) | q
  · exact .inl (.inl (h _ _ q (ne_of q hp (by intro z; cases z))))
  · exact .inl (.inr ⟨o, h _ _ q (ne_of q hp (by intro z; cases z))⟩)
  · exact .inr q
theorem but_new {p l : Addr} {o u : HO} {H : Hp} (nl : H l = none) : But p H (upd (upd H l o) p u) := fun b x e n => by
  rw [upd_ne n, upd_ne (ne_of_none e nl)]; exact e
theorem but_self {p : Addr} {u : HO} {H : Hp} : But p H (upd H p u) := fun b x e n => by
  rw [upd_ne n]; exact e
theorem but_app {p t : Addr} {o u : HO} {H : Hp} (nt : H t = none) : But p H (upd (upd H t o) p u) := but_new nt
theorem But.refl (p : Addr) (H : Hp) : But p H H := fun _ _ e _ => e
theorem But.tupL {K : PySem.W.Frag} {p a : Addr} {ys : List V} {H H' : Hp} {xs : List V} (h : But p H H') (hp : H p = some (.lst ys)) (q : SqT K H a xs) : SqT K H' a xs := by
  rcases q with (q | ⟨o, q⟩) | q
  · exact .inl (.inl (h _ _ q (ne_of q hp (by intro z; cases z))))
  · exact .inl (.inr ⟨o, h _ _ q (ne_of q hp (by intro z; cases z))⟩)
  · exact .inr q
theorem same_but {p : Addr} {H H1 H2 : Hp} (e : Same H H1) (n : H p = none) (h : But p H1 H2) : Same H H2 := fun b o q => h _ _ (e _ _ q) (ne_of_none q n)
theorem kind_sw {b : Bool} (h : kindV b = V.str "switch") : b = false := by
  cases b with
  | false => rfl
  | true => exact absurd h (by decide +kernel)
theorem kind_ho {b : Bool} (h : kindV b = V.str "host") : b = true := by
  cases b with
  | true => rfl
  | false => exact absurd h (by decide +kernel)
theorem kind_inj {a b : Bool} (h : kindV a = kindV b) : a = b := by
  cases a with
  | true => exact (kind_ho h.symm).symm
  | false => exact (kind_sw h.symm).symm
theorem atI_kind {ks : List Bool} {z : Int} {j : Nat} (e : z = (j : Int)) (h : j < ks.length) : atI (ks.map kindV) z = some (kindV (ks.getD j true)) := by
  rw [e]
  refine atI_nat ?_
  rw [List.getElem?_map, getD_at true h]
  rfl
/-- a line's nodes, the greater one first -/
def norm (l : Nat × Nat × Int) : Nat × Nat := if l.2.1 < l.1 then (l.1, l.2.1) else (l.2.1, l.1)
theorem norm_gt {a b : Nat} {d : Int} (h : b < a) : norm (a, b, d) = (a, b) := if_pos h
theorem norm_lt {a b : Nat} {d : Int} (h : b < a) : norm (b, a, d) = (a, b) := if_neg (by show ¬ a < b; omega)
structure LsOk (n : Nat) (ls : List (Nat × Nat × Int)) : Prop where
  nd : (ls.map norm).Nodup
  bd : ∀ l ∈ ls, (norm l).2 < (norm l).1 ∧ (norm l).1 < n
  dl : ∀ l ∈ ls, 0 ≤ l.2.2 ∧ l.2.2 ≤ 4
  few : ls.length ≤ 100
structure NetWf (N : NetD) : Prop where
  h0 : 2 ≤ N.ks.count true
  h1 : N.ks.count true ≤ 4
  s0 : 1 ≤ N.ks.count false
  s1 : N.ks.count false ≤ 3
  ls : LsOk N.ks.length N.ls
  p0 : 0 ≤ N.pr
  p1 : N.pr ≤ 2
  e0 : 0 ≤ N.er
  e1 : N.er ≤ 2
theorem len_count : ∀ ks : List Bool, ks.length = ks.count true + ks.count false
  | [] => rfl
  | b :: r => by
    have := len_count r
    rw [List.length_cons, List.count_cons, List.count_cons]
    cases b <;> simp <;> omega
theorem count_ins (ks : List Bool) (i : Nat) (b x : Bool) : (ks.take i ++ [b] ++ ks.drop i).count x = ks.count x + [b].count x := by
  have h : ks.count x = (ks.take i).count x + (ks.drop i).count x := by rw [← List.count_append, List.take_append_drop]
  rw [List.count_append, List.count_append, h]
  omega
theorem rep_flat {α : Type} (x : α) : ∀ n : Nat, (List.replicate n [x]).flatten = List.replicate n x
  | 0 => rfl
  | n + 1 => by rw [List.replicate_succ, List.flatten_cons, rep_flat x n]; rfl
/-- pairs of nodes as tuples -/
abbrev PairsAt (K : PySem.W.Frag) (H : Hp) (ts : List Addr) (ps : List (Nat × Nat)) : Prop := Paired (fun (t : Addr) (p : Nat × Nat) => SqT K H t [.int (p.1 : Int), .int (p.2 : Int)]) ts ps
theorem PairsAt.mono {K : PySem.W.Frag} {H H' : Hp} {ts : List Addr} {ps : List (Nat × Nat)} (h : PairsAt K H ts ps) (f : ∀ a ys, SqT K H a ys → SqT K H' a ys) : PairsAt K H' ts ps := Paired.imp h fun _ _ z => f _ _ z
theorem LinesAt.mono {K : PySem.W.Frag} {H H' : Hp} {ts : List Addr} {ps : List (Nat × Nat × Int)} (h : LinesAt K H ts ps) (f : ∀ a ys, SqT K H a ys → SqT K H' a ys) : LinesAt K H' ts ps := Paired.imp h fun _ _ z => f _ _ z
theorem PairsAt.snoc {K : PySem.W.Frag} {H : Hp} {ts : List Addr} {ps : List (Nat × Nat)} {t : Addr} {p : Nat × Nat} (h : PairsAt K H ts ps) (x : SqT K H t [.int (p.1 : Int), .int (p.2 : Int)]) : PairsAt K H (ts ++ [t]) (ps ++ [p]) := Paired.snoc (F := fun (t : Addr) (p : Nat × Nat) => SqT K H t [.int (p.1 : Int), .int (p.2 : Int)]) x h
theorem LinesAt.snoc {K : PySem.W.Frag} {H : Hp} {ts : List Addr} {ps : List (Nat × Nat × Int)} {t : Addr} {p : Nat × Nat × Int} (h : LinesAt K H ts ps) (x : SqT K H t (lineV p)) : LinesAt K H (ts ++ [t]) (ps ++ [p]) := Paired.snoc (F := fun (t : Addr) (l : Nat × Nat × Int) => SqT K H t (lineV l)) x h
structure PInv (ks : List Bool) (ps : List (Nat × Nat)) (a b : Nat) : Prop where
  nd : ps.Nodup
  ok : ∀ p ∈ ps, p.2 < p.1 ∧ p.1 < ks.length ∧ (p.1 < a ∨ (p.1 = a ∧ p.2 < b)) ∧ (ks.getD p.1 true = false ∨ ks.getD p.2 true = false)
  few : ps.length ≤ 7 * a + b
theorem nd_snoc' {α : Type} : ∀ {l : List α} {k : α}, l.Nodup → ¬ k ∈ l → (l ++ [k]).Nodup
  | [], k, _, _ => by simp
  | a :: r, k, h, hk => by
    obtain ⟨h1, h2⟩ := List.nodup_cons.mp h
    show (a :: (r ++ [k])).Nodup
    refine List.nodup_cons.mpr ⟨fun m => ?_, nd_snoc' h2 fun m => hk (List.mem_cons.mpr (Or.inr m))⟩
    rcases List.mem_append.mp m with q | q
    · exact h1 q
    · exact hk (List.mem_cons.mpr (Or.inl (List.mem_singleton.mp q).symm))
theorem PInv.nil {ks : List Bool} : PInv ks [] 0 0 := ⟨List.nodup_nil, fun p h => by (cases h), Nat.le_refl _⟩
theorem PInv.skip {ks : List Bool} {ps : List (Nat × Nat)} {a b : Nat} (h : PInv ks ps a b) : PInv ks ps a (b + 1) :=
  ⟨h.nd, fun p hp => let ⟨x, y, z, w⟩ := h.ok p hp; ⟨x, y, by omega, w⟩, by have := h.few; omega⟩
theorem PInv.next {ks : List Bool} {ps : List (Nat × Nat)} {a b : Nat} (h : PInv ks ps a b) (hb : b ≤ 7) : PInv ks ps (a + 1) 0 :=
  ⟨h.nd, fun p hp => let ⟨x, y, z, w⟩ := h.ok p hp; ⟨x, y, by omega, w⟩, by have := h.few; omega⟩
theorem PInv.snoc {ks : List Bool} {ps : List (Nat × Nat)} {a b : Nat} (h : PInv ks ps a b) (ha : a < ks.length) (hb : b < a) (hs : ks.getD a true = false ∨ ks.getD b true = false) : PInv ks (ps ++ [(a, b)]) a (b + 1) := by
  refine ⟨nd_snoc' h.nd fun m => ?_, fun p hp => ?_, by have := h.few; rw [List.length_append, List.length_singleton]; omega⟩
  · obtain ⟨_, _, z, _⟩ := h.ok _ m
    have z' : a < a ∨ (a = a ∧ b < b) := z
    omega
  · rcases List.mem_append.mp hp with q | q
    · obtain ⟨x, y, z, w⟩ := h.ok p q
      exact ⟨x, y, by omega, w⟩
    · rw [List.mem_singleton.mp q]
      exact ⟨hb, ha, .inr ⟨rfl, by show b < b + 1; omega⟩, hs⟩
/-- lines made from the first k pairs -/
structure LInv (ps : List (Nat × Nat)) (ls : List (Nat × Nat × Int)) (k : Nat) : Prop where
  nd : (ls.map norm).Nodup
  from_ : ∀ l ∈ ls, ∃ j, j < k ∧ ps[j]? = some (norm l)
  dl : ∀ l ∈ ls, 0 ≤ l.2.2 ∧ l.2.2 ≤ 4
  few : ls.length ≤ k
theorem LInv.nil {ps : List (Nat × Nat)} : LInv ps [] 0 := ⟨List.nodup_nil, fun p h => by (cases h), fun p h => by (cases h), Nat.le_refl _⟩
theorem LInv.skip {ps : List (Nat × Nat)} {ls : List (Nat × Nat × Int)} {k : Nat} (h : LInv ps ls k) : LInv ps ls (k + 1) :=
  ⟨h.nd, fun l hl => let ⟨j, x, y⟩ := h.from_ l hl; ⟨j, by omega, y⟩, h.dl, by have := h.few; omega⟩
theorem LInv.snoc {ps : List (Nat × Nat)} {ls : List (Nat × Nat × Int)} {k : Nat} {l : Nat × Nat × Int} (h : LInv ps ls k) (hp : ps.Nodup) (e : ps[k]? = some (norm l)) (d : 0 ≤ l.2.2 ∧ l.2.2 ≤ 4) : LInv ps (ls ++ [l]) (k + 1) := by
  refine ⟨?_, fun x hx => ?_, fun x hx => ?_, by have := h.few; rw [List.length_append, List.length_singleton]; omega⟩
  · rw [List.map_append]
    refine nd_snoc' h.nd fun m => ?_
    obtain ⟨x, hx, ex⟩ := List.mem_map.mp m
    obtain ⟨j, hj, ej⟩ := h.from_ x hx
    rw [ex] at ej
    have := nd_ix hp ej e
    omega
  · rcases List.mem_append.mp hx with q | q
    · obtain ⟨j, x1, y⟩ := h.from_ x q
      exact ⟨j, by omega, y⟩
    · rw [List.mem_singleton.mp q]
      exact ⟨k, by omega, e⟩
  · rcases List.mem_append.mp hx with q | q
    · exact h.dl x q
    · rw [List.mem_singleton.mp q]
      exact d
/-- .. and host pairs ahead of (a, b) -/
structure HInv (ks : List Bool) (ps : List (Nat × Nat)) (ls : List (Nat × Nat × Int)) (a b : Nat) : Prop where
  nd : (ls.map norm).Nodup
  from_ : ∀ l ∈ ls, norm l ∈ ps ∨ ((norm l).2 < (norm l).1 ∧ (norm l).1 < ks.length ∧ ((norm l).1 < a ∨ ((norm l).1 = a ∧ (norm l).2 < b)) ∧ ks.getD (norm l).1 true = true ∧ ks.getD (norm l).2 true = true)
  dl : ∀ l ∈ ls, 0 ≤ l.2.2 ∧ l.2.2 ≤ 4
  few : ls.length ≤ 100
theorem LInv.host {ks : List Bool} {ps : List (Nat × Nat)} {ls : List (Nat × Nat × Int)} {k : Nat} (h : LInv ps ls k) (hk : k ≤ 100) : HInv ks ps ls 0 0 :=
  ⟨h.nd, fun l hl => let ⟨j, _, y⟩ := h.from_ l hl; .inl (List.mem_of_getElem? y), h.dl, by have := h.few; omega⟩
theorem HInv.skip {ks : List Bool} {ps : List (Nat × Nat)} {ls : List (Nat × Nat × Int)} {a b : Nat} (h : HInv ks ps ls a b) : HInv ks ps ls a (b + 1) :=
  ⟨h.nd, fun l hl => (h.from_ l hl).imp id fun ⟨x, y, z, w⟩ => ⟨x, y, by omega, w⟩, h.dl, h.few⟩
theorem HInv.next {ks : List Bool} {ps : List (Nat × Nat)} {ls : List (Nat × Nat × Int)} {a b : Nat} (h : HInv ks ps ls a b) : HInv ks ps ls (a + 1) 0 :=
  ⟨h.nd, fun l hl => (h.from_ l hl).imp id fun ⟨x, y, z, w⟩ => ⟨x, y, by omega, w⟩, h.dl, h.few⟩
theorem HInv.snoc {ks : List Bool} {ps : List (Nat × Nat)} {ls : List (Nat × Nat × Int)} {a b c e : Nat} {d : Int} (h : HInv ks ps ls a b) (hp : PInv ks ps c e) (ha : a < ks.length) (hb : b < a) (h1 : ks.getD a true = true) (h2 : ks.getD b true = true) (hd : 0 ≤ d ∧ d ≤ 4) (hf : ls.length < 20) :
    HInv ks ps (ls ++ [(a, b, d)]) a (b + 1) := by
  have en : norm (a, b, d) = (a, b) := norm_gt hb
  refine ⟨?_, fun x hx => ?_, fun x hx => ?_, by rw [List.length_append, List.length_singleton]; omega⟩
  · rw [List.map_append]
    refine nd_snoc' h.nd fun m => ?_
    obtain ⟨x, hx, ex⟩ := List.mem_map.mp m
    rw [en] at ex
    rcases h.from_ x hx with q | ⟨_, _, z, _⟩
    · rw [ex] at q
      obtain ⟨_, _, _, w⟩ := hp.ok _ q
      have w' : ks.getD a true = false ∨ ks.getD b true = false := w
      rw [h1, h2] at w'
      rcases w' with w' | w' <;> cases w'
    · rw [ex] at z
      have z' : a < a ∨ (a = a ∧ b < b) := z
      omega
  · rcases List.mem_append.mp hx with q | q
    · exact (h.from_ x q).imp id fun ⟨x, y, z, w⟩ => ⟨x, y, by omega, w⟩
    · rw [List.mem_singleton.mp q, en]
      exact .inr ⟨hb, ha, .inr ⟨rfl, by show b < b + 1; omega⟩, h1, h2⟩
  · rcases List.mem_append.mp hx with q | q
    · exact h.dl x q
    · rw [List.mem_singleton.mp q]
      exact hd
theorem HInv.ok {ks : List Bool} {ps : List (Nat × Nat)} {ls : List (Nat × Nat × Int)} {a b c e : Nat} (h : HInv ks ps ls a b) (hp : PInv ks ps c e) : LsOk ks.length ls :=
  ⟨h.nd, fun l hl => by
    rcases h.from_ l hl with q | ⟨x, y, _⟩
    · obtain ⟨x, y, _⟩ := hp.ok _ q
      exact ⟨x, y⟩
    · exact ⟨x, y⟩, h.dl, h.few⟩
/-- rows as lists -/
abbrev RowsAt (H : Hp) (as : List Addr) (rs : List (List Nat)) : Prop := Paired (fun (a : Addr) (r : List Nat) => r ≠ [] ∧ H a = some (.lst (natsV r))) as rs
theorem RowsAt.mono {H H' : Hp} {as : List Addr} {rs : List (List Nat)} (h : RowsAt H as rs) (f : ∀ a r, r ≠ [] → H a = some (.lst (natsV r)) → H' a = some (.lst (natsV r))) : RowsAt H' as rs := Paired.imp h fun _ _ z => ⟨z.1, f _ _ z.1 z.2⟩
theorem RowsAt.snoc {H : Hp} {as : List Addr} {rs : List (List Nat)} {a : Addr} {r : List Nat} (h : RowsAt H as rs) (n : r ≠ []) (e : H a = some (.lst (natsV r))) : RowsAt H (as ++ [a]) (rs ++ [r]) := Paired.snoc (F := fun (a : Addr) (r : List Nat) => r ≠ [] ∧ H a = some (.lst (natsV r))) ⟨n, e⟩ h
theorem RowsAt.same {H H' : Hp} {as : List Addr} {rs : List (List Nat)} (h : RowsAt H as rs) (e : Same H H') : RowsAt H' as rs := h.mono fun _ _ _ z => e _ _ z
/-- a row's list is no list of objects -/
theorem row_ne {H : Hp} {a p : Addr} {r : List Nat} {fs : List Addr} (n : r ≠ []) (h : H a = some (.lst (natsV r))) (hp : H p = some (.lst (fs.map V.ref))) : a ≠ p := by
  refine ne_of h hp fun e => ?_
  injection e with e
  cases r with
  | nil => exact n rfl
  | cons x r =>
    cases fs with
    | nil => cases e
    | cons y t =>
      unfold natsV at e
      rw [List.map_cons, List.map_cons] at e
      injection e with e1 _
      cases e1
theorem RowsAt.but {H H' : Hp} {as fs : List Addr} {rs : List (List Nat)} {p : Addr} (h : RowsAt H as rs) (hp : H p = some (.lst (fs.map V.ref))) (e : But p H H') : RowsAt H' as rs := h.mono fun _ _ n z => e _ _ z (row_ne n z hp)
/-- the class's facts -/
structure NetC (K : PySem.W.Frag) (C : Addr) : Prop where
  cl : Cls K C
  n1 : NoAttr K C "kinds"
  n2 : NoAttr K C "lines"
  n3 : NoAttr K C "processing"
  n4 : NoAttr K C "error"
  n5 : NoAttr K C "_delays"
end My
/-! A search level by level, as data. No row. -/
namespace My
open PySem PySem.Spec PyProof.Rows L2
abbrev Ways := Nat → Option (List Nat)
def setW (W : Ways) (v : Nat) (r : List Nat) : Ways := fun x => if x = v then some r else W x
def visit (u : Nat) (st : Ways × List Nat) (v : Nat) : Ways × List Nat :=
  if (st.1 v).isSome = true then st else (setW st.1 v ((st.1 u).getD [] ++ [v]), st.2 ++ [v])
def levStep (A : Nat → List Nat) (st : Ways × List Nat) : Ways × List Nat := st.2.foldl (fun s u => (A u).foldl (visit u) s) (st.1, [])
def lev (A : Nat → List Nat) (s : Nat) : Nat → Ways × List Nat
  | 0 => (fun x => if x = s then some [s] else none, [s])
  | t + 1 => levStep A (lev A s t)
theorem foldl_take {α β : Type} (f : β → α → β) {l : List α} {i : Nat} {a : α} (b : β) (h : l[i]? = some a) : (l.take (i + 1)).foldl f b = f ((l.take i).foldl f b) a := by
  rw [take_snoc h, List.foldl_append]
  rfl
theorem nodup_lt : ∀ (n : Nat) (l : List Nat), l.Nodup → (∀ x ∈ l, x < n) → l.length ≤ n
  | 0, l, _, h => by
    cases l with
    | nil => exact Nat.le_refl _
    | cons x r => exact absurd (h x List.mem_cons_self) (Nat.not_lt_zero _)
  | n + 1, l, hd, h => by
    by_cases hn : n ∈ l
    · have h1 := nodup_lt n (l.erase n) (hd.erase n) fun x hx => by
        have := (List.Nodup.mem_erase_iff hd).mp hx
        have := h x this.2
        omega
      rw [List.length_erase_of_mem hn] at h1
      omega
    · have h1 := nodup_lt n l hd fun x hx => by
        have := h x hx
        have : x ≠ n := fun z => hn (z ▸ hx)
        omega
      omega
/-- what a level's list is -/
structure Prog (n : Nat) (st : Ways × List Nat) : Prop where
  nd : st.2.Nodup
  lt : ∀ v ∈ st.2, v < n ∧ (st.1 v).isSome = true
theorem Prog.len {n : Nat} {st : Ways × List Nat} (h : Prog n st) : st.2.length ≤ n := nodup_lt n _ h.nd fun x hx => (h.lt x hx).1
theorem visit_some {u v : Nat} {st : Ways × List Nat} (h : (st.1 v).isSome = true) : visit u st v = st := if_pos h
theorem visit_none {u v : Nat} {st : Ways × List Nat} (h : ¬ (st.1 v).isSome = true) : visit u st v = (setW st.1 v ((st.1 u).getD [] ++ [v]), st.2 ++ [v]) := if_neg h
theorem visit_keep {u v x : Nat} {st : Ways × List Nat} {r : List Nat} (h : st.1 x = some r) : (visit u st v).1 x = some r := by
  by_cases e : (st.1 v).isSome = true
  · rw [visit_some e]; exact h
  · rw [visit_none e]
    show setW st.1 v _ x = some r
    unfold setW
    rw [if_neg fun z => e (by rw [← z, h]; rfl)]
    exact h
theorem Prog.visit {n u v : Nat} {st : Ways × List Nat} (h : Prog n st) (hv : v < n) : Prog n (visit u st v) := by
  by_cases e : (st.1 v).isSome = true
  · rw [visit_some e]; exact h
  · have hk : ∀ x, (st.1 x).isSome = true → ((My.visit u st v).1 x).isSome = true := fun x hx => by
      obtain ⟨r, hr⟩ := Option.isSome_iff_exists.mp hx
      rw [visit_keep hr]; rfl
    refine ⟨?_, fun x hx => ?_⟩
    · rw [visit_none e]
      exact nd_snoc' h.nd fun m => e (h.lt v m).2
    · have hx2 : x ∈ st.2 ++ [v] := by rw [visit_none e] at hx; exact hx
      rcases List.mem_append.mp hx2 with q | q
      · exact ⟨(h.lt x q).1, hk x (h.lt x q).2⟩
      · rw [List.mem_singleton.mp q]
        refine ⟨hv, ?_⟩
        rw [visit_none e]
        show (setW st.1 v _ v).isSome = true
        unfold setW
        rw [if_pos rfl]
        rfl
theorem Prog.fold {n u : Nat} : ∀ (l : List Nat) {st : Ways × List Nat}, Prog n st → (∀ v ∈ l, v < n) → Prog n (l.foldl (My.visit u) st)
  | [], _, h, _ => h
  | v :: r, _, h, hl => Prog.fold r (h.visit (hl v List.mem_cons_self)) fun x hx => hl x (List.mem_cons_of_mem _ hx)
theorem Prog.fold2 {n : Nat} {A : Nat → List Nat} : ∀ (l : List Nat) {st : Ways × List Nat}, Prog n st → (∀ u ∈ l, ∀ v ∈ A u, v < n) → Prog n (l.foldl (fun s u => (A u).foldl (My.visit u) s) st)
  | [], _, h, _ => h
  | u :: r, _, h, hl => Prog.fold2 r (h.fold (A u) (hl u List.mem_cons_self)) fun x hx => hl x (List.mem_cons_of_mem _ hx)
theorem keep_fold {u x : Nat} {r : List Nat} : ∀ (l : List Nat) {st : Ways × List Nat}, st.1 x = some r → (l.foldl (My.visit u) st).1 x = some r
  | [], _, h => h
  | v :: t, _, h => keep_fold t (visit_keep h)
theorem keep_fold2 {A : Nat → List Nat} {x : Nat} {r : List Nat} : ∀ (l : List Nat) {st : Ways × List Nat}, st.1 x = some r → (l.foldl (fun s u => (A u).foldl (My.visit u) s) st).1 x = some r
  | [], _, h => h
  | u :: t, _, h => keep_fold2 t (keep_fold (A u) h)
theorem lev_prog {A : Nat → List Nat} {s n : Nat} (hs : s < n) (hA : ∀ a, a < n → ∀ b ∈ A a, b < n) : ∀ t, Prog n (lev A s t)
  | 0 => ⟨by show [s].Nodup; simp, fun v hv => by
      have hv : v ∈ [s] := hv
      rw [List.mem_singleton.mp hv]
      exact ⟨hs, by show (if s = s then some [s] else none).isSome = true; rw [if_pos rfl]; rfl⟩⟩
  | t + 1 => by
    have ih := lev_prog hs hA t
    exact Prog.fold2 (st := ((lev A s t).1, [])) _ ⟨List.nodup_nil, fun v hv => by cases hv⟩ fun u hu => hA u (ih.lt u hu).1
theorem lev_end {A : Nat → List Nat} {s t : Nat} (h : (lev A s t).2 = []) : ∀ k, lev A s (t + k) = ((lev A s t).1, []) ∨ k = 0
  | 0 => .inr rfl
  | k + 1 => by
    refine .inl ?_
    show levStep A (lev A s (t + k)) = _
    rcases lev_end h k with e | e
    · rw [e]
      rfl
    · rw [e]
      unfold levStep
      rw [Nat.add_zero, h]
      rfl
theorem lev_same {A : Nat → List Nat} {s t T : Nat} (h : (lev A s t).2 = []) (ht : t ≤ T) : (lev A s T).1 = (lev A s t).1 := by
  obtain ⟨k, rfl⟩ : ∃ k, T = t + k := ⟨T - t, by omega⟩
  rcases lev_end h k with e | e
  · rw [e]
  · rw [e]; rfl
/-! ### how the heap bears them -/
def ArcsAt (H : Hp) (d : Addr) (A : Nat → List Nat) (n : Nat) : Prop := ∃ kvs : List (Key × V), H d = some (.dK kvs) ∧ ∀ a, a < n → ∃ l, valV kvs (Sum.inl (a : Int)) = some (.ref l) ∧ H l = some (.lst (natsV (A a)))
theorem ArcsAt.same {H H' : Hp} {d : Addr} {A : Nat → List Nat} {n : Nat} (h : ArcsAt H d A n) (e : Same H H') : ArcsAt H' d A n := by
  obtain ⟨kvs, h1, h2⟩ := h
  exact ⟨kvs, e _ _ h1, fun a ha => let ⟨l, x, y⟩ := h2 a ha; ⟨l, x, e _ _ y⟩⟩
/-- the dict of ways; no way's list is q -/
def WaysAt (H0 H : Hp) (d : Addr) (W : Ways) (m : Nat) (q : Addr) : Prop := ∃ kvs : List (Key × V), H d = some (.dK kvs) ∧ kvs.length ≤ m ∧ (∀ v, W v = none → valV kvs (Sum.inl (v : Int)) = none) ∧
  ∀ v r, W v = some r → r.length ≤ kvs.length ∧ ∃ l, valV kvs (Sum.inl (v : Int)) = some (.ref l) ∧ H l = some (.lst (natsV r)) ∧ H0 l = none ∧ l ≠ q
def WayV (H0 H : Hp) (o : Option (List Nat)) (v : V) : Prop := match o with
  | none => v = .non
  | some r => ∃ l, v = .ref l ∧ H0 l = none ∧ H l = some (.lst (natsV r))
theorem WaysAt.get {H0 H : Hp} {d : Addr} {W : Ways} {m : Nat} {q : Addr} (h : WaysAt H0 H d W m q) (v : Nat) : ∃ o, DGet H d (.int (v : Int)) o ∧ o.isSome = (W v).isSome ∧ WayV H0 H (W v) (o.getD .non) := by
  obtain ⟨kvs, h1, _, h2, h3⟩ := h
  refine ⟨valV kvs (Sum.inl (v : Int)), DGet.k (k := Sum.inl (v : Int)) h1, ?_, ?_⟩
  · cases e : W v with
    | none => rw [h2 v e]; rfl
    | some r =>
      obtain ⟨_, l, x, _⟩ := h3 v r e
      rw [x]
      rfl
  · cases e : W v with
    | none => rw [h2 v e]; rfl
    | some r =>
      obtain ⟨_, l, x, y, z, _⟩ := h3 v r e
      rw [x]
      exact ⟨l, rfl, z, y⟩
theorem WaysAt.mono {H0 H H' : Hp} {d : Addr} {W : Ways} {m : Nat} {q q' : Addr} (h : WaysAt H0 H d W m q) (hd : ∀ kvs, H d = some (.dK kvs) → H' d = some (.dK kvs)) (hl : ∀ l r, l ≠ q → H l = some (.lst (natsV r)) → H' l = some (.lst (natsV r)) ∧ l ≠ q') : WaysAt H0 H' d W m q' := by
  obtain ⟨kvs, h1, h2, h3, h4⟩ := h
  refine ⟨kvs, hd _ h1, h2, h3, fun v r e => ?_⟩
  obtain ⟨a, l, x, y, z, n⟩ := h4 v r e
  exact ⟨a, l, x, (hl l r n y).1, z, (hl l r n y).2⟩
theorem WaysAt.put {H0 H : Hp} {d : Addr} {W : Ways} {m : Nat} {q : Addr} {v : Nat} {r : List Nat} {l : Addr} {kvs : List (Key × V)} (h : WaysAt H0 H d W m q) (hd : H d = some (.dK kvs)) (hv : W v = none) (hr : r.length ≤ kvs.length + 1) (hl : H l = some (.lst (natsV r))) (h0 : H0 l = none) (hq : l ≠ q) :
    WaysAt H0 (upd H d (.dK (putK kvs (Sum.inl (v : Int)) (.ref l)))) d (setW W v r) (m + 1) q := by
  obtain ⟨kvs', h1, h2, h3, h4⟩ := h
  rw [hd] at h1
  cases h1
  have en := putK_new (V.ref l) (h3 v hv)
  have key : ∀ x : Nat, ((Sum.inl (x : Int) : Key) = Sum.inl (v : Int)) ↔ x = v := fun x => ⟨fun z => by injection z with z; omega, fun z => by rw [z]⟩
  have nd : ∀ (l' : Addr) (r' : List Nat), H l' = some (.lst (natsV r')) → l' ≠ d := fun l' r' e => ne_of e hd (by intro z; cases z)
  refine ⟨_, upd_same, by rw [en, List.length_append, List.length_singleton]; omega, fun x hx => ?_, fun x r' hx => ?_⟩
  · unfold setW at hx
    by_cases e : x = v
    · rw [if_pos e] at hx; cases hx
    · rw [if_neg e] at hx
      rw [valV_put, if_neg fun z => e ((key x).mp z)]
      exact h3 x hx
  · unfold setW at hx
    by_cases e : x = v
    · rw [if_pos e] at hx
      cases hx
      refine ⟨by rw [en, List.length_append, List.length_singleton]; exact hr, l, ?_, by rw [upd_ne (nd l r hl)]; exact hl, h0, hq⟩
      rw [valV_put, if_pos ((key x).mpr e)]
    · rw [if_neg e] at hx
      obtain ⟨a, l', x', y, z, n⟩ := h4 x r' hx
      refine ⟨by rw [en, List.length_append, List.length_singleton]; omega, l', ?_, by rw [upd_ne (nd l' r' y)]; exact y, z, n⟩
      rw [valV_put, if_neg fun z => e ((key x).mp z)]
      exact x'
end My
/-! The rows found one by one, and the search level by level: the same shortest rows. No row of Lean's, no Python. -/
namespace My
open PySem PySem.Spec PyProof.Rows L2
/-! ### order -/
def lexlt : List Nat → List Nat → Prop
  | x :: xs, y :: ys => x < y ∨ (x = y ∧ lexlt xs ys)
  | _, _ => False
theorem lex_irr : ∀ x : List Nat, ¬ lexlt x x
  | [], h => h
  | x :: xs, h => by
    rcases h with h | ⟨_, h⟩
    · omega
    · exact lex_irr xs h
theorem lex_trans : ∀ {x y z : List Nat}, lexlt x y → lexlt y z → lexlt x z
  | [], _, _, h, _ => h.elim
  | _ :: _, [], _, h, _ => h.elim
  | _ :: _, _ :: _, [], _, h => h.elim
  | a :: x, b :: y, c :: z, h1, h2 => by
    rcases h1 with h1 | ⟨e1, h1⟩ <;> rcases h2 with h2 | ⟨e2, h2⟩
    · exact .inl (by omega)
    · exact .inl (by omega)
    · exact .inl (by omega)
    · exact .inr ⟨by omega, lex_trans h1 h2⟩
theorem lex_app1 : ∀ {x y : List Nat} (s t : List Nat), lexlt x y → lexlt (x ++ s) (y ++ t)
  | [], _, _, _, h => h.elim
  | _ :: _, [], _, _, h => h.elim
  | a :: x, b :: y, s, t, h => by
    rcases h with h | ⟨e, h⟩
    · exact .inl h
    · exact .inr ⟨e, lex_app1 s t h⟩
theorem lex_app2 : ∀ (x : List Nat) {s t : List Nat}, lexlt s t → lexlt (x ++ s) (x ++ t)
  | [], _, _, h => h
  | a :: x, _, _, h => .inr ⟨rfl, lex_app2 x h⟩
theorem lex_one {b c : Nat} (h : b < c) (x : List Nat) : lexlt (x ++ [b]) (x ++ [c]) := lex_app2 x (.inl h)
/-- fewer nodes, or as many and lexicographically less -/
def rlt (x y : List Nat) : Prop := x.length < y.length ∨ (x.length = y.length ∧ lexlt x y)
def rle (x y : List Nat) : Prop := x = y ∨ rlt x y
theorem rlt_irr (x : List Nat) : ¬ rlt x x := fun h => by
  rcases h with h | ⟨_, h⟩
  · omega
  · exact lex_irr x h
theorem rlt_trans {x y z : List Nat} (h1 : rlt x y) (h2 : rlt y z) : rlt x z := by
  rcases h1 with h1 | ⟨e1, h1⟩ <;> rcases h2 with h2 | ⟨e2, h2⟩
  · exact .inl (by omega)
  · exact .inl (by omega)
  · exact .inl (by omega)
  · exact .inr ⟨by omega, lex_trans h1 h2⟩
/-! ### rows -/
inductive Row (N : NetD) (a : Nat) : List Nat → Prop
  | start : Row N a [a]
  | ext {r : List Nat} {b : Nat} : Row N a r → (r = [a] ∨ host N (lastN r) = false) → okb N r b = true → b < N.ks.length → Row N a (r ++ [b])
theorem lastN_app (r : List Nat) (b : Nat) : lastN (r ++ [b]) = b := by
  unfold lastN
  rw [List.length_append, List.length_singleton, Nat.add_sub_cancel, List.getD_eq_getElem?_getD, List.getElem?_append_right (Nat.le_refl _), Nat.sub_self]
  rfl
theorem lastN_one (a : Nat) : lastN [a] = a := rfl
theorem okb_mem {N : NetD} {r : List Nat} {b : Nat} (h : okb N r b = true) : b ∉ r ∧ adj N (lastN r) b = true := by
  unfold okb at h
  rw [Bool.and_eq_true, Bool.not_eq_true'] at h
  refine ⟨fun m => ?_, h.2⟩
  have := List.contains_iff_mem.mpr m
  rw [h.1] at this
  cases this
theorem okb_of {N : NetD} {r : List Nat} {b : Nat} (h1 : b ∉ r) (h2 : adj N (lastN r) b = true) : okb N r b = true := by
  unfold okb
  rw [Bool.and_eq_true, Bool.not_eq_true']
  refine ⟨?_, h2⟩
  cases e : r.contains b with
  | false => rfl
  | true => exact absurd (List.contains_iff_mem.mp e) h1
theorem Row.ne {N : NetD} {a : Nat} {r : List Nat} (h : Row N a r) : r ≠ [] := by
  cases h with
  | start => simp
  | ext => simp
theorem Row.pos {N : NetD} {a : Nat} {r : List Nat} (h : Row N a r) : 1 ≤ r.length := List.length_pos_iff.mpr h.ne
theorem Row.nodup {N : NetD} {a : Nat} {r : List Nat} (h : Row N a r) : r.Nodup := by
  induction h with
  | start => simp
  | ext _ _ o _ ih => exact nd_snoc' ih (okb_mem o).1
theorem Row.head {N : NetD} {a : Nat} {r : List Nat} (h : Row N a r) : r.head? = some a := by
  induction h with
  | start => rfl
  | ext h _ _ _ ih =>
    cases ‹List Nat› with
    | nil => exact absurd rfl h.ne
    | cons x t => exact ih
theorem Row.lt {N : NetD} {a : Nat} {r : List Nat} (h : Row N a r) (ha : a < N.ks.length) : ∀ x ∈ r, x < N.ks.length := by
  induction h with
  | start => intro x hx; rw [List.mem_singleton.mp hx]; exact ha
  | ext _ _ _ hb ih =>
    intro x hx
    rcases List.mem_append.mp hx with q | q
    · exact ih x q
    · rw [List.mem_singleton.mp q]; exact hb
theorem Row.mem_last {N : NetD} {a : Nat} {r : List Nat} (h : Row N a r) : lastN r ∈ r := by
  cases h with
  | start => exact List.mem_singleton.mpr rfl
  | ext => rw [lastN_app]; exact List.mem_append.mpr (.inr (List.mem_singleton.mpr rfl))
/-- a node of a row is the end of a row that is not longer -/
theorem Row.pre {N : NetD} {a : Nat} {r : List Nat} (h : Row N a r) : ∀ v ∈ r, ∃ x, Row N a x ∧ lastN x = v ∧ x.length ≤ r.length := by
  induction h with
  | start => intro v hv; exact ⟨[a], .start, (List.mem_singleton.mp hv).symm ▸ rfl, Nat.le_refl _⟩
  | @ext r b h1 h2 o hb ih =>
    intro v hv
    rcases List.mem_append.mp hv with q | q
    · obtain ⟨x, x1, x2, x3⟩ := ih v q
      exact ⟨x, x1, x2, by rw [List.length_append]; omega⟩
    · exact ⟨r ++ [b], .ext h1 h2 o hb, by rw [lastN_app, List.mem_singleton.mp q], Nat.le_refl _⟩
theorem Row.split {N : NetD} {a : Nat} {x : List Nat} (h : Row N a x) : x = [a] ∨ ∃ y b, x = y ++ [b] ∧ Row N a y ∧ (y = [a] ∨ host N (lastN y) = false) ∧ okb N y b = true ∧ b < N.ks.length := by
  cases h with
  | start => exact .inl rfl
  | ext h1 h2 o hb => exact .inr ⟨_, _, rfl, h1, h2, o, hb⟩
theorem Row.back {N : NetD} {a : Nat} {r : List Nat} (h : Row N a r) (e : lastN r = a) : r = [a] := by
  rcases h.split with z | ⟨y, b, rfl, h1, _, o, _⟩
  · exact z
  · rw [lastN_app] at e
    exact absurd (by rw [e]; exact List.mem_of_mem_head? h1.head) (okb_mem o).1
/-! ### what the law finds -/
theorem mem_rows {N : NetD} : ∀ (t : Nat) (r : List Nat), r ∈ rowsOf N t ↔ ∃ a, a < N.ks.length ∧ host N a = true ∧ Row N a r ∧ r.length = t + 1 ∧ (r = [a] ∨ host N (lastN r) = false)
  | 0, r => by
    constructor
    · intro h
      obtain ⟨a, ha, rfl⟩ := List.mem_map.mp h
      obtain ⟨h1, h2⟩ := List.mem_filter.mp ha
      exact ⟨a, List.mem_range.mp h1, h2, .start, rfl, .inl rfl⟩
    · rintro ⟨a, h1, h2, h3, h4, _⟩
      rcases h3.split with rfl | ⟨y, b, rfl, h5, _⟩
      · exact List.mem_map.mpr ⟨a, List.mem_filter.mpr ⟨List.mem_range.mpr h1, h2⟩, rfl⟩
      · have := h5.pos
        rw [List.length_append, List.length_singleton] at h4
        omega
  | t + 1, r => by
    constructor
    · intro h
      obtain ⟨y, hy, hr⟩ := List.mem_flatMap.mp h
      obtain ⟨a, h1, h2, h3, h4, h5⟩ := (mem_rows t y).mp hy
      obtain ⟨b, hb, rfl⟩ := List.mem_map.mp hr
      obtain ⟨b1, b2⟩ := List.mem_filter.mp hb
      rw [Bool.and_eq_true, Bool.not_eq_true'] at b2
      exact ⟨a, h1, h2, .ext h3 h5 b2.1 (List.mem_range.mp b1), by rw [List.length_append, h4]; rfl, .inr (by rw [lastN_app]; exact b2.2)⟩
    · rintro ⟨a, h1, h2, h3, h4, h5⟩
      rcases h3.split with rfl | ⟨y, b, rfl, h6, h7, o, hb⟩
      · cases h4
      · rw [List.length_append, List.length_singleton] at h4
        have hb2 : host N b = false := by
          rcases h5 with z | z
          · have w1 := congrArg List.length z
            rw [List.length_append, List.length_singleton, List.length_singleton] at w1
            omega
          · rw [lastN_app] at z; exact z
        exact List.mem_flatMap.mpr ⟨y, (mem_rows t y).mpr ⟨a, h1, h2, h6, by omega, h7⟩, List.mem_map.mpr ⟨b, List.mem_filter.mpr ⟨List.mem_range.mpr hb, by rw [o, hb2]; rfl⟩, rfl⟩⟩
theorem mem_found {N : NetD} : ∀ (t : Nat) (r : List Nat), r ∈ foundOf N t ↔ ∃ a, a < N.ks.length ∧ host N a = true ∧ Row N a r ∧ 2 ≤ r.length ∧ r.length ≤ t + 1 ∧ host N (lastN r) = true
  | 0, r => by
    constructor
    · intro h; cases h
    · rintro ⟨a, _, _, _, h1, h2, _⟩; omega
  | t + 1, r => by
    have ih := mem_found (N := N) t r
    constructor
    · intro h
      rcases List.mem_append.mp h with q | q
      · obtain ⟨a, h1, h2, h3, h4, h5, h6⟩ := ih.mp q
        exact ⟨a, h1, h2, h3, h4, by omega, h6⟩
      · obtain ⟨y, hy, hr⟩ := List.mem_flatMap.mp q
        obtain ⟨a, h1, h2, h3, h4, h5⟩ := (mem_rows t y).mp hy
        obtain ⟨b, hb, rfl⟩ := List.mem_map.mp hr
        obtain ⟨b1, b2⟩ := List.mem_filter.mp hb
        rw [Bool.and_eq_true] at b2
        refine ⟨a, h1, h2, .ext h3 h5 b2.1 (List.mem_range.mp b1), ?_, ?_, by rw [lastN_app]; exact b2.2⟩
        · rw [List.length_append, List.length_singleton]; omega
        · rw [List.length_append, List.length_singleton]; omega
    · rintro ⟨a, h1, h2, h3, h4, h5, h6⟩
      by_cases hl : r.length ≤ t + 1
      · exact List.mem_append.mpr (.inl (ih.mpr ⟨a, h1, h2, h3, h4, hl, h6⟩))
      · refine List.mem_append.mpr (.inr ?_)
        rcases h3.split with rfl | ⟨y, b, rfl, h7, h8, o, hb⟩
        · rw [List.length_singleton] at h4; omega
        · rw [lastN_app] at h6
          rw [List.length_append, List.length_singleton] at hl h5
          exact List.mem_flatMap.mpr ⟨y, (mem_rows t y).mpr ⟨a, h1, h2, h7, by omega, h8⟩, List.mem_map.mpr ⟨b, List.mem_filter.mpr ⟨List.mem_range.mpr hb, by rw [o, h6]; rfl⟩, rfl⟩⟩
theorem range_pw (n : Nat) : (List.range n).Pairwise (· < ·) := List.pairwise_lt_range
theorem ext_pw {p : Nat → Bool} (r : List Nat) (n : Nat) : (((List.range n).filter p).map fun b => r ++ [b]).Pairwise lexlt := by
  refine List.Pairwise.map _ (fun b c h => lex_one h r) ((range_pw n).filter p)
theorem flat_pw {f : List Nat → List (List Nat)} {l : List (List Nat)} (hl : l.Pairwise lexlt) (hf : ∀ r ∈ l, (f r).Pairwise lexlt) (hx : ∀ r, ∀ x ∈ f r, ∃ b, x = r ++ [b]) : (l.flatMap f).Pairwise lexlt := by
  rw [List.pairwise_flatMap]
  refine ⟨hf, List.Pairwise.imp (fun {r r'} h x hx1 y hy1 => ?_) hl⟩
  obtain ⟨b, rfl⟩ := hx r x hx1
  obtain ⟨c, rfl⟩ := hx r' y hy1
  exact lex_app1 _ _ h
theorem exS_ext {N : NetD} {r x : List Nat} (h : x ∈ exS N r) : ∃ b, x = r ++ [b] := by
  obtain ⟨b, _, rfl⟩ := List.mem_map.mp h
  exact ⟨b, rfl⟩
theorem exH_ext {N : NetD} {r x : List Nat} (h : x ∈ exH N r) : ∃ b, x = r ++ [b] := by
  obtain ⟨b, _, rfl⟩ := List.mem_map.mp h
  exact ⟨b, rfl⟩
theorem rows_pw {N : NetD} : ∀ t, (rowsOf N t).Pairwise lexlt
  | 0 => by
    show (((List.range N.ks.length).filter (host N)).map fun b => ([] : List Nat) ++ [b]).Pairwise lexlt
    exact ext_pw [] _
  | t + 1 => flat_pw (rows_pw t) (fun r _ => ext_pw r _) fun r x h => exS_ext h
theorem found_pw {N : NetD} : ∀ t, (foundOf N t).Pairwise rlt
  | 0 => List.Pairwise.nil
  | t + 1 => by
    show (foundOf N t ++ (rowsOf N t).flatMap (exH N)).Pairwise rlt
    have hlen : ∀ x ∈ (rowsOf N t).flatMap (exH N), x.length = t + 2 := fun x hx => by
      obtain ⟨y, hy, hr⟩ := List.mem_flatMap.mp hx
      obtain ⟨b, rfl⟩ := exH_ext hr
      rw [List.length_append, rows_row N t y hy]
      rfl
    rw [List.pairwise_append]
    refine ⟨found_pw t, ?_, fun x hx y hy => .inl ?_⟩
    · have h := flat_pw (f := exH N) (rows_pw (N := N) t) (fun r _ => ext_pw r _) fun r x h => exH_ext h
      refine List.Pairwise.imp_of_mem (fun {x y} hx hy h => .inr ⟨?_, h⟩) h
      rw [hlen x hx, hlen y hy]
    · obtain ⟨_, _, _, _, _, h5, _⟩ := (mem_found t x).mp hx
      rw [hlen y hy]
      omega
def matchP (a b : Nat) (r : List Nat) : Bool := (r.getD 0 0 == a) && (lastN r == b)
theorem row_matchP {N : NetD} {a b : Nat} {r : List Nat} (h : Row N a r) (e : lastN r = b) : matchP a b r = true := by
  unfold matchP
  rw [Bool.and_eq_true, beq_iff_eq, beq_iff_eq]
  refine ⟨?_, e⟩
  have := h.head
  cases r with
  | nil => cases this
  | cons x t => exact Option.some.inj this
theorem matchP_row {N : NetD} {a b c : Nat} {r : List Nat} (h : Row N c r) (m : matchP a b r = true) : c = a ∧ lastN r = b := by
  unfold matchP at m
  rw [Bool.and_eq_true, beq_iff_eq, beq_iff_eq] at m
  refine ⟨?_, m.2⟩
  have := h.head
  have m1 := m.1
  cases r with
  | nil => cases this
  | cons x t =>
    have e : x = c := Option.some.inj this
    rw [← e]
    exact m1
theorem find_first {l : List (List Nat)} {p : List Nat → Bool} {r : List Nat} (hs : l.Pairwise rlt) (hr : r ∈ l) (hp : p r = true) (hmin : ∀ x ∈ l, p x = true → rle r x) : l.find? p = some r := by
  induction l with
  | nil => cases hr
  | cons x t ih =>
    rw [List.find?_cons]
    rw [List.pairwise_cons] at hs
    cases hx : p x with
    | true =>
      show some x = some r
      rcases hmin x List.mem_cons_self hx with e | e
      · rw [e]
      · rcases List.mem_cons.mp hr with q | q
        · rw [q]
        · exact absurd (rlt_trans e (hs.1 r q)) (rlt_irr r)
    | false =>
      show t.find? p = some r
      rcases List.mem_cons.mp hr with q | q
      · rw [q, hx] at hp; cases hp
      · exact ih hs.2 q fun y hy => hmin y (List.mem_cons_of_mem _ hy)
end My
/-! The search level by level gives the least of the shortest rows. -/
namespace My
open PySem PySem.Spec PyProof.Rows L2
/-- a level's fold, pair by pair -/
def pairsOf (A : Nat → List Nat) (L : List Nat) : List (Nat × Nat) := L.flatMap fun u => (A u).map fun v => (u, v)
def visitP (st : Ways × List Nat) (p : Nat × Nat) : Ways × List Nat := visit p.1 st p.2
theorem foldl_pairs1 (u : Nat) : ∀ (l : List Nat) (st : Ways × List Nat), l.foldl (visit u) st = (l.map fun v => (u, v)).foldl visitP st
  | [], _ => rfl
  | v :: r, st => foldl_pairs1 u r (visit u st v)
theorem foldl_pairs (A : Nat → List Nat) : ∀ (L : List Nat) (st : Ways × List Nat), L.foldl (fun s u => (A u).foldl (visit u) s) st = (pairsOf A L).foldl visitP st
  | [], _ => rfl
  | u :: r, st => by
    show r.foldl _ ((A u).foldl (visit u) st) = _
    rw [foldl_pairs A r, foldl_pairs1]
    show _ = (((A u).map fun v => (u, v)) ++ pairsOf A r).foldl visitP st
    rw [List.foldl_append]
/-- the way that a pair gives -/
def wayP (W : Ways) (p : Nat × Nat) : List Nat := (W p.1).getD [] ++ [p.2]
/-- within a level: the pairs of `done` are through -/
structure Mid (W0 : Ways) (done : List (Nat × Nat)) (st : Ways × List Nat) : Prop where
  val : ∀ v, st.1 v = match W0 v with | some r => some r | none => (done.find? fun p => p.2 == v).map (wayP W0)
  mem : ∀ v, v ∈ st.2 ↔ W0 v = none ∧ (st.1 v).isSome = true
  ord : st.2.Pairwise fun v v' => ∀ r r', st.1 v = some r → st.1 v' = some r' → lexlt r r'
theorem Mid.start (W0 : Ways) : Mid W0 [] (W0, []) := by
  refine ⟨fun v => ?_, fun v => ⟨(fun h => by cases h), fun ⟨h1, h2⟩ => ?_⟩, List.Pairwise.nil⟩
  · show W0 v = _
    cases W0 v <;> rfl
  · have h2 : (W0 v).isSome = true := h2
    rw [h1] at h2
    cases h2
theorem Mid.step {W0 : Ways} {done : List (Nat × Nat)} {st : Ways × List Nat} {p : Nat × Nat} (h : Mid W0 done st) (hs : (done ++ [p]).Pairwise fun q q' => lexlt (wayP W0 q) (wayP W0 q')) (hu : (W0 p.1).isSome = true) : Mid W0 (done ++ [p]) (visitP st p) := by
  obtain ⟨u, v⟩ := p
  have hval := h.val v
  by_cases e : (st.1 v).isSome = true
  · have ev : visitP st (u, v) = st := visit_some e
    rw [ev]
    refine ⟨fun x => ?_, h.mem, h.ord⟩
    rw [h.val x]
    cases e0 : W0 x with
    | some r => rfl
    | none =>
      show (done.find? fun p => p.2 == x).map (wayP W0) = ((done ++ [(u, v)]).find? fun p => p.2 == x).map (wayP W0)
      rw [List.find?_append]
      cases e1 : done.find? fun p => p.2 == x with
      | some q => rfl
      | none =>
        have hx : ¬ v = x := fun z => by
          subst z
          rw [hval, e0, e1] at e
          cases e
        have : (v == x) = false := beq_eq_false_iff_ne.mpr hx
        show Option.map (wayP W0) none = Option.map (wayP W0) ([(u, v)].find? fun p => p.2 == x)
        rw [List.find?_cons, this]
        rfl
  · have en : st.1 v = none := by
      cases z : st.1 v with
      | none => rfl
      | some y => rw [z] at e; exact absurd rfl e
    have e0 : W0 v = none := by
      cases z : W0 v with
      | none => rfl
      | some y => rw [z] at hval; rw [hval] at en; cases en
    have e1 : (done.find? fun p => p.2 == v) = none := by
      rw [e0, en] at hval
      cases z : done.find? fun p => p.2 == v with
      | none => rfl
      | some y => rw [z] at hval; cases hval
    have eu : st.1 u = W0 u := by
      obtain ⟨r, hr⟩ := Option.isSome_iff_exists.mp hu
      have hr : W0 u = some r := hr
      rw [h.val u, hr]
    have ev : visitP st (u, v) = (setW st.1 v (wayP W0 (u, v)), st.2 ++ [v]) := by
      show visit u st v = _
      rw [visit_none e, eu]
      rfl
    rw [ev]
    have hne : ∀ x, x ∈ st.2 → ¬ x = v := fun x hx z => by
      have := ((h.mem x).mp hx).2
      rw [z, en] at this
      cases this
    refine ⟨fun x => ?_, fun x => ?_, ?_⟩
    · show setW st.1 v (wayP W0 (u, v)) x = _
      unfold setW
      by_cases ex : x = v
      · subst ex
        rw [if_pos rfl, e0]
        show some (wayP W0 (u, x)) = ((done ++ [(u, x)]).find? fun p => p.2 == x).map (wayP W0)
        rw [List.find?_append, e1, List.find?_cons, show (x == x) = true from beq_self_eq_true x]
        rfl
      · rw [if_neg ex, h.val x]
        cases W0 x with
        | some r => rfl
        | none =>
          show (done.find? fun p => p.2 == x).map (wayP W0) = ((done ++ [(u, v)]).find? fun p => p.2 == x).map (wayP W0)
          rw [List.find?_append]
          cases done.find? fun p => p.2 == x with
          | some q => rfl
          | none =>
            have : (v == x) = false := beq_eq_false_iff_ne.mpr fun z => ex z.symm
            show Option.map (wayP W0) none = Option.map (wayP W0) ([(u, v)].find? fun p => p.2 == x)
            rw [List.find?_cons, this]
            rfl
    · show x ∈ st.2 ++ [v] ↔ W0 x = none ∧ (setW st.1 v (wayP W0 (u, v)) x).isSome = true
      unfold setW
      rw [List.mem_append, List.mem_singleton]
      by_cases ex : x = v
      · subst ex
        rw [if_pos rfl]
        exact ⟨fun _ => ⟨e0, rfl⟩, fun _ => .inr rfl⟩
      · rw [if_neg ex, h.mem x]
        exact ⟨fun q => q.resolve_right ex, fun q => .inl q⟩
    · show (st.2 ++ [v]).Pairwise _
      rw [List.pairwise_append]
      refine ⟨List.Pairwise.imp_of_mem (fun {x y} hx hy hr r r' h1 h2 => ?_) h.ord, List.pairwise_singleton _ _, fun x hx y hy r r' h1 h2 => ?_⟩
      · have h1 : setW st.1 v (wayP W0 (u, v)) x = some r := h1
        have h2 : setW st.1 v (wayP W0 (u, v)) y = some r' := h2
        unfold setW at h1 h2
        rw [if_neg (hne x hx)] at h1
        rw [if_neg (hne y hy)] at h2
        exact hr r r' h1 h2
      · rw [List.mem_singleton.mp hy] at h2
        have h1 : setW st.1 v (wayP W0 (u, v)) x = some r := h1
        have h2 : setW st.1 v (wayP W0 (u, v)) v = some r' := h2
        unfold setW at h1 h2
        rw [if_neg (hne x hx)] at h1
        rw [if_pos rfl] at h2
        cases h2
        rw [h.val x, ((h.mem x).mp hx).1] at h1
        obtain ⟨q, hq, rfl⟩ := Option.map_eq_some_iff.mp h1
        have hqm : q ∈ done := List.mem_of_find?_eq_some hq
        rw [List.pairwise_append] at hs
        exact hs.2.2 q hqm (u, v) (List.mem_singleton.mpr rfl)
theorem Mid.fold {W0 : Ways} : ∀ (l done : List (Nat × Nat)) {st : Ways × List Nat}, Mid W0 done st → (done ++ l).Pairwise (fun q q' => lexlt (wayP W0 q) (wayP W0 q')) → (∀ p ∈ l, (W0 p.1).isSome = true) → Mid W0 (done ++ l) (l.foldl visitP st)
  | [], done, _, h, _, _ => by rw [List.append_nil]; exact h
  | p :: r, done, st, h, hs, hu => by
    have e : done ++ p :: r = (done ++ [p]) ++ r := by rw [List.append_assoc]; rfl
    rw [e] at hs ⊢
    refine Mid.fold r (done ++ [p]) (h.step ?_ (hu p List.mem_cons_self)) hs fun q hq => hu q (List.mem_cons_of_mem _ hq)
    exact (List.pairwise_append.mp hs).1
/-! ### the levels -/
def arcsOf (N : NetD) (first a : Nat) : List Nat := if decide (a = first) || !host N a then nbs N a else []
theorem arcs_pw (N : NetD) (a u : Nat) : (arcsOf N a u).Pairwise (· < ·) := by
  unfold arcsOf nbs
  split
  · exact (range_pw _).filter _
  · exact List.Pairwise.nil
theorem mem_arcs {N : NetD} {a u v : Nat} : v ∈ arcsOf N a u ↔ (u = a ∨ host N u = false) ∧ v < N.ks.length ∧ adj N u v = true := by
  unfold arcsOf nbs
  by_cases e : (decide (u = a) || !host N u) = true
  · rw [if_pos e, List.mem_filter, List.mem_range]
    rw [Bool.or_eq_true, decide_eq_true_eq, Bool.not_eq_true'] at e
    exact ⟨fun h => ⟨e, h⟩, fun h => h.2⟩
  · rw [if_neg e]
    rw [Bool.or_eq_true, decide_eq_true_eq, Bool.not_eq_true'] at e
    exact ⟨(fun h => by cases h), fun h => absurd h.1 e⟩
theorem rle_len {x y : List Nat} (h : rle x y) : x.length ≤ y.length := by
  rcases h with rfl | h | ⟨h, _⟩
  · exact Nat.le_refl _
  · omega
  · omega
structure Lv (N : NetD) (a t : Nat) (st : Ways × List Nat) : Prop where
  row : ∀ v r, st.1 v = some r → Row N a r ∧ lastN r = v ∧ r.length ≤ t + 1 ∧ ∀ x, Row N a x → lastN x = v → rle r x
  all : ∀ x, Row N a x → x.length ≤ t + 1 → (st.1 (lastN x)).isSome = true
  mem : ∀ u, u ∈ st.2 ↔ ∃ r, st.1 u = some r ∧ r.length = t + 1
  ord : st.2.Pairwise fun u u' => ∀ r r', st.1 u = some r → st.1 u' = some r' → lexlt r r'
theorem lv_zero (N : NetD) (a : Nat) : Lv N a 0 (lev (arcsOf N a) a 0) := by
  have ev : ∀ v, (lev (arcsOf N a) a 0).1 v = if v = a then some [a] else none := fun v => rfl
  refine ⟨fun v r h => ?_, fun x hx hl => ?_, fun u => ?_, List.pairwise_singleton _ _⟩
  · rw [ev] at h
    by_cases e : v = a
    · rw [if_pos e] at h
      cases h
      refine ⟨.start, e.symm ▸ rfl, Nat.le_refl _, fun x hx _ => ?_⟩
      rcases hx.split with rfl | ⟨y, b, rfl, h1, _⟩
      · exact .inl rfl
      · refine .inr (.inl ?_)
        have := h1.pos
        rw [List.length_append, List.length_singleton, List.length_singleton]
        omega
    · rw [if_neg e] at h; cases h
  · rcases hx.split with rfl | ⟨y, b, rfl, h1, _⟩
    · rw [lastN_one, ev, if_pos rfl]; rfl
    · have := h1.pos
      rw [List.length_append, List.length_singleton] at hl
      omega
  · show u ∈ [a] ↔ _
    rw [List.mem_singleton]
    constructor
    · intro e
      exact ⟨[a], by rw [ev, if_pos e], rfl⟩
    · rintro ⟨r, h, _⟩
      rw [ev] at h
      by_cases e : u = a
      · exact e
      · rw [if_neg e] at h; cases h
theorem mem_pairs {A : Nat → List Nat} {L : List Nat} {p : Nat × Nat} : p ∈ pairsOf A L ↔ p.1 ∈ L ∧ p.2 ∈ A p.1 := by
  unfold pairsOf
  rw [List.mem_flatMap]
  constructor
  · rintro ⟨u, hu, h⟩
    obtain ⟨v, hv, rfl⟩ := List.mem_map.mp h
    exact ⟨hu, hv⟩
  · rintro ⟨h1, h2⟩
    exact ⟨p.1, h1, List.mem_map.mpr ⟨p.2, h2, rfl⟩⟩
theorem pairs_pw {N : NetD} {a t : Nat} {st : Ways × List Nat} (h : Lv N a t st) : (pairsOf (arcsOf N a) st.2).Pairwise fun q q' => lexlt (wayP st.1 q) (wayP st.1 q') := by
  unfold pairsOf
  rw [List.pairwise_flatMap]
  refine ⟨fun u hu => ?_, List.Pairwise.imp_of_mem (fun {u u'} hu hu' hr p hp q hq => ?_) h.ord⟩
  · exact List.Pairwise.map _ (fun v v' hv => lex_one hv _) (arcs_pw N a u)
  · obtain ⟨v, _, rfl⟩ := List.mem_map.mp hp
    obtain ⟨v', _, rfl⟩ := List.mem_map.mp hq
    obtain ⟨r, h1, _⟩ := (h.mem u).mp hu
    obtain ⟨r', h2, _⟩ := (h.mem u').mp hu'
    unfold wayP
    show lexlt ((st.1 u).getD [] ++ [v]) ((st.1 u').getD [] ++ [v'])
    rw [h1, h2]
    exact lex_app1 _ _ (hr r r' h1 h2)
theorem find_least {W : Ways} {v : Nat} {p q : Nat × Nat} : ∀ {l : List (Nat × Nat)}, l.Pairwise (fun q q' => lexlt (wayP W q) (wayP W q')) → (l.find? fun p => p.2 == v) = some p → q ∈ l → q.2 = v → q = p ∨ lexlt (wayP W p) (wayP W q)
  | [], _, h, _, _ => by cases h
  | x :: t, hs, h, hq, e => by
    rw [List.pairwise_cons] at hs
    rw [List.find?_cons] at h
    cases hx : x.2 == v with
    | true =>
      rw [hx] at h
      cases h
      rcases List.mem_cons.mp hq with z | z
      · exact .inl z
      · exact .inr (hs.1 q z)
    | false =>
      rw [hx] at h
      rcases List.mem_cons.mp hq with z | z
      · rw [z] at e
        rw [e, beq_self_eq_true] at hx
        cases hx
      · exact find_least hs.2 h z e
theorem lv_succ {N : NetD} {a t : Nat} (ha : a < N.ks.length) (h : Lv N a t (lev (arcsOf N a) a t)) : Lv N a (t + 1) (lev (arcsOf N a) a (t + 1)) := by
  generalize hst : lev (arcsOf N a) a t = st at h
  have e1 : lev (arcsOf N a) a (t + 1) = (pairsOf (arcsOf N a) st.2).foldl visitP (st.1, []) := by
    show levStep (arcsOf N a) (lev (arcsOf N a) a t) = _
    rw [hst]
    exact foldl_pairs _ _ _
  have hL : ∀ p ∈ pairsOf (arcsOf N a) st.2, ∃ r, st.1 p.1 = some r ∧ r.length = t + 1 := fun p hp => (h.mem p.1).mp (mem_pairs.mp hp).1
  have M : Mid st.1 (pairsOf (arcsOf N a) st.2) ((pairsOf (arcsOf N a) st.2).foldl visitP (st.1, [])) := by
    have := Mid.fold (pairsOf (arcsOf N a) st.2) [] (Mid.start st.1) (by rw [List.nil_append]; exact pairs_pw h) fun p hp => by
      obtain ⟨r, hr, _⟩ := hL p hp
      rw [hr]; rfl
    rw [List.nil_append] at this
    exact this
  rw [e1]
  generalize hs2 : (pairsOf (arcsOf N a) st.2).foldl visitP (st.1, []) = st2 at M
  have hpw := pairs_pw h
  -- a node that is not yet there is in no row that is as short
  have notin : ∀ v, st.1 v = none → ∀ r, Row N a r → r.length ≤ t + 1 → v ∉ r := fun v hv r hr hl m => by
    obtain ⟨x, x1, x2, x3⟩ := hr.pre v m
    have := h.all x x1 (by omega)
    rw [x2, hv] at this
    cases this
  -- a row one longer comes from a pair
  have from_ : ∀ x, Row N a x → x.length ≤ t + 2 → st.1 (lastN x) = none → ∃ y b, x = y ++ [b] ∧ y.length = t + 1 ∧ ∃ r', st.1 (lastN y) = some r' ∧ r'.length = t + 1 ∧ rle r' y ∧ (lastN y, b) ∈ pairsOf (arcsOf N a) st.2 := fun x hx hl hv => by
    have hlen : ¬ x.length ≤ t + 1 := fun z => by
      have := h.all x hx z
      rw [hv] at this
      cases this
    rcases hx.split with rfl | ⟨y, b, rfl, y1, y2, o, hb⟩
    · rw [List.length_singleton] at hlen; omega
    · rw [List.length_append, List.length_singleton] at hl hlen
      rw [lastN_app] at hv
      have yl : y.length = t + 1 := by omega
      obtain ⟨r', hr'⟩ := Option.isSome_iff_exists.mp (h.all y y1 (by omega))
      obtain ⟨w1, w2, w3, w4⟩ := h.row _ _ hr'
      have hle := w4 y y1 rfl
      have hu : lastN y = a ∨ host N (lastN y) = false := y2.imp (fun z => by rw [z]; rfl) id
      have hadj := (okb_mem o).2
      have hr'l : r'.length = t + 1 := by
        rcases Nat.lt_or_ge r'.length (t + 1) with z | z
        · exfalso
          have hbn : b ∉ r' := notin b hv r' w1 w3
          have hx2 : Row N a (r' ++ [b]) := by
            refine .ext w1 ?_ (okb_of hbn (by rw [w2]; exact hadj)) hb
            rcases hu with q | q
            · exact .inl (w1.back (by rw [w2]; exact q))
            · exact .inr (by rw [w2]; exact q)
          have := h.all _ hx2 (by rw [List.length_append, List.length_singleton]; omega)
          rw [lastN_app, hv] at this
          cases this
        · omega
      exact ⟨y, b, rfl, yl, r', hr', hr'l, hle, mem_pairs.mpr ⟨(h.mem _).mpr ⟨r', hr', hr'l⟩, mem_arcs.mpr ⟨hu, hb, hadj⟩⟩⟩
  refine ⟨fun v r hr => ?_, fun x hx hl => ?_, fun u => ?_, M.ord⟩
  · rw [M.val v] at hr
    cases e0 : st.1 v with
    | some r0 =>
      rw [e0] at hr
      cases hr
      obtain ⟨w1, w2, w3, w4⟩ := h.row v r e0
      exact ⟨w1, w2, by omega, w4⟩
    | none =>
      rw [e0] at hr
      obtain ⟨p, hp, rfl⟩ := Option.map_eq_some_iff.mp hr
      have hpm := List.mem_of_find?_eq_some hp
      have hp2 : p.2 = v := by
        have := List.find?_some hp
        exact beq_iff_eq.mp this
      obtain ⟨ru, hru, hrul⟩ := hL p hpm
      obtain ⟨w1, w2, w3, w4⟩ := h.row p.1 ru hru
      obtain ⟨c1, c2, c3⟩ := mem_arcs.mp (mem_pairs.mp hpm).2
      have ew : wayP st.1 p = ru ++ [v] := by
        unfold wayP
        rw [hru, hp2]
        rfl
      rw [ew]
      have hvn : v ∉ ru := notin v e0 ru w1 w3
      have hrow : Row N a (ru ++ [v]) := by
        refine .ext w1 ?_ (okb_of hvn (by rw [w2, ← hp2]; exact c3)) (by rw [← hp2]; exact c2)
        rcases c1 with q | q
        · exact .inl (w1.back (by rw [w2]; exact q))
        · exact .inr (by rw [w2]; exact q)
      refine ⟨hrow, lastN_app _ _, by rw [List.length_append, List.length_singleton]; omega, fun x hx hv => ?_⟩
      by_cases hl : x.length ≤ t + 2
      · obtain ⟨y, b, rfl, yl, r', hr', hr'l, hle, hpair⟩ := from_ x hx hl (by rw [hv]; exact e0)
        rw [lastN_app] at hv
        have ewq : wayP st.1 (lastN y, b) = r' ++ [b] := by
          unfold wayP
          rw [hr']
          rfl
        have key : rle (ru ++ [v]) (r' ++ [b]) := by
          rcases find_least hpw hp hpair hv with z | z
          · rw [← ew, ← ewq, z]
            exact .inl rfl
          · rw [ew, ewq] at z
            exact .inr (.inr ⟨by rw [List.length_append, List.length_append, hrul, hr'l]; rfl, z⟩)
        have key2 : rle (r' ++ [b]) (y ++ [b]) := by
          rcases hle with z | z | ⟨_, z⟩
          · rw [z]; exact .inl rfl
          · omega
          · exact .inr (.inr ⟨by rw [List.length_append, List.length_append, yl, hr'l], lex_app1 _ _ z⟩)
        rcases key with z | z
        · rw [z]; exact key2
        · rcases key2 with z2 | z2
          · rw [← z2]; exact .inr z
          · exact .inr (rlt_trans z z2)
      · refine .inr (.inl ?_)
        rw [List.length_append, List.length_singleton]
        omega
  · rw [M.val]
    cases e0 : st.1 (lastN x) with
    | some r0 => rfl
    | none =>
      obtain ⟨y, b, rfl, yl, r', hr', hr'l, hle, hpair⟩ := from_ x hx hl e0
      rw [lastN_app]
      show (Option.map (wayP st.1) _).isSome = true
      rw [Option.isSome_map, List.find?_isSome]
      exact ⟨_, hpair, beq_iff_eq.mpr rfl⟩
  · rw [M.mem u]
    constructor
    · rintro ⟨e0, e2⟩
      have hv := M.val u
      rw [e0] at hv
      rw [hv] at e2
      obtain ⟨r, hr⟩ := Option.isSome_iff_exists.mp e2
      refine ⟨r, by rw [hv]; exact hr, ?_⟩
      obtain ⟨p, hp, rfl⟩ := Option.map_eq_some_iff.mp hr
      obtain ⟨ru, hru, hrul⟩ := hL p (List.mem_of_find?_eq_some hp)
      unfold wayP
      rw [hru, List.length_append]
      show ru.length + 1 = _
      rw [hrul]
    · rintro ⟨r, hr, hrl⟩
      refine ⟨?_, by rw [hr]; rfl⟩
      cases e0 : st.1 u with
      | none => rfl
      | some r0 =>
        have hv := M.val u
        rw [e0] at hv
        rw [hv] at hr
        cases hr
        obtain ⟨_, _, w3, _⟩ := h.row u r e0
        omega
theorem lv_all {N : NetD} {a : Nat} (ha : a < N.ks.length) : ∀ t, Lv N a t (lev (arcsOf N a) a t)
  | 0 => lv_zero N a
  | t + 1 => lv_succ ha (lv_all ha t)
/-- no level is longer than there are nodes -/
theorem lev_stop {N : NetD} {a : Nat} (ha : a < N.ks.length) : (lev (arcsOf N a) a N.ks.length).2 = [] := by
  have h := lv_all ha N.ks.length
  cases e : (lev (arcsOf N a) a N.ks.length).2 with
  | nil => rfl
  | cons u t =>
    obtain ⟨r, hr, hl⟩ := (h.mem u).mp (by rw [e]; exact List.mem_cons_self)
    obtain ⟨w1, _⟩ := h.row u r hr
    have := nodup_lt N.ks.length r w1.nodup (w1.lt ha)
    omega
/-- a row between hosts has at most two nodes more than there are switches -/
theorem nodup_sub : ∀ {l m : List Nat}, l.Nodup → (∀ x ∈ l, x ∈ m) → l.length ≤ m.length
  | [], _, _, _ => Nat.zero_le _
  | x :: l, m, hd, hs => by
    rw [List.nodup_cons] at hd
    have hx := hs x List.mem_cons_self
    have ih := nodup_sub (l := l) (m := m.erase x) hd.2 fun y hy => (List.mem_erase_of_ne (fun z => hd.1 (by rw [← z]; exact hy))).mpr (hs y (List.mem_cons_of_mem _ hy))
    rw [List.length_erase_of_mem hx] at ih
    have := List.length_pos_of_mem hx
    rw [List.length_cons]
    omega
theorem count_range (p : Nat → Bool) (ks : List Bool) (off : Nat) (hp : ∀ i, i < ks.length → p (off + i) = !(ks.getD i true)) : ((List.range' off ks.length).filter p).length = ks.count false := by
  induction ks generalizing off with
  | nil => rfl
  | cons b r ih =>
    have h0 := hp 0 (by rw [List.length_cons]; omega)
    have h0 : p off = !b := h0
    have ih := ih (off + 1) fun i hi => by
      have := hp (i + 1) (by rw [List.length_cons]; omega)
      rw [show off + 1 + i = off + (i + 1) by omega, this]
      rfl
    rw [List.length_cons, List.range'_succ, List.filter_cons, List.count_cons, h0]
    cases b with
    | true =>
      show ((List.range' (off + 1) r.length).filter p).length = _
      rw [ih]
      rfl
    | false =>
      show ((List.range' (off + 1) r.length).filter p).length + 1 = _
      rw [ih]
      rfl
theorem switches_len (N : NetD) : ((List.range N.ks.length).filter fun a => !host N a).length = N.ks.count false := by
  rw [List.range_eq_range']
  refine count_range _ N.ks 0 fun i _ => ?_
  unfold host
  rw [Nat.zero_add]
/-- all but the first and the last are switches -/
theorem Row.inner {N : NetD} {a : Nat} {r : List Nat} (h : Row N a r) (ha : a < N.ks.length) : ∃ m, (r = [a] ∧ m = []) ∨ (∃ b, r = a :: (m ++ [b])) ∧ m.Nodup ∧ ∀ x ∈ m, x < N.ks.length ∧ host N x = false := by
  induction h with
  | start => exact ⟨[], .inl ⟨rfl, rfl⟩⟩
  | @ext r b h1 h2 o hb ih =>
    obtain ⟨m, z⟩ := ih
    rcases z with ⟨z, _⟩ | ⟨⟨c, z⟩, m1, m2⟩
    · exact ⟨[], .inr ⟨⟨b, by rw [z]; rfl⟩, List.nodup_nil, fun x hx => by cases hx⟩⟩
    · refine ⟨m ++ [c], .inr ⟨⟨b, by rw [z]; rfl⟩, ?_, ?_⟩⟩
      · have := h1.nodup
        rw [z, List.nodup_cons] at this
        exact this.2
      · intro x hx
        rcases List.mem_append.mp hx with q | q
        · exact m2 x q
        · rw [List.mem_singleton.mp q]
          have hl : lastN r = c := by
            rw [z]
            exact lastN_app (a :: m) c
          refine ⟨h1.lt ha c (by rw [z]; simp), ?_⟩
          rcases h2 with y | y
          · rw [z] at y
            have := congrArg List.length y
            rw [List.length_cons, List.length_append] at this
            simp at this
          · rw [← hl]; exact y
theorem Row.short {N : NetD} {a : Nat} {r : List Nat} (h : Row N a r) (ha : a < N.ks.length) : r.length ≤ N.ks.count false + 2 := by
  obtain ⟨m, z⟩ := h.inner ha
  rcases z with ⟨z, _⟩ | ⟨⟨b, z⟩, m1, m2⟩
  · rw [z, List.length_singleton]; omega
  · have := nodup_sub (m := (List.range N.ks.length).filter fun a => !host N a) m1 fun x hx => by
      obtain ⟨y1, y2⟩ := m2 x hx
      exact List.mem_filter.mpr ⟨List.mem_range.mpr y1, by rw [y2]; rfl⟩
    rw [switches_len] at this
    rw [z, List.length_cons, List.length_append, List.length_singleton]
    omega
/-- THE POINT: the search's way is the first row found -/
theorem way_is_found {N : NetD} {a b T : Nat} (ha : a < N.ks.length) (ha2 : host N a = true) (hb : host N b = true) (hab : a ≠ b) (hT : N.ks.count false + 1 ≤ T) : (lev (arcsOf N a) a N.ks.length).1 b = (foundOf N T).find? (matchP a b) := by
  have h := lv_all ha N.ks.length
  have two : ∀ x, Row N a x → lastN x = b → 2 ≤ x.length := fun x hx e => by
    rcases hx.split with rfl | ⟨y, c, rfl, y1, _⟩
    · exact absurd e hab
    · have := y1.pos
      rw [List.length_append, List.length_singleton]
      omega
  have inF : ∀ x, Row N a x → lastN x = b → x ∈ foundOf N T := fun x hx e => by
    have := hx.short ha
    exact (mem_found _ _).mpr ⟨a, ha, ha2, hx, two x hx e, by omega, by rw [e]; exact hb⟩
  cases e : (lev (arcsOf N a) a N.ks.length).1 b with
  | none =>
    symm
    rw [List.find?_eq_none]
    intro x hx m
    obtain ⟨c, _, _, h3, _⟩ := (mem_found _ _).mp hx
    obtain ⟨rfl, e2⟩ := matchP_row h3 m
    have := h.all x h3 (by have := nodup_lt N.ks.length x h3.nodup (h3.lt ha); omega)
    rw [e2, e] at this
    cases this
  | some r =>
    obtain ⟨w1, w2, w3, w4⟩ := h.row b r e
    symm
    refine find_first (found_pw T) (inF r w1 w2) (row_matchP w1 w2) fun x hx m => ?_
    obtain ⟨c, _, _, h3, _⟩ := (mem_found _ _).mp hx
    obtain ⟨rfl, e2⟩ := matchP_row h3 m
    exact w4 x h3 e2
end My
/-! Rows as data: ==, < of pairs (len(row), row). -/
namespace My
open PySem PySem.Spec PyProof.Rows L2
def dList (r : List Nat) : PyData := .list (r.map fun (n : Nat) => PyData.int (n : Int))
def dPair (r : List Nat) : PyData := .tuple [.int ((r.length : Nat) : Int), dList r]
theorem dp_ints {K : PySem.W.Frag} {H : Hp} : ∀ r : List Nat, DpAll K H (natsV r) (r.map fun (n : Nat) => PyData.int (n : Int))
  | [] => .nil
  | n :: r => .cons (.int _) (dp_ints r)
theorem dp_list {K : PySem.W.Frag} {H : Hp} {a : Addr} {r : List Nat} (h : SqL K H a (natsV r)) : Dp K H (.ref a) (dList r) := .lst h (dp_ints r)
theorem canLay_ints : ∀ r : List Nat, PyData.canLayAll0 (r.map fun (n : Nat) => PyData.int (n : Int)) = true
  | [] => rfl
  | n :: r => by
    rw [List.map_cons, PyData.canLayAll0, canLay_ints r]
    rfl
theorem depth_ints : ∀ r : List Nat, PyData.depthAll (r.map fun (n : Nat) => PyData.int (n : Int)) = 0
  | [] => by rw [List.map_nil, PyData.depthAll]
  | n :: r => by
    rw [List.map_cons, PyData.depthAll, depth_ints r, PyData.depth]
    rfl
theorem depth_list (r : List Nat) : (dList r).depth = 1 := by
  unfold dList
  rw [PyData.depth, depth_ints]
theorem shaped_list (r : List Nat) : SeqAt.shaped (dList r) = true := by
  unfold SeqAt.shaped
  rw [depth_list]
  unfold dList
  rw [PyData.canLay0, canLay_ints]
  rfl
theorem shaped_none : SeqAt.shaped PyData.none = true := by decide +kernel
theorem eqv_list (r : List Nat) : PyData.eqv (dList r) (dList r) = true := SeqAt.eqv_refl _ (SeqAt.canLay_of_shaped (shaped_list r))
theorem eqv_none : PyData.eqv PyData.none PyData.none = true := by rw [PyData.eqv]
theorem alike_ints : ∀ r x : List Nat, PySem.W.alikeAll (r.map fun (n : Nat) => PyData.int (n : Int)) (x.map fun (n : Nat) => PyData.int (n : Int)) = true
  | [], x => by rw [List.map_nil, PySem.W.alikeAll]
  | n :: r, [] => by
    rw [List.map_cons, List.map_nil]
    rw [PySem.W.alikeAll]
  | n :: r, y :: x => by
    rw [List.map_cons, List.map_cons, PySem.W.alikeAll, alike_ints r x, PySem.W.alike]
    rfl
theorem alike_pair (r x : List Nat) : PySem.W.alike (dPair r) (dPair x) = true := by
  unfold dPair dList
  rw [PySem.W.alike, PySem.W.alikeAll, PySem.W.alikeAll, PySem.W.alikeAll, PySem.W.alike, PySem.W.alike, alike_ints]
  rfl
theorem depth_pair (r : List Nat) : (dPair r).depth = 2 := by
  unfold dPair
  rw [PyData.depth, PyData.depthAll, PyData.depthAll, PyData.depthAll, depth_list, PyData.depth]
  rfl
theorem eqv_int (i j : Int) : PyData.eqv (.int i) (.int j) = (i == j) := by rw [PyData.eqv]
theorem alike_int (i j : Int) : PySem.W.alike (.int i) (.int j) = true := by rw [PySem.W.alike]
/-- lists of ints: the greater one is not less -/
theorem ints_nlt : ∀ {b x : List Nat}, lexlt b x → PyProof.Rows.lexLt PyProof.Rows.itemOrd (PySem.W.keyToksAll (x.map fun (n : Nat) => PyData.int (n : Int))) (PySem.W.keyToksAll (b.map fun (n : Nat) => PyData.int (n : Int))) = false
  | [], _, h => h.elim
  | _ :: _, [], h => h.elim
  | n :: b, y :: x, h => by
    rw [List.map_cons, List.map_cons]
    by_cases e : y = n
    · rw [PySem.W.dataLt_all_yes (alike_int _ _) (by rw [eqv_int, e]; exact beq_self_eq_true _)]
      rcases h with h | ⟨_, h⟩
      · omega
      · exact ints_nlt h
    · rw [PySem.W.dataLt_all_no (alike_int _ _) (by rw [eqv_int]; exact beq_eq_false_iff_ne.mpr (by omega)), PySem.W.dataLt_int]
      rcases h with h | ⟨z, _⟩
      · exact decide_eq_false (by omega)
      · exact absurd z.symm e
theorem lex_len : ∀ {b x : List Nat}, lexlt b x → b.length = x.length → PyData.eqvAll (x.map fun (n : Nat) => PyData.int (n : Int)) (b.map fun (n : Nat) => PyData.int (n : Int)) = false
  | [], _, h, _ => h.elim
  | _ :: _, [], h, _ => h.elim
  | n :: b, y :: x, h, hl => by
    rw [List.map_cons, List.map_cons, PyData.eqvAll, eqv_int]
    rcases h with h | ⟨e, h⟩
    · rw [show (((y : Nat) : Int) == (n : Int)) = false from beq_eq_false_iff_ne.mpr (by omega)]
      rfl
    · rw [lex_len h (by simpa using hl), Bool.and_false]
theorem pair_nlt {b x : List Nat} (h : rlt b x) : PySem.W.dataLt (dPair x) (dPair b) = false := by
  unfold dPair
  rw [PySem.W.dataLt_tuple]
  by_cases e : x.length = b.length
  · rw [PySem.W.dataLt_all_yes (alike_int _ _) (by rw [eqv_int, e]; exact beq_self_eq_true _)]
    rcases h with h | ⟨_, h⟩
    · omega
    · have al : PySem.W.alike (dList x) (dList b) = true := by
        unfold dList
        rw [PySem.W.alike]
        exact alike_ints x b
      have ev : PyData.eqv (dList x) (dList b) = false := by
        unfold dList
        rw [PyData.eqv]
        exact lex_len h e.symm
      rw [PySem.W.dataLt_all_no al ev]
      unfold dList
      rw [PySem.W.dataLt_list]
      exact ints_nlt h
  · rw [PySem.W.dataLt_all_no (alike_int _ _) (by rw [eqv_int]; exact beq_eq_false_iff_ne.mpr (by omega)), PySem.W.dataLt_int]
    rcases h with h | ⟨z, _⟩
    · exact decide_eq_false (by omega)
    · exact absurd z.symm e
end My
/-! == of lists of kinds, nodes, ports, lines as data. No row. -/
namespace My
open PySem PySem.Spec PyProof.Rows L2
structure Shp (n : Nat) (d : PyData) : Prop where
  c : d.canLay0 = true
  d : d.depth ≤ n
theorem Shp.shaped {n : Nat} {d : PyData} (h : Shp n d) (hn : n ≤ 64 := by decide) : SeqAt.shaped d = true := by
  unfold SeqAt.shaped
  rw [h.c, decide_eq_true (Nat.le_trans h.d hn)]
  rfl
theorem shp_int (i : Int) : Shp 0 (.int i) := ⟨by rw [PyData.canLay0], by rw [PyData.depth]; exact Nat.le_refl _⟩
theorem shp_kind (b : Bool) : Shp 0 (.str (if b then "host" else "switch")) := ⟨by rw [PyData.canLay0]; cases b <;> decide +kernel, by rw [PyData.depth]; exact Nat.le_refl _⟩
theorem shp_all {n : Nat} : ∀ {ds : List PyData}, (∀ d ∈ ds, Shp n d) → PyData.canLayAll0 ds = true ∧ PyData.depthAll ds ≤ n
  | [], _ => ⟨by rw [PyData.canLayAll0], by rw [PyData.depthAll]; exact Nat.zero_le _⟩
  | d :: r, h => by
    have h1 := h d List.mem_cons_self
    have h2 := shp_all (ds := r) fun x hx => h x (List.mem_cons_of_mem _ hx)
    refine ⟨by rw [PyData.canLayAll0, h1.c, h2.1]; rfl, by rw [PyData.depthAll]; exact Nat.max_le.mpr ⟨h1.d, h2.2⟩⟩
theorem shp_list {n : Nat} {ds : List PyData} (h : ∀ d ∈ ds, Shp n d) : Shp (n + 1) (.list ds) := ⟨by rw [PyData.canLay0]; exact (shp_all h).1, by rw [PyData.depth]; exact Nat.succ_le_succ (shp_all h).2⟩
theorem shp_tuple {n : Nat} {ds : List PyData} (h : ∀ d ∈ ds, Shp n d) : Shp (n + 1) (.tuple ds) := ⟨by rw [PyData.canLay0]; exact (shp_all h).1, by rw [PyData.depth]; exact Nat.succ_le_succ (shp_all h).2⟩
theorem shp_map {α : Type} {n : Nat} {f : α → PyData} {xs : List α} (h : ∀ x, Shp n (f x)) : ∀ d ∈ xs.map f, Shp n d := fun d hd => by
  obtain ⟨x, _, rfl⟩ := List.mem_map.mp hd
  exact h x
theorem eqv_map {α : Type} [DecidableEq α] (f : α → PyData) (h : ∀ x y, PyData.eqv (f x) (f y) = decide (x = y)) : ∀ xs ys : List α, PyData.eqvAll (xs.map f) (ys.map f) = decide (xs = ys)
  | [], [] => by rw [List.map_nil, PyData.eqvAll, decide_eq_true rfl]
  | [], y :: ys => by rw [List.map_nil, List.map_cons, PyData.eqvAll, decide_eq_false (by simp)]
  | x :: xs, [] => by rw [List.map_nil, List.map_cons, PyData.eqvAll, decide_eq_false (by simp)]
  | x :: xs, y :: ys => by
    rw [List.map_cons, List.map_cons, PyData.eqvAll, h, eqv_map f h xs ys, Bool.eq_iff_iff, Bool.and_eq_true, decide_eq_true_eq, decide_eq_true_eq, decide_eq_true_eq, List.cons.injEq]
theorem beq_dec (i j : Int) : (i == j) = decide (i = j) := by
  rw [Bool.eq_iff_iff, beq_iff_eq, decide_eq_true_eq]
/-! ### kinds -/
def dKind (b : Bool) : PyData := .str (if b then "host" else "switch")
def dKinds (ks : List Bool) : PyData := .list (ks.map dKind)
theorem eqv_kind (a b : Bool) : PyData.eqv (dKind a) (dKind b) = decide (a = b) := by
  unfold dKind
  rw [PyData.eqv]
  cases a <;> cases b <;> decide +kernel
theorem eqv_kinds (a b : List Bool) : PyData.eqv (dKinds a) (dKinds b) = decide (a = b) := by
  unfold dKinds
  rw [PyData.eqv, eqv_map dKind eqv_kind]
theorem shp_kinds (ks : List Bool) : Shp 1 (dKinds ks) := shp_list (shp_map shp_kind)
theorem dp_all {α : Type} {K : PySem.W.Frag} {H : Hp} (f : α → PyData) (g : α → V) (h : ∀ x, Dp K H (g x) (f x)) : ∀ xs : List α, DpAll K H (xs.map g) (xs.map f)
  | [] => .nil
  | x :: r => .cons (h x) (dp_all f g h r)
theorem dp_kinds {K : PySem.W.Frag} {H : Hp} {a : Addr} {ks : List Bool} (h : SqL K H a (ks.map kindV)) : Dp K H (.ref a) (dKinds ks) := .lst h (dp_all dKind kindV (fun _ => .str _) ks)
/-! ### nodes -/
theorem shp_nats (r : List Nat) : Shp 1 (dList r) := shp_list (shp_map (f := fun (n : Nat) => PyData.int (n : Int)) fun _ => shp_int _)
theorem eqv_nats (a b : List Nat) : PyData.eqv (dList a) (dList b) = decide (a = b) := by
  unfold dList
  rw [PyData.eqv, eqv_map (fun (n : Nat) => PyData.int (n : Int)) fun x y => by
    rw [eqv_int, beq_dec]
    by_cases e : x = y
    · rw [e, decide_eq_true rfl, decide_eq_true rfl]
    · rw [decide_eq_false e, decide_eq_false (by omega)]]
/-! ### ports -/
def portV (p : Nat × Nat) : List V := [.int (p.1 : Int), .int (p.2 : Int)]
def dPort (p : Nat × Nat) : PyData := .tuple [.int (p.1 : Int), .int (p.2 : Int)]
def dPorts (ps : List (Nat × Nat)) : PyData := .list (ps.map dPort)
theorem shp_port (p : Nat × Nat) : Shp 1 (dPort p) := shp_tuple fun d hd => by
  rcases List.mem_cons.mp hd with e | hd
  · rw [e]; exact shp_int _
  · rw [List.mem_singleton.mp hd]; exact shp_int _
theorem eqv_port (p q : Nat × Nat) : PyData.eqv (dPort p) (dPort q) = decide (p = q) := by
  obtain ⟨a, b⟩ := p
  obtain ⟨c, d⟩ := q
  unfold dPort
  rw [PyData.eqv, PyData.eqvAll, PyData.eqvAll, PyData.eqvAll, eqv_int, eqv_int, beq_dec, beq_dec, Bool.and_true, Bool.eq_iff_iff, Bool.and_eq_true, decide_eq_true_eq, decide_eq_true_eq, decide_eq_true_eq, Prod.mk.injEq]
  show ((a : Int) = (c : Int) ∧ (b : Int) = (d : Int)) ↔ _
  omega
theorem shp_ports (ps : List (Nat × Nat)) : Shp 2 (dPorts ps) := shp_list (shp_map shp_port)
theorem eqv_ports (a b : List (Nat × Nat)) : PyData.eqv (dPorts a) (dPorts b) = decide (a = b) := by
  unfold dPorts
  rw [PyData.eqv, eqv_map dPort eqv_port]
theorem dp_paired {α : Type} {K : PySem.W.Frag} {H : Hp} (f : α → PyData) {F : Addr → α → Prop} (h : ∀ t x, F t x → Dp K H (.ref t) (f x)) : ∀ {ts : List Addr} {xs : List α}, Paired F ts xs → DpAll K H (ts.map V.ref) (xs.map f)
  | _, _, .nil => .nil
  | _, _, .cons r t => .cons (h _ _ r) (dp_paired f h t)
theorem dp_port {K : PySem.W.Frag} {H : Hp} {t : Addr} {p : Nat × Nat} (h : SqT K H t (portV p)) : Dp K H (.ref t) (dPort p) := .tup h (.cons (.int _) (.cons (.int _) .nil))
theorem dp_ports {K : PySem.W.Frag} {H : Hp} {a : Addr} {ts : List Addr} {ps : List (Nat × Nat)} (h : SqL K H a (ts.map V.ref)) (p : PairsAt K H ts ps) : Dp K H (.ref a) (dPorts ps) := .lst h (dp_paired dPort (fun _ _ z => dp_port z) p)
/-! ### lines -/
def dLine (l : Nat × Nat × Int) : PyData := .tuple [.int (l.1 : Int), .int (l.2.1 : Int), .int l.2.2]
def dLines (ls : List (Nat × Nat × Int)) : PyData := .list (ls.map dLine)
theorem shp_line (l : Nat × Nat × Int) : Shp 1 (dLine l) := shp_tuple fun d hd => by
  rcases List.mem_cons.mp hd with e | hd
  · rw [e]; exact shp_int _
  · rcases List.mem_cons.mp hd with e | hd
    · rw [e]; exact shp_int _
    · rw [List.mem_singleton.mp hd]; exact shp_int _
theorem eqv_line (p q : Nat × Nat × Int) : PyData.eqv (dLine p) (dLine q) = decide (p = q) := by
  obtain ⟨a, b, x⟩ := p
  obtain ⟨c, d, y⟩ := q
  unfold dLine
  rw [PyData.eqv, PyData.eqvAll, PyData.eqvAll, PyData.eqvAll, PyData.eqvAll, eqv_int, eqv_int, eqv_int, beq_dec, beq_dec, beq_dec, Bool.and_true, Bool.eq_iff_iff, Bool.and_eq_true, Bool.and_eq_true, decide_eq_true_eq, decide_eq_true_eq, decide_eq_true_eq, decide_eq_true_eq, Prod.mk.injEq, Prod.mk.injEq]
  show ((a : Int) = (c : Int) ∧ (b : Int) = (d : Int) ∧ x = y) ↔ _
  omega
theorem shp_lines (ls : List (Nat × Nat × Int)) : Shp 2 (dLines ls) := shp_list (shp_map shp_line)
theorem eqv_lines (a b : List (Nat × Nat × Int)) : PyData.eqv (dLines a) (dLines b) = decide (a = b) := by
  unfold dLines
  rw [PyData.eqv, eqv_map dLine eqv_line]
theorem dp_lines {K : PySem.W.Frag} {H : Hp} {a : Addr} {ts : List Addr} {ls : List (Nat × Nat × Int)} (h : SqL K H a (ts.map V.ref)) (p : LinesAt K H ts ls) : Dp K H (.ref a) (dLines ls) := .lst h (dp_paired dLine (fun _ _ z => .tup z (.cons (.int _) (.cons (.int _) (.cons (.int _) .nil)))) p)
end My
/-! min(xs) of a list of ports: one of them. No row. -/
namespace My
open PySem PySem.Spec PyProof.Rows L2 PySem.W
theorem alike_port (p q : Nat × Nat) : PySem.W.alike (dPort p) (dPort q) = true := by
  unfold dPort
  rw [PySem.W.alike, PySem.W.alikeAll, PySem.W.alikeAll, PySem.W.alikeAll, PySem.W.alike, PySem.W.alike]
  rfl
def rMinPorts (K : PySem.W.Frag) : List V → Hp → VK → Prop := fun vs H Q => ∃ (a : Addr) (ts : List Addr) (ps : List (Nat × Nat)), vs = [V.ref a] ∧ SqL K H a (ts.map V.ref) ∧ PairsAt K H ts ps ∧ ps ≠ [] ∧ ∀ t ∈ ts, Q (.ref t) H
section
variable {X : Cx}
theorem cr_minPorts (hc : X.calm = true) (hu : X.A.units + 64 < cLine) : CallR X (.builtin "min") (rMinPorts X.K) := by
  intro pins s σ H vs us Q I r h
  obtain ⟨a, ts, ps, rfl, hs, hp, hne, q⟩ := h
  obtain ⟨its, rv, it, _⟩ := I.list hs
  obtain ⟨u, rfl, ru⟩ := r.one
  cases (show u = Value.ref a from ru)
  have hd : DpAll X.K H (ts.map V.ref) (ps.map dPort) := dp_paired dPort (fun _ _ z => dp_port z) hp
  obtain ⟨as, hr⟩ := Dp.readsAll I _ _ its hd rv
  cases ps with
  | nil => exact absurd rfl hne
  | cons p ps =>
    have mem : ∀ z, z ∈ (dPort p :: ps.map dPort) → ∃ q, z = dPort q := fun z hz => by
      obtain ⟨q, _, e⟩ := List.mem_map.mp (show z ∈ (p :: ps).map dPort from hz)
      exact ⟨q, e.symm⟩
    refine min_list_data (x := dPort p) (xs := ps.map dPort) (I.ok.hd hc) it.isList (by simpa using hr) ⟨fun x hx y hy => ?_, fun x hx => ?_⟩ ?_ fun k v h' tk bs hv hr' hk => ?_
    · obtain ⟨m, rfl⟩ := mem x hx
      obtain ⟨m', rfl⟩ := mem y hy
      exact alike_port _ _
    · obtain ⟨m, rfl⟩ := mem x hx
      intro z
      cases z
    · have d0 : PyData.depthAll (dPort p :: ps.map dPort) ≤ 1 := (shp_all fun d hd => by
        obtain ⟨m, rfl⟩ := mem d hd
        exact shp_port m).2
      omega
    · have hv' : its[k]? = some v := by simpa using hv
      have hkl : k < its.length := (List.getElem?_eq_some_iff.mp hv').1
      have hkt : k < (ts.map V.ref).length := by rw [rv.length]; exact hkl
      obtain ⟨u, hu', ru'⟩ := rv.get (List.getElem?_eq_getElem hkt)
      rw [hv'] at hu'
      cases Option.some.inj hu'
      have : (ts.map V.ref)[k] = .ref (ts[k]'(by rw [List.length_map] at hkt; exact hkt)) := List.getElem_map ..
      rw [this] at ru'
      exact ⟨.ref _, H, I.kept hk, ru', q _ (List.getElem_mem _)⟩
end
end My
/-! list(zip(xs, ys)) of two lists. No row. -/
namespace Zl
open PySem
/-- the zip at n + 4, its two iterators at n and n + 1, its tuples at n + 2, n + 3; a list grows at n + 5 -/
structure ZSt (n u v : Nat) (xs ys : Array Value) (h : Heap) (i : Nat) : Prop where
  pr : IsPair h (n + 2) (.ref n) (.ref (n + 1))
  a : h.IsListIter n u i
  b : h.IsListIter (n + 1) v i
  lx : h.IsList u xs
  ly : h.IsList v ys
  big : n + 5 < h.objs.size
  st : (IsZip h (n + 4) (n + 2) (n + 3) .none ∧ ∃ p q, IsPair h (n + 3) p q) ∨ ∃ (T : Addr) (f : Bool) (o : Obj), IsZipHeld h (n + 4) (n + 2) (n + 3) T f ∧ n + 5 < T ∧ h.get? T = some o
theorem ZSt.keep {n u v : Nat} {xs ys : Array Value} {h g : Heap} {i : Nat} (Z : ZSt n u v xs ys h i) (hu : u < n) (hv : v < n) (k : ∀ c o, c ≠ n + 5 → h.get? c = some o → g.get? c = some o) (sz : n + 5 < g.objs.size) : ZSt n u v xs ys g i := by
  have n1 : ∀ m : Nat, m < n + 5 → m ≠ n + 5 := fun m e => Nat.ne_of_lt e
  refine ⟨k _ _ (n1 _ (by omega)) Z.pr, Z.a.at fun o e => k _ o (n1 _ (by omega)) e, Z.b.at fun o e => k _ o (n1 _ (by omega)) e, Z.lx.at fun o e => k _ o (n1 _ (by omega)) e, Z.ly.at fun o e => k _ o (n1 _ (by omega)) e, sz, ?_⟩
  rcases Z.st with ⟨e1, p, q, e2⟩ | ⟨T, f, o, e1, e2, e3⟩
  · exact .inl ⟨k _ _ (n1 _ (by omega)) e1, p, q, k _ _ (n1 _ (by omega)) e2⟩
  · exact .inr ⟨T, f, o, k _ _ (n1 _ (by omega)) e1, e2, k _ _ (Nat.ne_of_gt e2) e3⟩
section
variable {prog : Program} {w : World} {A : Around} {E : Value → Shared → Prop} {s : Shared} {n u v : Nat} {xs ys : Array Value} {i : Nat}
theorem zst_item {x y : Value} {Q : Option Value → Shared → Prop} (hu : u < n) (hv : v < n) (Z : ZSt n u v xs ys s.heap i) (hx : xs[i]? = some x) (hy : ys[i]? = some y)
    (hQ : ∀ g, ZSt n u v xs ys g (i + 1) → IsPair g s.heap.objs.size x y → g.objs.size = s.heap.objs.size + 1 → (∀ c o, (c < n ∨ n + 5 ≤ c) → s.heap.get? c = some o → g.get? c = some o) → Q (some (.ref s.heap.objs.size)) { s with heap := g }) :
    wpAny (model prog w) A (pyNext (.ref (n + 4))) Q E s := by
  have D := PySem.W.ktu_apart n u v hu hv
  have big := Z.big
  have nn : ∀ {a b : Nat}, a < b ∨ b < a → a ≠ b := fun h e => by omega
  rcases Z.st with ⟨e1, p, q, e2⟩ | ⟨T, f, o, e1, e2, e3⟩
  · refine wpAny_pyNext_zip_item D e1 Z.pr e2 Z.a Z.b Z.lx Z.ly hx hy fun g g1 g2 g3 g4 g5 g6 k => ?_
    have k' : ∀ c o, (c < n ∨ n + 5 ≤ c) → s.heap.get? c = some o → g.get? c = some o := fun c o hc e => k c o (nn (by omega)) (nn (by omega)) (nn (by omega)) (nn (by omega)) e
    refine hQ g ⟨k _ _ (nn (by omega)) (nn (by omega)) (nn (by omega)) (nn (by omega)) Z.pr, g3, g4, Z.lx.at fun o e => k' _ o (.inl hu) e, Z.ly.at fun o e => k' _ o (.inl hv) e, by omega, .inr ⟨s.heap.objs.size, false, _, g1, big, g5⟩⟩ g5 g6 k'
  · refine wpAny_pyNext_zip_item_held D e1 e3 Z.pr Z.a Z.b Z.lx Z.ly hx hy fun g g1 g3 g4 g5 g6 k => ?_
    have k' : ∀ c o, (c < n ∨ n + 5 ≤ c) → s.heap.get? c = some o → g.get? c = some o := fun c o hc e => k c o (nn (by omega)) (nn (by omega)) (nn (by omega)) e
    refine hQ g ⟨k _ _ (nn (by omega)) (nn (by omega)) (nn (by omega)) Z.pr, g3, g4, Z.lx.at fun o e => k' _ o (.inl hu) e, Z.ly.at fun o e => k' _ o (.inl hv) e, by omega, .inr ⟨T, true, o, g1, e2, k' _ _ (.inr (by omega)) e3⟩⟩ g5 g6 k'
theorem zst_end {Q : Option Value → Shared → Prop} (hh : A.handled = none) (hu : u < n) (hv : v < n) (Z : ZSt n u v xs ys s.heap i) (hx : xs[i]? = none ∨ ys[i]? = none)
    (hQ : ∀ g, (∀ c o, (c < n ∨ n + 5 ≤ c) → s.heap.get? c = some o → g.get? c = some o) → Q none { s with heap := g }) : wpAny (model prog w) A (pyNext (.ref (n + 4))) Q E s := by
  have D := PySem.W.ktu_apart n u v hu hv
  have nn : ∀ {a b : Nat}, a < b ∨ b < a → a ≠ b := fun h e => by omega
  rcases Z.st with ⟨e1, p, q, e2⟩ | ⟨T, f, o, e1, e2, e3⟩
  · exact wpAny_pyNext_zip_end hh D e1 Z.pr e2 Z.a Z.b Z.lx Z.ly hx fun g k => hQ g fun c o hc e => k c o (nn (by omega)) (nn (by omega)) (nn (by omega)) (nn (by omega)) e
  · exact wpAny_pyNext_zip_end_held hh D e1 e3 Z.pr Z.a Z.b Z.lx Z.ly hx fun g k => hQ g fun c o hc e => k c o (nn (by omega)) (nn (by omega)) (nn (by omega)) e
end
/-- the tuples given out so far -/
structure Got (n : Nat) (xs ys : Array Value) (h : Heap) (ts : List Addr) : Prop where
  up : ts.Pairwise (· < ·)
  hi : ∀ t ∈ ts, n + 5 < t
  at_ : ∀ (j : Nat) (t : Addr), ts[j]? = some t → ∃ x y, xs[j]? = some x ∧ ys[j]? = some y ∧ IsPair h t x y
theorem Got.in_ {n : Nat} {xs ys : Array Value} {h : Heap} {ts : List Addr} (G : Got n xs ys h ts) {t : Addr} (ht : t ∈ ts) : t < h.objs.size := by
  obtain ⟨j, hj⟩ := List.mem_iff_getElem?.mp ht
  obtain ⟨_, _, _, _, e⟩ := G.at_ j t hj
  exact Heap.lt_size e
abbrev LstObj (acc : Array Value) (c : Nat) : Obj := { cls := .type "list", dict := none, data := .seq acc c, slots := #[] }
section
variable {prog : Program} {w : World} {A : Around} {s : Shared} {R : Result → Shared → Prop} {n u v : Nat} {xs ys : Array Value}
theorem loop {m : Nat} (hm : m = min xs.size ys.size) (hh : A.handled = none) (hu : u < n) (hv : v < n) (hmm : m ≤ sizeLine) (res : Value) {h₁ : Heap}
    (hR : ∀ g tk acc c ts, (∀ b o, b < n → h₁.get? b = some o → g.get? b = some o) → g.get? (n + 5) = some (LstObj acc c) → ts.length = m → Got n xs ys g ts → acc.toList = ts.map Value.ref → R (.ok (.ret res)) { s with heap := g, toks := tk }) :
    ∀ (k i : Nat) (h : Heap) (tk c : Nat) (acc : Array Value) (ts : List Addr), m - i = k → i ≤ m → ZSt n u v xs ys h i → (∀ b o, b < n → h₁.get? b = some o → h.get? b = some o) → h.get? (n + 5) = some (LstObj acc c) → acc.toList = ts.map Value.ref → ts.length = i → Got n xs ys h ts →
      codeAny (model prog w) A (.builtin "list.extend.loop" ⟨[.ref (n + 5), .ref (n + 4), res], []⟩) R { s with heap := h, toks := tk } := by
  intro k
  induction k with
  | zero =>
    intro i h tk c acc ts hk hi Z keep hS ha hl G
    refine codeAny_builtin PySem.F.entry_extend_loop ?_
    rw [Around.under_plainId PySem.F.plain_extend_loop _]
    refine wpAny_bind (zst_end (s := { s with heap := h, toks := tk }) (A := A.in1) hh hu hv Z ?_ fun g kk => ?_)
    · rcases Nat.le_total xs.size ys.size with z | z
      · exact .inl (Array.getElem?_eq_none (by omega))
      · exact .inr (Array.getElem?_eq_none (by omega))
    · refine wpAny_pure (hR g tk acc c ts (fun b o hb e => kk b o (.inl hb) (keep b o hb e)) (kk _ _ (.inr (Nat.le_refl _)) hS) (by omega) ⟨G.up, G.hi, fun j t hj => ?_⟩ ha)
      obtain ⟨x, y, e1, e2, e3⟩ := G.at_ j t hj
      exact ⟨x, y, e1, e2, kk _ _ (.inr (Nat.le_of_lt (G.hi t (List.mem_of_getElem? hj)))) e3⟩
  | succ k ih =>
    intro i h tk c acc ts hk hi Z keep hS ha hl G
    have h1 : i < xs.size := by omega
    have h2 : i < ys.size := by omega
    have sz : acc.size = i := by rw [← Array.length_toList, ha, List.length_map, hl]
    have big := Z.big
    refine codeAny_builtin PySem.F.entry_extend_loop ?_
    rw [Around.under_plainId PySem.F.plain_extend_loop _]
    refine wpAny_bind (zst_item (s := { s with heap := h, toks := tk }) hu hv Z (Array.getElem?_eq_getElem h1) (Array.getElem?_eq_getElem h2) fun g Z' hp hz kk => ?_)
    dsimp only at hp hz kk ⊢
    have hS' := kk _ _ (.inr (Nat.le_refl _)) hS
    have up : ∀ b o, b ≠ n + 5 → g.get? b = some o → (g.update (n + 5) (Obj.mapSeq (·.push (Value.ref h.objs.size)))).get? b = some o := fun b o hb e => (Heap.get?_update_other _ _ (Ne.symm hb)).trans e
    have at5 : (g.update (n + 5) (Obj.mapSeq (·.push (Value.ref h.objs.size)))).get? (n + 5) = some (LstObj (acc.push (Value.ref h.objs.size)) _) := Heap.get?_update_self _ hS' rfl
    refine wpAny_bind (wpAny_updateSeq hS' rfl (wpAny_pure ⟨plainId_quiet PySem.F.plain_extend_loop _, ih (i + 1) _ tk _ (acc.push (Value.ref h.objs.size)) (ts ++ [h.objs.size]) (by omega) (by omega)
      (Z'.keep hu hv up (Heap.lt_size at5)) (fun b o hb e => up b o (by omega) (kk b o (.inl hb) (keep b o hb e))) at5 (by rw [Array.toList_push, ha, List.map_append]; rfl) (by rw [List.length_append, hl]; rfl) ⟨?_, ?_, ?_⟩⟩) (by rw [sz]; omega) (by show (acc.push _).size ≤ sizeLine + 1; rw [Array.size_push, sz]; omega))
    · refine List.pairwise_append.mpr ⟨G.up, List.pairwise_singleton _ _, fun t ht b hb => ?_⟩
      rw [List.mem_singleton.mp hb]
      exact G.in_ ht
    · intro t ht
      rcases List.mem_append.mp ht with z | z
      · exact G.hi t z
      · rw [List.mem_singleton.mp z]; exact big
    · intro j t hj
      by_cases hjl : j < ts.length
      · rw [List.getElem?_append_left hjl] at hj
        obtain ⟨x, y, e1, e2, e3⟩ := G.at_ j t hj
        have ht := G.hi t (List.mem_of_getElem? hj)
        exact ⟨x, y, e1, e2, up _ _ (Nat.ne_of_gt ht) (kk _ _ (.inr (Nat.le_of_lt ht)) e3)⟩
      · have hj2 : j = ts.length := by
          have := (List.getElem?_eq_some_iff.mp hj).1
          rw [List.length_append, List.length_singleton] at this
          omega
        subst hj2
        have ht : h.objs.size = t := by simpa using hj
        subst ht
        exact ⟨_, _, by rw [hl]; exact Array.getElem?_eq_getElem h1, by rw [hl]; exact Array.getElem?_eq_getElem h2, up _ _ (Nat.ne_of_gt big) hp⟩
theorem no_len : typeLookup (.type "zip") "__len__" = pure none := by rw [typeLookup_type, builtinLookup_eq_fast]; kernel_rfl
theorem no_hint : typeLookup (.type "zip") "__length_hint__" = pure none := by rw [typeLookup_type, builtinLookup_eq_fast]; kernel_rfl
end
section
variable {prog : Program} {w : World} {A : Around} {E : Value → Shared → Prop} {s : Shared} {u v : Nat} {xs ys : Array Value}
theorem hint {z : Addr} (hT : s.TypeIs (.ref z) "zip") {Q : Bool → Shared → Prop} (h : Q true s) : wpAny (model prog w) A (Builtin.List.listLengthHint (.ref z)) Q E s := by
  unfold Builtin.List.listLengthHint
  refine wpAny_bind (wpAny_specialOf hT no_len ?_)
  show wpAny _ _ (specialOf (Value.ref z) (Str.ofString "__length_hint__") >>= _) _ _ _
  exact wpAny_bind (wpAny_specialOf hT no_hint (wpAny_pure h))
/-- list(z), z the zip that was just made of the lists at u and v -/
theorem call_list {n : Nat} {Q : Value → Shared → Prop} (hh : A.handled = none) (hsz : s.heap.objs.size = n + 5) (hu : u < n) (hv : v < n) (hz : IsZip s.heap (n + 4) (n + 2) (n + 3) .none) (hp : IsPair s.heap (n + 2) (.ref n) (.ref (n + 1))) (hq : ∃ p q, IsPair s.heap (n + 3) p q)
    (ha : s.heap.IsListIter n u 0) (hb : s.heap.IsListIter (n + 1) v 0) (hx : s.heap.IsList u xs) (hy : s.heap.IsList v ys) (hmm : min xs.size ys.size ≤ sizeLine)
    (hQ : ∀ g tk acc c ts, (∀ b o, b < n → s.heap.get? b = some o → g.get? b = some o) → g.get? (n + 5) = some (LstObj acc c) → ts.length = min xs.size ys.size → Got n xs ys g ts → acc.toList = ts.map Value.ref → Q (.ref (n + 5)) { s with heap := g, toks := tk }) :
    wpAny (model prog w) A (call (.type "list") [.ref (n + 4)]) Q E s := by
  refine callType_codes (Q₁ := fun obj s₁ => obj = .ref (n + 5) ∧ s₁ = { s with heap := s.heap.push (LstObj #[] 0) }) PySem.F.called_list (PySem.F.typeCall_list_1 _) PySem.F.entry_list_init (code_list_new _ ⟨by rw [hsz], rfl⟩) fun obj s₁ e => ?_
  obtain ⟨rfl, rfl⟩ := e
  have hS : (s.heap.push (LstObj #[] 0)).get? (n + 5) = some (LstObj #[] 0) := by rw [← hsz]; exact Heap.get?_push_size _ rfl
  have old : ∀ b o, s.heap.get? b = some o → (s.heap.push (LstObj #[] 0)).get? b = some o := fun b o e => Heap.get?_push_of_some _ e
  refine ⟨⟨_, hS, rfl⟩, PySem.F.args_list_init_2 _ _, ?_⟩
  show wpAny _ _ (Builtin.List.listItems (.ref (n + 5)) >>= _) _ _ _
  refine wpAny_bind ?_
  unfold Builtin.List.listItems
  refine wpAny_bind (wpAny_seqItems hS rfl (wpAny_pure ?_))
  show wpAny _ _ (updateSeq (n + 5) (fun _ => #[]) >>= fun _ => letGo (#[] : Array Value).toList.reverse >>= fun _ => Builtin.List.listExtendWith (.ref (n + 5)) (.ref (n + 4)) .none) _ _ _
  refine wpAny_bind (wpAny_updateSeq hS rfl ?_)
  have hS2 := Heap.get?_update_self (Obj.mapSeq (fun _ => (#[] : Array Value))) hS rfl
  have old2 : ∀ b o, b ≠ n + 5 → s.heap.get? b = some o → ((s.heap.push (LstObj #[] 0)).update (n + 5) (Obj.mapSeq (fun _ => (#[] : Array Value)))).get? b = some o := fun b o hb e => (Heap.get?_update_other _ _ (Ne.symm hb)).trans (old b o e)
  generalize ((s.heap.push (LstObj #[] 0)).update (n + 5) (Obj.mapSeq (fun _ => (#[] : Array Value)))) = h2 at hS2 old2 ⊢
  refine wpAny_bind (wpAny_letGo ?_)
  unfold Builtin.List.listExtendWith
  have ne4 : n + 4 ≠ n + 5 := by omega
  have hz2 : IsZip h2 (n + 4) (n + 2) (n + 3) .none := old2 _ _ ne4 hz
  refine wpAny_bind (wpAny_typeOf (T := "zip") ⟨_, hz2, rfl⟩ ?_)
  have q1 : Builtin.List.listSameRef (.ref (n + 5)) (.ref (n + 4)) = false := by simp [Builtin.List.listSameRef]
  have q2 : (Value.type "zip" == Value.type "list") = false := by decide
  have q3 : (Value.type "zip" == Value.type "tuple") = false := by decide
  simp only [q1, q2, q3, Bool.or_false, Bool.false_eq_true, if_false]
  refine wpAny_bind (wpAny_pyIter_zip hz2 (wpAny_bind (wpAny_holding (hint ⟨_, hz2, rfl⟩ ?_))))
  simp only [Bool.true_or, if_true]
  refine wpAny_bind (wpAny_rule ?_)
  refine wpAny_bind ?_
  show wpAny _ _ (updateSeq (n + 5) (·.push .none) >>= fun _ => updateSeq (n + 5) (·.pop)) _ _ _
  refine wpAny_bind (wpAny_updateSeq hS2 rfl ?_)
  have hS3 := Heap.get?_update_self (Obj.mapSeq (·.push Value.none)) hS2 rfl
  refine wpAny_updateSeq (hz := by seq_fits) hS3 rfl ?_
  have hS4 := Heap.get?_update_self (Obj.mapSeq (·.pop)) hS3 rfl
  have old4 : ∀ b o, b ≠ n + 5 → s.heap.get? b = some o → ((h2.update (n + 5) (Obj.mapSeq (·.push Value.none))).update (n + 5) (Obj.mapSeq (·.pop))).get? b = some o := fun b o hb e => (Heap.get?_update_other _ _ (Ne.symm hb)).trans ((Heap.get?_update_other _ _ (Ne.symm hb)).trans (old2 b o hb e))
  generalize ((h2.update (n + 5) (Obj.mapSeq (·.push Value.none))).update (n + 5) (Obj.mapSeq (·.pop))) = h4 at hS4 old4 ⊢
  have nn : ∀ b, b < n + 5 → b ≠ n + 5 := fun b e => Nat.ne_of_lt e
  obtain ⟨p, q, hq⟩ := hq
  refine wpAny_pure ⟨plainId_quiet PySem.F.plain_extend_loop _, loop (A := A.in1) (s := s) (R := wants (fun r s₂ => r = .none ∧ Q (.ref (n + 5)) s₂) E) (h₁ := s.heap) (m := min xs.size ys.size) rfl hh hu hv hmm .none (fun g tk acc c ts k e1 e2 e3 e4 => ⟨rfl, hQ g tk acc c ts k e1 e2 e3 e4⟩) (min xs.size ys.size) 0 h4 s.toks _ #[] [] (Nat.sub_zero _) (Nat.zero_le _)
    ⟨old4 _ _ (nn _ (by omega)) hp, ha.at fun o e => old4 _ o (nn _ (by omega)) e, hb.at fun o e => old4 _ o (nn _ (by omega)) e, hx.at fun o e => old4 _ o (nn _ (by omega)) e, hy.at fun o e => old4 _ o (nn _ (by omega)) e, Heap.lt_size hS4, .inl ⟨old4 _ _ ne4 hz, p, q, old4 _ _ (nn _ (by omega)) hq⟩⟩
    (fun b o hb e => old4 b o (nn _ (by omega)) e) hS4 rfl rfl ⟨List.Pairwise.nil, (fun t ht => by cases ht), fun j t hj => by simp at hj⟩⟩
end
end Zl
/-! list(zip(xs, ys)) as a rule of the hand layer. No row. -/
namespace Zl
open PySem PySem.Spec PyProof.Rows L2
def lay : Hp → List Addr → List (V × V) → Hp
  | H, t :: ts, z :: zs => lay (upd H t (.tup [z.1, z.2])) ts zs
  | H, _, _ => H
theorem lay_out {b : Addr} : ∀ (ts : List Addr) (zs : List (V × V)) (H : Hp), b ∉ ts → lay H ts zs b = H b
  | [], _, _, _ => rfl
  | _ :: _, [], _, _ => rfl
  | t :: ts, z :: zs, H, h => by
    rw [List.mem_cons, not_or] at h
    show lay (upd H t _) ts zs b = H b
    rw [lay_out ts zs _ h.2, upd_ne h.1]
theorem lay_in : ∀ (ts : List Addr) (zs : List (V × V)) (H : Hp), ts.length = zs.length → ts.Nodup → Paired (fun (t : Addr) (z : V × V) => lay H ts zs t = some (.tup [z.1, z.2])) ts zs
  | [], [], _, _, _ => .nil
  | [], _ :: _, _, h, _ => by cases h
  | _ :: _, [], _, h, _ => by cases h
  | t :: ts, z :: zs, H, h, hn => by
    rw [List.nodup_cons] at hn
    refine .cons ?_ (lay_in ts zs (upd H t (.tup [z.1, z.2])) (Nat.succ.inj h) hn.2)
    show lay (upd H t (.tup [z.1, z.2])) ts zs t = _
    rw [lay_out ts zs _ hn.1, upd_same]
theorem refs_vals : ∀ ts : List Addr, Vals (ts.map V.ref) (ts.map Value.ref)
  | [] => .nil
  | _ :: r => .cons rfl (refs_vals r)
theorem pair_mem {F : Addr → V × V → Prop} : ∀ {ts : List Addr} {zs : List (V × V)}, Paired F ts zs → ∀ {t : Addr}, t ∈ ts → ∃ (j : Nat) (z : V × V), ts[j]? = some t ∧ zs[j]? = some z ∧ F t z
  | _, _, .cons h r, t, ht => by
    rcases List.mem_cons.mp ht with e | ht
    · rw [e]; exact ⟨0, _, rfl, rfl, h⟩
    · obtain ⟨j, z, e1, e2, e3⟩ := pair_mem r ht
      exact ⟨j + 1, z, e1, e2, e3⟩
def tListZip (K : PySem.W.Frag) (ta : TA) : TE := fun σ H Q => ta σ H fun vs H1 => ∃ (a b : Addr) (xs ys : List V), vs = [.ref a, .ref b] ∧ SqL K H1 a xs ∧ SqL K H1 b ys ∧
  ∀ (H' : Hp) (p : Addr) (ts : List Addr), Same H1 H' → H1 p = none → H' p = some (.lst (ts.map V.ref)) → Paired (fun (t : Addr) (z : V × V) => H' t = some (.tup [z.1, z.2])) ts (xs.zip ys) → Q (.ref p) H'
section
variable {X : Cx}
theorem laid {pins : List (Addr × Obj)} {σ : L2.St} {H : Hp} {s : Shared} {g : Heap} {tk : Nat} {xs ys : List V} {us vs : List Value} {acc : Array Value} {c : Nat} {ts : List Addr} (I : Inv X pins σ H s) (hz : xs.length ≤ sizeLine) (rx : Vals xs us) (ry : Vals ys vs)
    (k : ∀ b o, b < s.heap.objs.size → s.heap.get? b = some o → g.get? b = some o) (hS : g.get? (s.heap.objs.size + 5) = some (LstObj acc c)) (hl : ts.length = min us.toArray.size vs.toArray.size) (G : Got s.heap.objs.size us.toArray vs.toArray g ts) (ha : acc.toList = ts.map Value.ref) :
    ∃ H' : Hp, Same H H' ∧ H (s.heap.objs.size + 5) = none ∧ H' (s.heap.objs.size + 5) = some (.lst (ts.map V.ref)) ∧ Paired (fun (t : Addr) (z : V × V) => H' t = some (.tup [z.1, z.2])) ts (xs.zip ys) ∧ Inv X pins σ H' { s with heap := g, toks := tk } := by
  have lx : xs.length = us.length := rx.length
  have ly : ys.length = vs.length := ry.length
  have lz : ts.length = (xs.zip ys).length := by rw [List.length_zip, lx, ly, hl, List.size_toArray, List.size_toArray]
  have nd : ts.Nodup := G.up.imp fun h => Nat.ne_of_lt h
  have pS : s.heap.objs.size + 5 ∉ ts := fun m => Nat.lt_irrefl _ (G.hi _ m)
  have new : ∀ {b : Addr}, s.heap.objs.size ≤ b → H b = none := fun h => I.hok.fresh h
  have gt : ∀ t ∈ ts, s.heap.objs.size ≤ t := fun t m => by have := G.hi t m; omega
  have old : ∀ b o, s.heap.get? b = some o → b ∉ ts ∧ b ≠ s.heap.objs.size + 5 ∧ g.get? b = some o := fun b o e => by
    have lt : b < s.heap.objs.size := Heap.lt_size e
    exact ⟨fun m => absurd (gt b m) (Nat.not_le.mpr lt), Nat.ne_of_lt (Nat.lt_of_lt_of_le lt (Nat.le_add_right _ _)), k b o lt e⟩
  have inn := lay_in ts (xs.zip ys) (upd H (s.heap.objs.size + 5) (.lst (ts.map V.ref))) lz nd
  have out : ∀ b, b ∉ ts → b ≠ s.heap.objs.size + 5 → lay (upd H (s.heap.objs.size + 5) (.lst (ts.map V.ref))) ts (xs.zip ys) b = H b := fun b h1 h2 => by rw [lay_out ts _ _ h1, upd_ne h2]
  have sm : Same H (lay (upd H (s.heap.objs.size + 5) (.lst (ts.map V.ref))) ts (xs.zip ys)) := fun b o e => by
    rw [out b (fun m => by rw [new (gt b m)] at e; cases e) fun z => by rw [z, new (Nat.le_add_right _ _)] at e; cases e]
    exact e
  have eS : lay (upd H (s.heap.objs.size + 5) (.lst (ts.map V.ref))) ts (xs.zip ys) (s.heap.objs.size + 5) = some (.lst (ts.map V.ref)) := by rw [lay_out ts _ _ pS, upd_same]
  generalize lay (upd H (s.heap.objs.size + 5) (.lst (ts.map V.ref))) ts (xs.zip ys) = H' at inn out sm eS
  have kg : ∀ b o, s.heap.get? b = some o → g.get? b = some o := fun b o e => (old b o e).2.2
  have un : Un (frs X.stack) [] H H' s.heap g :=
    { keep := fun b o q _ _ _ => kg b o q, slot := fun b o q _ _ _ => ⟨o.slots, kg b o q⟩, free := fun b o q h _ => by rw [out b (old b o q).1 (old b o q).2.1]; exact h,
      there := fun b o q _ => ⟨o, kg b o q⟩, tups := fun b _ q => sm b _ q, frzs := fun b _ _ q => sm b _ q, tbls := fun b ps q => ⟨#[], by rw [sm b _ q, Array.append_empty]⟩ }
  have hok : HOk X.prog X.w H' g := fun b u q => by
    by_cases hb : b ∈ ts
    · obtain ⟨j, z, e1, e2, e3⟩ := pair_mem inn hb
      rw [e3] at q
      cases q
      obtain ⟨x, y, f1, f2, f3⟩ := G.at_ j b e1
      obtain ⟨w1, w2⟩ := List.getElem?_zip_eq_some.mp e2
      obtain ⟨ux, g1, g2⟩ := rx.get w1
      obtain ⟨uy, g3, g4⟩ := ry.get w2
      have g1' : us.toArray[j]? = some ux := by simpa using g1
      have g3' : vs.toArray[j]? = some uy := by simpa using g3
      rw [f1] at g1'
      rw [f2] at g3'
      cases g1'
      cases g3'
      exact ⟨by show 2 ≤ sizeLine; decide, [x, y], .cons g2 (.cons g4 .nil), ⟨_, f3, rfl, _, rfl⟩⟩
    · by_cases h5 : b = s.heap.objs.size + 5
      · subst h5
        rw [eS] at q
        cases q
        refine ⟨by rw [List.length_map, lz, List.length_zip]; omega, acc.toList, c, by rw [ha]; exact refs_vals ts, ?_⟩
        rw [Array.toArray_toList]
        exact hS
      · rw [out b hb h5] at q
        exact (I.hok b u q).stay (fun d v _ y => kg d v y) (fun d y => sm d _ y) fun d _ y => sm d _ y
  exact ⟨H', sm, new (Nat.le_add_right _ _), eS, inn, I.call' (ch := []) rfl un hok I.bare fun b z => by cases z⟩
theorem pe_listZip {e1 e2 : Expr} {ta : TA} {p q cpos pos : Pos} (hc : X.calm = true) (ha : PA X [e1, e2] ta) (hg : Gl X "list") (hm : X.mg "list" = none) (hgz : Gl X "zip") (hmz : X.mg "zip" = none)
    (h1 : starEach [.Call (.Name "zip" q) [e1, e2] [] cpos] X.env = (false, eval (.Call (.Name "zip" q) [e1, e2] [] cpos) X.env) :: starEach [] X.env := by rfl)
    (h2 : starEach [e1, e2] X.env = (false, eval e1 X.env) :: starEach [e2] X.env := by rfl) (h3 : (backTo cpos (starEach [e2] X.env)).any (·.1) = false := by rfl) :
    PE X (.Call (.Name "list" p) [.Call (.Name "zip" q) [e1, e2] [] cpos] [] pos) (tListZip X.K ta) := by
  refine ⟨fun pins s σ H Q I h => ?_⟩
  refine wpAny_Call_Name_kw (ld_blt I hg hm PyProof.Rows.boot_list ?_)
  refine PyProof.Rows.callWith_type1 ?_ h1 rfl
  rw [h1]
  refine Calls.spliced_cons ?_
  refine Call_ (ld_blt I hgz hmz PyProof.Rows.boot_zip (PyProof.Rows.callWith_type1 (thn (ha.run cpos pins s σ H _ I h) fun us s1 ⟨vs, H1, I1, r1, z⟩ => ?_) h2 h3))
  obtain ⟨a, b, xs, ys, rfl, hx, hy, z⟩ := z
  cases r1 with
  | cons r rr =>
    cases rr with
    | cons r' rr =>
      cases rr
      cases r
      cases r'
      obtain ⟨its, rx, px, lx⟩ := I1.list hx
      obtain ⟨jts, ry, py, ly⟩ := I1.list hy
      refine call_zip_2 px.isList py.isList fun g hz hTI hTO i1 i2 hsz hk => ?_
      refine Calls.spliced_nil ?_
      have lim : min its.toArray.size jts.toArray.size ≤ sizeLine := by
        have e : its.length = xs.length := rx.length.symm
        rw [List.size_toArray, e]
        exact Nat.le_trans (Nat.min_le_left _ _) lx
      refine call_list (n := s1.heap.objs.size) (I1.ok.hd hc) hsz px.lt py.lt hz hTI ⟨_, _, hTO⟩ i1 i2 (px.isList.at fun o e => hk _ o e) (py.isList.at fun o e => hk _ o e) lim fun g' tk acc c ts k e1 e2 G e4 => ?_
      obtain ⟨H', q1, q2, q3, q4, J⟩ := laid (tk := tk) I1 lx rx ry (fun b o lt e => k b o lt (hk b o e)) e1 e2 G e4
      exact ⟨.ref _, H', J, rfl, z H' _ ts q1 q2 q3 q4⟩
end
end Zl
/-! == of two dicts whose keys are tuples and whose values are ints. No row. -/
namespace Dq
open PySem PySem.Spec PyProof.Rows L2
section
variable {prog : Program} {w : World} {K : Type} [DecidableEq K] {knd : HeapKind prog w K} {A : Around} {E : Value → Shared → Prop} {s : Shared}
theorem pairs_same {nm : String} {a b : Addr} {xa xb : List (K × Addr × Value)} {g : K → Bool} {Q : Bool → Shared → Prop} (hu : knd.room A) (sa : (a == sysModules) = false) (sb : (b == sysModules) = false)
    (da : s.heap.DictOfH knd a xa) (db : s.heap.DictOfH knd b xb) (g0 : ∀ x ∈ xa, atKey xb x.1 = none → g x.1 = false) (g1 : ∀ x ∈ xa, ∀ p, atKey xb x.1 = some p → SeqAt.EqAt A s x.2.2 p.2 (g x.1))
    (h : Q (xa.length == xb.length && xa.all fun x => g x.1) s) : wpAny (model prog w) A (Builtin.Dict.samePairs nm a b) Q E s := by
  obtain ⟨oa, ea, pa, ha, _, ta, la, ia, na⟩ := da
  obtain ⟨ob, eb, pb, hb, _, tb, lb, ib, nb⟩ := db
  have za : ea.size = xa.length := size_of_entries la
  have zb : eb.size = xb.length := size_of_entries lb
  unfold Builtin.Dict.samePairs Builtin.Dict.showsAll
  rw [if_neg (by rw [sa]; exact Bool.false_ne_true : ¬ (a == sysModules) = true), if_neg (by rw [sb]; exact Bool.false_ne_true : ¬ (b == sysModules) = true)]
  refine wpAny_bind (wpAny_pure (wpAny_bind (wpAny_pure (wpAny_bind (wpAny_dictEntries ha ta ?_)))))
  dsimp only
  refine wpAny_bind (wpAny_dictEntries hb tb ?_)
  by_cases hs : ea.size = eb.size
  case neg =>
    rw [if_pos (by simpa using hs)]
    have e : (xa.length == xb.length) = false := by rw [← za, ← zb]; simpa using hs
    rw [e, Bool.false_and] at h
    exact wpAny_bind (wpAny_rule (wpAny_pure h))
  case pos =>
    have e : (xa.length == xb.length) = true := by rw [← za, ← zb]; simpa using hs
    rw [e, Bool.true_and] at h
    rw [if_neg (by rw [hs]; simp)]
    refine wpAny_bind (wpAny_dictEpoch ha ta (wpAny_bind ?_))
    rw [Std.Legacy.Range.forIn_eq_forIn_range']
    simp only [Std.Legacy.Range.size, Nat.sub_zero, Nat.add_sub_cancel, Nat.div_one]
    refine wpAny_forIn_list _ (fun rest q s' => s' = s ∧ q = (none, ()) ∧ ∃ i, rest = List.range' i (ea.size - i) ∧ i ≤ ea.size ∧ ((xa.take i).all fun x => g x.1) = true) _ ?_ ?_ _ _ ⟨rfl, rfl, 0, by simp, Nat.zero_le _, rfl⟩
    · rintro x rest q s' ⟨rfl, rfl, i, hr, hi, hall⟩
      have lt : i < ea.size := by
        rcases Nat.lt_or_ge i ea.size with z | z
        · exact z
        · rw [Nat.sub_eq_zero_of_le z] at hr; cases hr
      obtain ⟨rfl, hrest⟩ : x = i ∧ rest = List.range' (i + 1) (ea.size - (i + 1)) := by
        rw [show ea.size - i = (ea.size - (i + 1)) + 1 by omega, List.range'_succ] at hr
        exact ⟨(List.cons.inj hr).1, (List.cons.inj hr).2⟩
      have lx : x < xa.length := by omega
      have ex : xa[x]? = some xa[x] := List.getElem?_eq_getElem lx
      have ee : ea[x]? = some (entryOfKey knd xa[x]) := by rw [entry_at la x, ex]; rfl
      have mx : xa[x] ∈ xa := List.getElem_mem lx
      refine wpAny_bind (wpAny_dictEntries ha ta ?_)
      rw [ee]
      have tk : xa.take (x + 1) = xa.take x ++ [xa[x]] := by rw [List.take_add_one, ex]; rfl
      have bad : g xa[x].1 = false → (xa.all fun x => g x.1) = false := fun z => by
        rw [List.all_eq_false]
        exact ⟨_, mx, by rw [z]; exact Bool.false_ne_true⟩
      refine wpAny_bind (wpAny_holding (wpAny_bind (wpAny_dictFind_heap hu (ia _ mx) hb tb lb ib nb (fun hno => ?_) fun j p hj => ?_)))
      · have z := g0 _ mx (atKey_none_of_get hno)
        rw [bad z] at h
        refine wpAny_pure ?_
        show wpAny _ _ (if (!false) = true then _ else _) _ _ _
        rw [if_pos (show (!false) = true from rfl)]
        exact wpAny_pure (wpAny_pure h)
      · have kj := atKey_of_get nb hj
        have ej : eb[j]? = some (entryOfKey knd (xa[x].1, p)) := by rw [entry_at lb j, hj]; rfl
        refine wpAny_bind (wpAny_dictEntries hb tb ?_)
        rw [ej]
        refine wpAny_holding (g1 _ mx p kj prog w _ _ ?_)
        cases ge : g xa[x].1 with
        | false =>
          rw [bad ge] at h
          show wpAny _ _ (if (!false) = true then _ else _) _ _ _
          rw [if_pos (show (!false) = true from rfl)]
          exact wpAny_pure (wpAny_pure h)
        | true =>
          show wpAny _ _ (if (!true) = true then _ else _) _ _ _
          rw [if_neg (show ¬ (!true) = true from Bool.false_ne_true)]
          refine wpAny_bind (wpAny_dictEpoch ha ta ?_)
          rw [if_neg (show ¬ (pa != pa) = true by simp)]
          refine wpAny_pure ⟨rfl, rfl, x + 1, hrest, lt, ?_⟩
          rw [tk, List.all_append, hall]
          simpa using ge
    · rintro q s' ⟨rfl, rfl, i, hr, hi, hall⟩
      have ei : i = ea.size := by
        rcases Nat.lt_or_ge i ea.size with z | z
        · rw [show ea.size - i = (ea.size - (i + 1)) + 1 by omega, List.range'_succ] at hr; cases hr
        · omega
      rw [ei, za, List.take_length] at hall
      rw [hall] at h
      exact wpAny_pure h
theorem dicts_eq {a b : Addr} {xa xb : List (K × Addr × Value)} {g : K → Bool} {Q : Value → Shared → Prop} (hu : A.units < cLine) (hroom : knd.room A.in1) (sa : (a == sysModules) = false) (sb : (b == sysModules) = false)
    (da : s.heap.DictOfH knd a xa) (db : s.heap.DictOfH knd b xb) (g0 : ∀ x ∈ xa, atKey xb x.1 = none → g x.1 = false) (g1 : ∀ x ∈ xa, ∀ p, atKey xb x.1 = some p → SeqAt.EqAt A.in1 s x.2.2 p.2 (g x.1))
    (h : Q (.bool (xa.length == xb.length && xa.all fun x => g x.1)) s) : wpAny (model prog w) A (compareOp .Eq (.ref a) (.ref b)) Q E s := by
  have ea := da.typeIs
  have eb := db.typeIs
  refine wpAny_richCompare_same_room (op := .Eq) ea eb F.slot_dict_eq (wpAny_call_entry F.slot_dict_eq ea F.entry_dict_eq ?_ (F.args_dict_eq_2 _ _)) hu
  refine wpAny_bind (m := Builtin.Dict.dictSlotArgs "__eq__" ⟨[.ref a, .ref b], []⟩) ?_
  unfold Builtin.Dict.dictSlotArgs
  refine wpAny_bind (wpAny_notOrdered_dict ea ?_)
  refine wpAny_pure (a := (Value.ref a, Value.ref b)) (wpAny_bind (wpAny_isInstance (T := "dict") eb F.sub_dict_dict ?_))
  simp only [Bool.not_true, Bool.false_eq_true, if_false]
  refine wpAny_bind (wpAny_pure (wpAny_bind (wpAny_pure (wpAny_bind (pairs_same hroom sa sb da db g0 g1 (wpAny_pure ⟨_, rfl, (fun z => by cases z), ?_⟩))))))
  simpa using h
end
/-- the values are ints -/
def IntVals (ks : List (List Key × V)) : Prop := ∀ p ∈ ks, ∃ i : Int, p.2 = .int i
def sameD (ka kb : List (List Key × V)) : Bool := ka.length == kb.length && ka.all fun p => decide (valV kb p.1 = valV ka p.1)
def rEqT : R2 := fun x y H Q => ∃ (a b : Addr) (ka kb : List (List Key × V)), x = .ref a ∧ y = .ref b ∧ H a = some (.dT ka) ∧ H b = some (.dT kb) ∧ IntVals ka ∧ IntVals kb ∧ (ka.map (·.1)).Nodup ∧ Q (.bl (sameD ka kb)) H
theorem kt_mem {H : Hp} : ∀ {ks : List (List Key × V)} {xs : List (List Key × Addr × Value)}, KT H ks xs → ∀ {x : List Key × Addr × Value}, x ∈ xs → ∃ p ∈ ks, p.1 = x.1 ∧ RelV p.2 x.2.2
  | _, _, .cons h r, x, hx => by
    rcases List.mem_cons.mp hx with e | hx
    · rw [e]; exact ⟨_, List.mem_cons_self, h.1, h.2.2⟩
    · obtain ⟨p, h1, h2⟩ := kt_mem r hx
      exact ⟨p, List.mem_cons_of_mem _ h1, h2⟩
theorem kt_all {H : Hp} {f : List Key → Bool} : ∀ {ks : List (List Key × V)} {xs : List (List Key × Addr × Value)}, KT H ks xs → (xs.all fun x => f x.1) = ks.all fun p => f p.1
  | _, _, .nil => rfl
  | _, _, .cons h r => by rw [List.all_cons, List.all_cons, kt_all r, h.1]
theorem valV_mem {kvs : List (List Key × V)} {k : List Key} {v : V} (h : valV kvs k = some v) : ∃ p ∈ kvs, p.2 = v ∧ p.1 = k := by
  unfold valV at h
  obtain ⟨p, hp, e⟩ := Option.map_eq_some_iff.mp h
  have z := List.find?_some hp
  exact ⟨p, List.mem_of_find?_eq_some hp, e, by simpa using z⟩
theorem valV_of {kvs : List (List Key × V)} (hn : (kvs.map (·.1)).Nodup) {p : List Key × V} (h : p ∈ kvs) : valV kvs p.1 = some p.2 := by
  induction kvs with
  | nil => cases h
  | cons q r ih =>
    rw [List.map_cons, List.nodup_cons] at hn
    rcases List.mem_cons.mp h with e | h
    · rw [e]; exact valV_pos rfl
    · rw [valV_neg fun z => hn.1 (by rw [z]; exact List.mem_map.mpr ⟨p, h, rfl⟩)]
      exact ih hn.2 h
theorem op_eqT {X : Cx} (hu : X.A.units + 64 < cLine) : OpR X (compareOp .Eq) rEqT := by
  intro pins s σ H x y v u Q I rx ry h
  obtain ⟨a, b, ka, kb, rfl, rfl, ha, hb, va, vb, na, q⟩ := h
  cases rx
  cases ry
  obtain ⟨_, sa, xa, ra, da⟩ := dt_of I.hok ha
  obtain ⟨_, sb, xb, rb, db⟩ := dt_of I.hok hb
  have hi : X.A.units < cLine := by omega
  have hroom : (tupleKind (mixKind X.prog X.w)).room X.A.in1 := by
    show X.A.units + 1 < cLine
    omega
  refine dicts_eq (g := fun k => decide (valV kb k = valV ka k)) hi hroom sa sb da db (fun z hz e => ?_) (fun z hz p e => ?_) ⟨.bl (sameD ka kb), H, I, ?_, q⟩
  · obtain ⟨p, hp, e1, _⟩ := kt_mem ra hz
    have r := rb.val z.1
    rw [e] at r
    have e2 : valV kb z.1 = none := by
      cases y : valV kb z.1 with
      | none => rfl
      | some y' => rw [y] at r; exact r.elim
    refine decide_eq_false ?_
    rw [e2, ← e1, valV_of na hp]
    intro y
    cases y
  · obtain ⟨p', hp, e1, e3⟩ := kt_mem ra hz
    obtain ⟨i, ei⟩ := va p' hp
    have r := rb.val z.1
    rw [e] at r
    obtain ⟨w', ew⟩ : ∃ w', valV kb z.1 = some w' := by
      cases y : valV kb z.1 with
      | none => rw [y] at r; exact r.elim
      | some y' => exact ⟨y', rfl⟩
    rw [ew] at r
    obtain ⟨q', hq', e4, _⟩ := valV_mem ew
    obtain ⟨j, ej⟩ := vb q' hq'
    have ew2 : w' = .int j := by rw [← e4, ej]
    subst ew2
    rw [ei] at e3
    obtain ⟨t, et⟩ := e3
    obtain ⟨t', et'⟩ : ∃ t' : Tok, p.2 = Value.int j t' := r
    have eg : decide (valV kb z.1 = valV ka z.1) = (i == j) := by
      rw [ew, ← e1, valV_of na hp, ei, Bool.eq_iff_iff, decide_eq_true_eq, beq_iff_eq]
      constructor
      · intro y
        injection y with y
        injection y with y
        exact y.symm
      · intro y
        rw [y]
    show SeqAt.EqAt _ _ z.2.2 p.2 (decide (valV kb z.1 = valV ka z.1))
    rw [eg, et, et']
    exact SeqAt.EqAt.int_int _ _ _ _
  · show Value.bool _ = Value.bool _
    rw [kt_all ra (f := fun k => decide (valV kb k = valV ka k)), ← ra.length, ← rb.length]
    rfl
end Dq
/-! The dict of a net's lines as data: the same for turned lines, another one for other lines. No row. -/
namespace My
open PySem PySem.Spec PyProof.Rows L2 Dq
structure Dist (ls : List (Nat × Nat × Int)) : Prop where
  nd : (ls.map norm).Nodup
  ne : ∀ l ∈ ls, l.1 ≠ l.2.1
theorem LsOk.dist {n : Nat} {ls : List (Nat × Nat × Int)} (h : LsOk n ls) : Dist ls := ⟨h.nd, fun l hl e => by
  have := (h.bd l hl).1
  unfold norm at this
  rw [if_neg (by omega)] at this
  have : l.1 < l.2.1 := this
  omega⟩
theorem hits_of {a b : Nat} {l : Nat × Nat × Int} (h : hits a b l = true) : (l.1 = a ∧ l.2.1 = b) ∨ (l.1 = b ∧ l.2.1 = a) := by
  unfold hits at h
  rw [Bool.or_eq_true, Bool.and_eq_true, Bool.and_eq_true, decide_eq_true_eq, decide_eq_true_eq, decide_eq_true_eq, decide_eq_true_eq] at h
  exact h
theorem hits_mk {a b : Nat} {l : Nat × Nat × Int} (h : (l.1 = a ∧ l.2.1 = b) ∨ (l.1 = b ∧ l.2.1 = a)) : hits a b l = true := by
  unfold hits
  rw [Bool.or_eq_true, Bool.and_eq_true, Bool.and_eq_true, decide_eq_true_eq, decide_eq_true_eq, decide_eq_true_eq, decide_eq_true_eq]
  exact h
theorem norm_eq {l k : Nat × Nat × Int} (h : (l.1 = k.1 ∧ l.2.1 = k.2.1) ∨ (l.1 = k.2.1 ∧ l.2.1 = k.1)) : norm l = norm k := by
  unfold norm
  rcases h with ⟨e1, e2⟩ | ⟨e1, e2⟩
  · rw [e1, e2]
  · rw [e1, e2]
    by_cases z : k.1 < k.2.1
    · rw [if_pos z, if_neg (by omega)]
    · by_cases z' : k.2.1 < k.1
      · rw [if_neg z, if_pos z']
      · have e : k.1 = k.2.1 := by omega
        rw [if_neg z, if_neg z', e]
theorem hits_norm {a b : Nat} {l k : Nat × Nat × Int} (h : hits a b l = true) (h' : hits a b k = true) : norm l = norm k := by
  refine norm_eq ?_
  rcases hits_of h with ⟨e1, e2⟩ | ⟨e1, e2⟩ <;> rcases hits_of h' with ⟨e3, e4⟩ | ⟨e3, e4⟩ <;> omega
theorem nodup_inj {α β : Type} (f : α → β) : ∀ {ls : List α}, (ls.map f).Nodup → ∀ {l k : α}, l ∈ ls → k ∈ ls → f l = f k → l = k
  | [], _, _, _, h, _, _ => by cases h
  | x :: r, hn, l, k, h1, h2, e => by
    rw [List.map_cons, List.nodup_cons] at hn
    rcases List.mem_cons.mp h1 with e1 | h1 <;> rcases List.mem_cons.mp h2 with e2 | h2
    · rw [e1, e2]
    · exact absurd (List.mem_map.mpr ⟨k, h2, by rw [← e, e1]⟩) hn.1
    · exact absurd (List.mem_map.mpr ⟨l, h1, by rw [e, e2]⟩) hn.1
    · exact nodup_inj f hn.2 h1 h2 e
def two (l : Nat × Nat × Int) : List (List Key × V) := [(key2 l.1 l.2.1, .int l.2.2), (key2 l.2.1 l.1, .int l.2.2)]
def flatD (ls : List (Nat × Nat × Int)) : List (List Key × V) := ls.flatMap two
theorem flat_mem {ls : List (Nat × Nat × Int)} {p : List Key × V} : p ∈ flatD ls ↔ ∃ l ∈ ls, (p.1 = key2 l.1 l.2.1 ∨ p.1 = key2 l.2.1 l.1) ∧ p.2 = .int l.2.2 := by
  unfold flatD two
  rw [List.mem_flatMap]
  constructor
  · rintro ⟨l, hl, h⟩
    refine ⟨l, hl, ?_⟩
    rcases List.mem_cons.mp h with e | h
    · rw [e]; exact ⟨.inl rfl, rfl⟩
    · rw [List.mem_singleton.mp h]; exact ⟨.inr rfl, rfl⟩
  · rintro ⟨l, hl, h, e⟩
    refine ⟨l, hl, ?_⟩
    obtain ⟨p1, p2⟩ := p
    rcases h with h | h
    · cases h; cases e; exact List.mem_cons_self
    · cases h; cases e; exact List.mem_cons_of_mem _ (List.mem_singleton.mpr rfl)
theorem flat_none {ls : List (Nat × Nat × Int)} {a b : Nat} (h : ∀ l ∈ ls, hits a b l = false) : valV (flatD ls) (key2 a b) = none := by
  cases e : valV (flatD ls) (key2 a b) with
  | none => rfl
  | some v =>
    obtain ⟨p, hp, _, e2⟩ := valV_mem e
    obtain ⟨l, hl, h1, _⟩ := flat_mem.mp hp
    have := h l hl
    rw [hits_mk (by
      rcases h1 with h1 | h1
      · rw [e2] at h1
        obtain ⟨z1, z2⟩ := key2_inj h1
        exact .inl ⟨z1.symm, z2.symm⟩
      · rw [e2] at h1
        obtain ⟨z1, z2⟩ := key2_inj h1
        exact .inr ⟨z2.symm, z1.symm⟩)] at this
    cases this
theorem nodup_mid {xs ys : List (Nat × Nat × Int)} {l : Nat × Nat × Int} (h : Dist (xs ++ l :: ys)) : ∀ k ∈ xs, norm k ≠ norm l := by
  intro k hk e
  have := h.nd
  rw [List.map_append, List.map_cons, List.nodup_append] at this
  exact this.2.2 _ (List.mem_map.mpr ⟨k, hk, rfl⟩) _ List.mem_cons_self e
theorem fold_flat : ∀ (ys xs : List (Nat × Nat × Int)), Dist (xs ++ ys) → ys.foldl put2 (flatD xs) = flatD (xs ++ ys)
  | [], xs, _ => by rw [List.append_nil]; rfl
  | l :: ys, xs, h => by
    have hm := nodup_mid h
    have hne : l.1 ≠ l.2.1 := h.ne l (by simp)
    have n1 : valV (flatD xs) (key2 l.1 l.2.1) = none := flat_none fun k hk => by
      cases e : hits l.1 l.2.1 k with
      | false => rfl
      | true => exact absurd (hits_norm e (hits_mk (.inl ⟨rfl, rfl⟩))) (hm k hk)
    have n2 : valV (flatD xs) (key2 l.2.1 l.1) = none := flat_none fun k hk => by
      cases e : hits l.2.1 l.1 k with
      | false => rfl
      | true => exact absurd (hits_norm e (hits_mk (.inr ⟨rfl, rfl⟩))) (hm k hk)
    have e1 : put2 (flatD xs) l = flatD (xs ++ [l]) := by
      unfold put2
      rw [putK_new _ n1, putK_new _ (by
        rw [← putK_new (.int l.2.2) n1, valV_put, if_neg (fun z => hne (key2_inj z).2), n2]), List.append_assoc]
      unfold flatD
      rw [List.flatMap_append, List.flatMap_cons, List.flatMap_nil, List.append_nil]
      rfl
    rw [List.foldl_cons, e1, fold_flat ys (xs ++ [l]) (by rw [List.append_assoc]; exact h), List.append_assoc]
    rfl
theorem delays_flat {ls : List (Nat × Nat × Int)} (h : Dist ls) : delaysOf ls = flatD ls := fold_flat ls [] h
theorem flat_len : ∀ ls : List (Nat × Nat × Int), (flatD ls).length = 2 * ls.length
  | [] => rfl
  | l :: r => by
    have := flat_len r
    unfold flatD at this ⊢
    rw [List.flatMap_cons, List.length_append, this, List.length_cons]
    show 2 + 2 * r.length = _
    omega
theorem flat_ints (ls : List (Nat × Nat × Int)) : IntVals (flatD ls) := fun p hp => by
  obtain ⟨l, _, _, e⟩ := flat_mem.mp hp
  exact ⟨_, e⟩
theorem flat_nodup : ∀ {ls : List (Nat × Nat × Int)}, Dist ls → ((flatD ls).map (·.1)).Nodup
  | [], _ => List.nodup_nil
  | l :: r, h => by
    have hd : Dist r := ⟨by have := h.nd; rw [List.map_cons, List.nodup_cons] at this; exact this.2, fun k hk => h.ne k (List.mem_cons_of_mem _ hk)⟩
    have hne : l.1 ≠ l.2.1 := h.ne l List.mem_cons_self
    have hn : ∀ k ∈ r, norm k ≠ norm l := fun k hk e => by
      have := h.nd
      rw [List.map_cons, List.nodup_cons] at this
      exact this.1 (List.mem_map.mpr ⟨k, hk, e⟩)
    have out : ∀ a b : Nat, (l.1 = a ∧ l.2.1 = b) ∨ (l.1 = b ∧ l.2.1 = a) → key2 a b ∉ (flatD r).map (·.1) := fun a b hab hm => by
      obtain ⟨p, hp, e⟩ := List.mem_map.mp hm
      obtain ⟨k, hk, h1, _⟩ := flat_mem.mp hp
      refine hn k hk (hits_norm (a := a) (b := b) (hits_mk ?_) (hits_mk hab))
      rcases h1 with h1 | h1
      · rw [e] at h1
        obtain ⟨z1, z2⟩ := key2_inj h1
        exact .inl ⟨z1.symm, z2.symm⟩
      · rw [e] at h1
        obtain ⟨z1, z2⟩ := key2_inj h1
        exact .inr ⟨z2.symm, z1.symm⟩
    show (key2 l.1 l.2.1 :: key2 l.2.1 l.1 :: (flatD r).map (·.1)).Nodup
    rw [List.nodup_cons, List.nodup_cons]
    refine ⟨fun hm => ?_, out _ _ (.inr ⟨rfl, rfl⟩), flat_nodup hd⟩
    rcases List.mem_cons.mp hm with e | hm
    · exact hne (key2_inj e).1
    · exact out _ _ (.inl ⟨rfl, rfl⟩) hm
theorem flat_val {ls : List (Nat × Nat × Int)} (h : Dist ls) {l : Nat × Nat × Int} (hl : l ∈ ls) {a b : Nat} (e : hits a b l = true) : valV (flatD ls) (key2 a b) = some (.int l.2.2) := by
  have hm : (key2 a b, V.int l.2.2) ∈ flatD ls := flat_mem.mpr ⟨l, hl, by
    rcases hits_of e with ⟨e1, e2⟩ | ⟨e1, e2⟩
    · exact .inl (by rw [e1, e2])
    · exact .inr (by rw [e1, e2]), rfl⟩
  exact valV_of (flat_nodup h) hm
theorem find_one {ls : List (Nat × Nat × Int)} (h : Dist ls) {l : Nat × Nat × Int} (hl : l ∈ ls) {a b : Nat} (e : hits a b l = true) : ls.find? (hits a b) = some l := by
  cases q : ls.find? (hits a b) with
  | none => exact absurd e (by have := List.find?_eq_none.mp q l hl; exact this)
  | some k =>
    have hk := List.mem_of_find?_eq_some q
    have e' := List.find?_some q
    rw [nodup_inj norm h.nd hk hl (hits_norm e' e)]
/-- the delay by the dict is that of the first line -/
theorem val_joined {N : NetD} (h : Dist N.ls) (a b : Nat) : (valV (delaysOf N.ls) (key2 a b)).getD .non = optV (joined N a b) := by
  rw [delays_flat h]
  unfold joined
  by_cases e : ∃ l ∈ N.ls, hits a b l = true
  · obtain ⟨l, hl, e⟩ := e
    rw [flat_val h hl e, find_one h hl e]
    rfl
  · have z : ∀ l ∈ N.ls, hits a b l = false := fun l hl => by
      cases q : hits a b l with
      | false => rfl
      | true => exact absurd ⟨l, hl, q⟩ e
    rw [flat_none z, List.find?_eq_none.mpr fun l hl => by rw [z l hl]; decide]
    rfl
theorem adj_self {N : NetD} (h : Dist N.ls) (a : Nat) : adj N a a = false := by
  unfold adj
  rw [List.any_eq_false]
  intro l hl e
  have := h.ne l hl
  rcases hits_of e with ⟨e1, e2⟩ | ⟨e1, e2⟩ <;> omega
/-! ### turned lines -/
def flip (l : Nat × Nat × Int) : Nat × Nat × Int := (l.2.1, l.1, l.2.2)
def turn (ls : List (Nat × Nat × Int)) : List (Nat × Nat × Int) := (ls.map flip).reverse
theorem norm_flip (l : Nat × Nat × Int) : norm (flip l) = norm l := norm_eq (.inr ⟨rfl, rfl⟩)
theorem hits_flip (a b : Nat) (l : Nat × Nat × Int) : hits a b (flip l) = hits a b l := by
  rw [Bool.eq_iff_iff]
  constructor
  · intro h
    rcases hits_of h with ⟨e1, e2⟩ | ⟨e1, e2⟩
    · exact hits_mk (.inr ⟨e2, e1⟩)
    · exact hits_mk (.inl ⟨e2, e1⟩)
  · intro h
    rcases hits_of h with ⟨e1, e2⟩ | ⟨e1, e2⟩
    · exact hits_mk (.inr ⟨e2, e1⟩)
    · exact hits_mk (.inl ⟨e2, e1⟩)
theorem turn_mem {ls : List (Nat × Nat × Int)} {l : Nat × Nat × Int} : l ∈ turn ls ↔ ∃ k ∈ ls, flip k = l := by
  unfold turn
  rw [List.mem_reverse, List.mem_map]
theorem Dist.turn {ls : List (Nat × Nat × Int)} (h : Dist ls) : Dist (turn ls) := ⟨by
  have e : (My.turn ls).map norm = (ls.map norm).reverse := by
    unfold My.turn
    rw [List.map_reverse, List.map_map]
    congr 2
    funext l
    exact norm_flip l
  rw [e]
  exact List.pairwise_reverse.mpr (h.nd.imp fun z => z.symm), fun l hl => by
  obtain ⟨k, hk, rfl⟩ := turn_mem.mp hl
  exact (h.ne k hk).symm⟩
theorem turn_len (ls : List (Nat × Nat × Int)) : (turn ls).length = ls.length := by
  unfold turn
  rw [List.length_reverse, List.length_map]
theorem same_turn {ls : List (Nat × Nat × Int)} (h : Dist ls) : sameD (delaysOf ls) (delaysOf (turn ls)) = true := by
  rw [delays_flat h, delays_flat h.turn]
  unfold sameD
  rw [Bool.and_eq_true]
  refine ⟨by rw [flat_len, flat_len, turn_len, beq_self_eq_true], ?_⟩
  rw [List.all_eq_true]
  intro p hp
  refine decide_eq_true ?_
  have e := valV_of (flat_nodup h) hp
  obtain ⟨l, hl, h1, h2⟩ := flat_mem.mp hp
  rw [e, h2]
  have hf : flip l ∈ turn ls := turn_mem.mpr ⟨l, hl, rfl⟩
  rcases h1 with h1 | h1
  · rw [h1]
    exact flat_val h.turn hf (by rw [hits_flip]; exact hits_mk (.inl ⟨rfl, rfl⟩))
  · rw [h1]
    exact flat_val h.turn hf (by rw [hits_flip]; exact hits_mk (.inr ⟨rfl, rfl⟩))
theorem same_len {ls ks : List (Nat × Nat × Int)} (h : Dist ls) (h' : Dist ks) (e : ls.length ≠ ks.length) : sameD (delaysOf ls) (delaysOf ks) = false := by
  rw [delays_flat h, delays_flat h']
  unfold sameD
  rw [flat_len, flat_len, beq_eq_false_iff_ne.mpr (by omega)]
  rfl
theorem same_other {ls ks : List (Nat × Nat × Int)} (h : Dist ls) (h' : Dist ks) {l k : Nat × Nat × Int} (hl : l ∈ ls) (hk : k ∈ ks) {a b : Nat} (e1 : hits a b l = true) (e2 : hits a b k = true) (e : l.2.2 ≠ k.2.2) : sameD (delaysOf ls) (delaysOf ks) = false := by
  rw [delays_flat h, delays_flat h']
  have v1 := flat_val h hl e1
  have v2 := flat_val h' hk e2
  obtain ⟨p, hp, _, e4⟩ := valV_mem v1
  unfold sameD
  rw [Bool.and_eq_false_iff]
  refine .inr ?_
  rw [List.all_eq_false]
  refine ⟨p, hp, ?_⟩
  rw [e4, v1, v2]
  intro z
  have z := of_decide_eq_true z
  injection z with z
  injection z with z
  exact e z.symm
end My
/-! Paths: what they are, the rows that are found are some; when two are separate. No row of Lean's. -/
namespace My
open PySem PySem.Spec PyProof.Rows L2
structure IsP (N : NetD) (r : List Nat) : Prop where
  two : 2 ≤ r.length
  nd : r.Nodup
  hs : ∀ k, k < r.length → host N (r.getD k 0) = (decide (k = 0) || decide (k + 1 = r.length))
  ad : ∀ k, k + 1 < r.length → adj N (r.getD k 0) (r.getD (k + 1) 0) = true
theorem app_l {r : List Nat} {b k : Nat} (h : k < r.length) : (r ++ [b]).getD k 0 = r.getD k 0 := by
  rw [List.getD_eq_getElem?_getD, List.getElem?_append_left h, ← List.getD_eq_getElem?_getD]
theorem app_r {r : List Nat} {b : Nat} : (r ++ [b]).getD r.length 0 = b := by
  rw [List.getD_eq_getElem?_getD, List.getElem?_append_right (Nat.le_refl _), Nat.sub_self]
  rfl
theorem Row.mids {N : NetD} {a : Nat} {r : List Nat} (h : Row N a r) : r.getD 0 0 = a ∧ (∀ k, 0 < k → k + 1 < r.length → host N (r.getD k 0) = false) ∧ ∀ k, k + 1 < r.length → adj N (r.getD k 0) (r.getD (k + 1) 0) = true := by
  induction h with
  | start => exact ⟨rfl, fun k _ h => by (have : k + 1 < 1 := h); omega, fun k h => by (have : k + 1 < 1 := h); omega⟩
  | @ext r b h1 h2 o hb ih =>
    obtain ⟨i1, i2, i3⟩ := ih
    have hp := h1.pos
    refine ⟨by rw [app_l (by omega)]; exact i1, fun k k0 k1 => ?_, fun k k1 => ?_⟩
    · rw [List.length_append, List.length_singleton] at k1
      rw [app_l (by omega)]
      by_cases e : k + 1 < r.length
      · exact i2 k k0 e
      · have e' : k = r.length - 1 := by omega
        rcases h2 with h2 | h2
        · rw [h2] at e'
          have : k = 0 := e'
          omega
        · unfold lastN at h2
          rw [e']
          exact h2
    · rw [List.length_append, List.length_singleton] at k1
      by_cases e : k + 1 < r.length
      · rw [app_l (by omega), app_l e]
        exact i3 k e
      · have e' : k + 1 = r.length := by omega
        have e2 : k = r.length - 1 := by omega
        rw [app_l (by omega), e', app_r, e2]
        exact (okb_mem o).2
theorem found_is {N : NetD} {t : Nat} {r : List Nat} (h : r ∈ foundOf N t) : IsP N r := by
  obtain ⟨a, ha, hh, hr, h2, _, hl⟩ := (mem_found t r).mp h
  obtain ⟨i1, i2, i3⟩ := hr.mids
  refine ⟨h2, hr.nodup, fun k hk => ?_, i3⟩
  by_cases e0 : k = 0
  · rw [e0, i1, hh]; rfl
  · by_cases e1 : k + 1 = r.length
    · unfold lastN at hl
      have e : k = r.length - 1 := by omega
      rw [e, hl, decide_eq_true (by omega : r.length - 1 + 1 = r.length), Bool.or_true]
    · rw [i2 k (by omega) (by omega), decide_eq_false e0, decide_eq_false e1]; rfl
theorem found_lt {N : NetD} {t : Nat} {r : List Nat} (h : r ∈ foundOf N t) : (∀ x ∈ r, x < N.ks.length) ∧ r.length ≤ t + 1 := by
  obtain ⟨a, ha, hh, hr, h2, h3, hl⟩ := (mem_found t r).mp h
  exact ⟨hr.lt ha, h3⟩
def inner (r : List Nat) : List Nat := (r.drop 1).take (r.length - 1 - 1)
def portsOf (r : List Nat) : List (Nat × Nat) := r.zip (r.drop 1)
theorem mem_inner {r : List Nat} {x : Nat} : x ∈ inner r ↔ ∃ k, 0 < k ∧ k + 1 < r.length ∧ r.getD k 0 = x := by
  unfold inner
  constructor
  · intro h
    obtain ⟨i, e⟩ := List.mem_iff_getElem?.mp h
    rw [List.getElem?_take] at e
    split at e
    · rename_i hi
      rw [List.getElem?_drop] at e
      exact ⟨1 + i, by omega, by omega, by rw [List.getD_eq_getElem?_getD, e]; rfl⟩
    · cases e
  · rintro ⟨k, k0, k1, e⟩
    refine List.mem_iff_getElem?.mpr ⟨k - 1, ?_⟩
    rw [List.getElem?_take, if_pos (by omega), List.getElem?_drop, show 1 + (k - 1) = k by omega, getD_at 0 (by omega), e]
theorem mem_ports {r : List Nat} {p : Nat × Nat} : p ∈ portsOf r ↔ ∃ k, k + 1 < r.length ∧ p = (r.getD k 0, r.getD (k + 1) 0) := by
  unfold portsOf
  constructor
  · intro h
    obtain ⟨i, e⟩ := List.mem_iff_getElem?.mp h
    rw [List.getElem?_zip_eq_some] at e
    obtain ⟨e1, e2⟩ := e
    rw [List.getElem?_drop] at e2
    obtain ⟨h2, _⟩ := List.getElem?_eq_some_iff.mp e2
    refine ⟨i, by omega, ?_⟩
    obtain ⟨p1, p2⟩ := p
    rw [List.getD_eq_getElem?_getD, List.getD_eq_getElem?_getD, e1, Nat.add_comm i 1, e2]
    rfl
  · rintro ⟨k, hk, e⟩
    refine List.mem_iff_getElem?.mpr ⟨k, ?_⟩
    rw [List.getElem?_zip_eq_some, List.getElem?_drop, e, Nat.add_comm 1 k]
    exact ⟨getD_at 0 (by omega), getD_at 0 hk⟩
theorem ports_len (r : List Nat) : (portsOf r).length = r.length - 1 := by
  unfold portsOf
  rw [List.length_zip, List.length_drop]
  omega
theorem ports_at {r : List Nat} {k : Nat} (hk : k + 1 < r.length) : (portsOf r)[k]? = some (r.getD k 0, r.getD (k + 1) 0) := by
  unfold portsOf
  rw [List.getElem?_zip_eq_some, List.getElem?_drop, Nat.add_comm 1 k]
  exact ⟨getD_at 0 (by omega), getD_at 0 hk⟩
theorem getD_in {r : List Nat} {k : Nat} (h : k < r.length) : r.getD k 0 ∈ r := List.mem_iff_getElem?.mpr ⟨k, getD_at 0 h⟩
theorem IsP.in_inner {N : NetD} {r : List Nat} (h : IsP N r) {x : Nat} (hx : x ∈ r) (e : host N x = false) : x ∈ inner r := by
  obtain ⟨k, ek⟩ := List.mem_iff_getElem?.mp hx
  obtain ⟨hk, _⟩ := List.getElem?_eq_some_iff.mp ek
  have ex : r.getD k 0 = x := by rw [List.getD_eq_getElem?_getD, ek]; rfl
  have := h.hs k hk
  rw [ex, e] at this
  have this := this.symm
  rw [Bool.or_eq_false_iff, decide_eq_false_iff_not, decide_eq_false_iff_not] at this
  exact mem_inner.mpr ⟨k, by omega, by omega, ex⟩
theorem IsP.inner_sw {N : NetD} {r : List Nat} (h : IsP N r) {x : Nat} (hx : x ∈ inner r) : x ∈ r ∧ host N x = false := by
  obtain ⟨k, k0, k1, e⟩ := mem_inner.mp hx
  refine ⟨by rw [← e]; exact getD_in (by omega), ?_⟩
  rw [← e, h.hs k (by omega), decide_eq_false (by omega), decide_eq_false (by omega)]
  rfl
/-- a port of a path of more than two nodes has a switch in it -/
theorem IsP.port_sw {N : NetD} {r : List Nat} (h : IsP N r) (h2 : 2 < r.length) {p : Nat × Nat} (hp : p ∈ portsOf r) : (p.1 ∈ r ∧ host N p.1 = false) ∨ (p.2 ∈ r ∧ host N p.2 = false) := by
  obtain ⟨k, hk, rfl⟩ := mem_ports.mp hp
  by_cases e : k = 0
  · refine .inr ⟨getD_in hk, ?_⟩
    show host N (r.getD (k + 1) 0) = false
    rw [h.hs (k + 1) hk, decide_eq_false (by omega), decide_eq_false (by omega)]
    rfl
  · refine .inl ⟨getD_in (by omega), ?_⟩
    show host N (r.getD k 0) = false
    rw [h.hs k (by omega), decide_eq_false (by omega), decide_eq_false (by omega)]
    rfl
theorem port_both {r : List Nat} {p : Nat × Nat} (hp : p ∈ portsOf r) : p.1 ∈ r ∧ p.2 ∈ r := by
  obtain ⟨k, hk, rfl⟩ := mem_ports.mp hp
  exact ⟨getD_in (by omega), getD_in hk⟩
def sepA (r s : List Nat) : Bool := ((inner r).filter fun x => s.contains x).isEmpty && ((portsOf r).filter fun p => (portsOf s).contains p).isEmpty
def sepB (r s : List Nat) : Bool := ((inner r).all fun x => !(inner s).contains x) && (decide (2 < r.length) || decide (2 < s.length))
theorem sep_eq {N : NetD} {r s : List Nat} (hr : IsP N r) (hs : IsP N s) (e0 : r.getD 0 0 = s.getD 0 0) (e1 : lastN r = lastN s) : sepA r s = sepB r s := by
  have hA : sepA r s = true ↔ (∀ x ∈ inner r, x ∉ s) ∧ ∀ p ∈ portsOf r, p ∉ portsOf s := by
    unfold sepA
    rw [Bool.and_eq_true, List.isEmpty_iff, List.isEmpty_iff, List.filter_eq_nil_iff, List.filter_eq_nil_iff]
    simp
  have hB : sepB r s = true ↔ (∀ x ∈ inner r, x ∉ inner s) ∧ (2 < r.length ∨ 2 < s.length) := by
    unfold sepB
    rw [Bool.and_eq_true, List.all_eq_true, Bool.or_eq_true, decide_eq_true_eq, decide_eq_true_eq]
    simp
  rw [Bool.eq_iff_iff, hA, hB]
  constructor
  · rintro ⟨h1, h2⟩
    refine ⟨fun x hx hy => h1 x hx (hs.inner_sw hy).1, ?_⟩
    by_cases q : 2 < r.length ∨ 2 < s.length
    · exact q
    · have r2 : r.length = 2 := by have := hr.two; omega
      have s2 : s.length = 2 := by have := hs.two; omega
      unfold lastN at e1
      rw [r2, s2] at e1
      refine absurd (mem_ports.mpr ⟨0, by omega, ?_⟩) (h2 (r.getD 0 0, r.getD 1 0) (mem_ports.mpr ⟨0, by omega, rfl⟩))
      rw [e0, show r.getD 1 0 = s.getD 1 0 from e1]
  · rintro ⟨h1, h2⟩
    have h3 : ∀ x, x ∈ r → x ∈ s → host N x = false → False := fun x hx hy hh => h1 x (hr.in_inner hx hh) (hs.in_inner hy hh)
    refine ⟨fun x hx hy => h3 x (hr.inner_sw hx).1 hy (hr.inner_sw hx).2, fun p hp hq => ?_⟩
    obtain ⟨p1, p2⟩ := port_both hp
    obtain ⟨q1, q2⟩ := port_both hq
    rcases h2 with h2 | h2
    · rcases hr.port_sw h2 hp with ⟨_, z⟩ | ⟨_, z⟩
      · exact h3 _ p1 q1 z
      · exact h3 _ p2 q2 z
    · rcases hs.port_sw h2 hq with ⟨_, z⟩ | ⟨_, z⟩
      · exact h3 _ p1 q1 z
      · exact h3 _ p2 q2 z
end My
/-! Windows as data, math.lcm as a rule, tests in which the heap grows. No row. -/
namespace My
open PySem PySem.Spec PyProof.Rows L2
theorem or_read2 {t u : TT} {σ : L2.St} {H : Hp} {Q : Bool → Hp → Prop} {a b : Bool} (ht : ∀ Q : Bool → Hp → Prop, (∀ H1, Same H H1 → Q a H1) → t σ H Q) (hu : ∀ H1, Same H H1 → ∀ Q : Bool → Hp → Prop, (∀ H2, Same H1 H2 → Q b H2) → u σ H1 Q) (h : ∀ H1, Same H H1 → Q (a || b) H1) : tOr t u σ H Q := by
  refine ht _ fun H1 s1 => ?_
  cases a with
  | true => exact h H1 s1
  | false => exact hu H1 s1 _ fun H2 s2 => h H2 (s1.trans s2)
theorem and_read2 {t u : TT} {σ : L2.St} {H : Hp} {Q : Bool → Hp → Prop} {a b : Bool} (ht : ∀ Q : Bool → Hp → Prop, (∀ H1, Same H H1 → Q a H1) → t σ H Q) (hu : a = true → ∀ H1, Same H H1 → ∀ Q : Bool → Hp → Prop, (∀ H2, Same H1 H2 → Q b H2) → u σ H1 Q) (h : ∀ H1, Same H H1 → Q (a && b) H1) : tAnd t u σ H Q := by
  refine ht _ fun H1 s1 => ?_
  cases a with
  | true => exact hu rfl H1 s1 _ fun H2 s2 => h H2 (s1.trans s2)
  | false => exact h H1 s1
section
variable {X : Cx}
def rLcm : List V → Hp → VK → Prop := fun vs H Q => ∃ a b : Int, vs = [.int a, .int b] ∧ a.natAbs < 2 ^ 64 ∧ b.natAbs < 2 ^ 64 ∧ Q (.int ((Nat.lcm a.natAbs b.natAbs : Nat) : Int)) H
theorem cr_lcm : CallR X (.builtin "math.lcm") rLcm := by
  intro pins s σ H vs us Q I r h
  obtain ⟨a, b, rfl, ha, hb, q⟩ := h
  obtain ⟨t, u, rfl⟩ := Vals.int2 r
  exact PySem.W.mc_lcm ha hb fun _ => ⟨.int _, H, I.tok _, ⟨_, rfl⟩, q⟩
end
theorem dec_int (a b : Int) : decide (V.int a = V.int b) = decide (a = b) := by
  by_cases h : a = b
  · rw [h]; simp
  · rw [decide_eq_false h, decide_eq_false]
    intro z
    injection z with z
    exact h z
/-- offset, length, period -/
abbrev Win := Int × Int × Int
def winV (w : Win) : List V := [.int w.1, .int w.2.1, .int w.2.2]
abbrev WinsAt (K : PySem.W.Frag) (H : Hp) (ts : List Addr) (ws : List Win) : Prop := Paired (fun (t : Addr) (w : Win) => SqT K H t (winV w)) ts ws
theorem WinsAt.same {K : PySem.W.Frag} {H H' : Hp} {ts : List Addr} {ws : List Win} (h : WinsAt K H ts ws) (e : Same H H') : WinsAt K H' ts ws := Paired.imp h fun _ _ q => same_tup e q
theorem WinsAt.butL {K : PySem.W.Frag} {H H' : Hp} {p : Addr} {ys : List V} {ts : List Addr} {ws : List Win} (h : WinsAt K H ts ws) (hp : H p = some (.lst ys)) (e : But p H H') : WinsAt K H' ts ws := Paired.imp h fun _ _ q => e.tupL hp q
/-- the tick is in a stretch -/
def hasT (w : Win) (x : Int) : Bool := decide (w.1 ≤ x) && decide ((x - w.1) % w.2.2 < w.2.1)
theorem hasT_iff {w : Win} (hp : 0 < w.2.2) (x : Int) : hasT w x = true ↔ ∃ k : Nat, w.1 + k * w.2.2 ≤ x ∧ x < w.1 + k * w.2.2 + w.2.1 := by
  unfold hasT
  rw [Bool.and_eq_true, decide_eq_true_eq, decide_eq_true_eq]
  have hd := Int.emod_add_mul_ediv (x - w.1) w.2.2
  have h0 := Int.emod_nonneg (x - w.1) (show w.2.2 ≠ 0 by omega)
  have h1 := Int.emod_lt_of_pos (x - w.1) hp
  constructor
  · rintro ⟨a, b⟩
    have hk : 0 ≤ (x - w.1) / w.2.2 := Int.ediv_nonneg (by omega) (by omega)
    refine ⟨((x - w.1) / w.2.2).toNat, ?_, ?_⟩
    · rw [Int.toNat_of_nonneg hk, Int.mul_comm]; omega
    · rw [Int.toNat_of_nonneg hk, Int.mul_comm]; omega
  · rintro ⟨k, a, b⟩
    have hk : 0 ≤ (k : Int) * w.2.2 := Int.mul_nonneg (by omega) (by omega)
    refine ⟨by omega, ?_⟩
    have e : (x - w.1) % w.2.2 = (x - w.1 - k * w.2.2) % w.2.2 := by
      rw [Int.sub_mul_emod_self_right]
    rw [e]
    have e1 := Int.emod_add_mul_ediv (x - w.1 - k * w.2.2) w.2.2
    have e2 := Int.mul_nonneg (show 0 ≤ w.2.2 by omega) (Int.ediv_nonneg (show 0 ≤ x - w.1 - k * w.2.2 by omega) (show 0 ≤ w.2.2 by omega))
    omega
/-- just the first 140 stretches are looked at -/
theorem hasT_few {w : Win} (hp : 0 < w.2.2) {x : Int} (hx : x - w.1 < 140) : hasT w x = true ↔ ∃ k : Nat, k < 140 ∧ w.1 + k * w.2.2 ≤ x ∧ x < w.1 + k * w.2.2 + w.2.1 := by
  rw [hasT_iff hp]
  constructor
  · rintro ⟨k, a, b⟩
    refine ⟨k, ?_, a, b⟩
    have : (k : Int) * 1 ≤ (k : Int) * w.2.2 := Int.mul_le_mul_of_nonneg_left (by omega) (by omega)
    omega
  · rintro ⟨k, _, a, b⟩
    exact ⟨k, a, b⟩
/-! ### the common period -/
def lcmW (ws : List Win) : Nat := ws.foldl (fun a w => a.lcm w.2.2.natAbs) 1
theorem lcmW_snoc (ws : List Win) (w : Win) : lcmW (ws ++ [w]) = (lcmW ws).lcm w.2.2.natAbs := by
  unfold lcmW
  rw [List.foldl_append]
  rfl
theorem lcm_foldl_dvd {α : Type} (f : α → Nat) : ∀ (ws : List α) (a m : Nat), ws.foldl (fun a w => a.lcm (f w)) a ∣ m ↔ a ∣ m ∧ ∀ w ∈ ws, f w ∣ m
  | [], a, m => by simp
  | w :: r, a, m => by
    rw [List.foldl_cons, lcm_foldl_dvd f r, Nat.lcm_dvd_iff]
    simp [and_assoc]
theorem lcmW_dvd {ws : List Win} {m : Nat} : lcmW ws ∣ m ↔ ∀ w ∈ ws, w.2.2.natAbs ∣ m := by
  unfold lcmW
  rw [lcm_foldl_dvd]
  simp
theorem dvd_lcmW {ws : List Win} {w : Win} (h : w ∈ ws) : w.2.2.natAbs ∣ lcmW ws := lcmW_dvd.mp (Nat.dvd_refl _) w h
theorem lcmW_pos : ∀ {ws : List Win}, (∀ w ∈ ws, 0 < w.2.2) → 0 < lcmW ws := by
  intro ws
  unfold lcmW
  suffices h : ∀ (ws : List Win) (a : Nat), 0 < a → (∀ w ∈ ws, 0 < w.2.2) → 0 < ws.foldl (fun a w => a.lcm w.2.2.natAbs) a from h ws 1 (by decide)
  intro ws
  induction ws with
  | nil => intro a ha _; exact ha
  | cons w r ih =>
    intro a ha h
    have := h w List.mem_cons_self
    exact ih _ (Nat.lcm_pos ha (by omega)) fun x hx => h x (List.mem_cons_of_mem _ hx)
theorem lcm_le_mul (a b : Nat) : a.lcm b ≤ a * b := PySem.W.mc_lcm_le a b
theorem lcmW_le {m : Nat} (hm : 1 ≤ m) : ∀ {ws : List Win}, (∀ w ∈ ws, w.2.2.natAbs ≤ m) → lcmW ws ≤ m ^ ws.length := by
  intro ws
  unfold lcmW
  suffices h : ∀ (ws : List Win) (a : Nat), (∀ w ∈ ws, w.2.2.natAbs ≤ m) → ws.foldl (fun a w => a.lcm w.2.2.natAbs) a ≤ a * m ^ ws.length by
    intro hw
    have := h ws 1 hw
    omega
  intro ws
  induction ws with
  | nil => intro a _; simp
  | cons w r ih =>
    intro a h
    have h1 := ih (a.lcm w.2.2.natAbs) fun x hx => h x (List.mem_cons_of_mem _ hx)
    have h2 := lcm_le_mul a w.2.2.natAbs
    have h3 := h w List.mem_cons_self
    rw [List.foldl_cons, List.length_cons, Nat.pow_succ]
    calc _ ≤ a.lcm w.2.2.natAbs * m ^ r.length := h1
      _ ≤ (a * m) * m ^ r.length := Nat.mul_le_mul_right _ (Nat.le_trans h2 (Nat.mul_le_mul_left _ h3))
      _ = a * (m ^ r.length * m) := by rw [Nat.mul_assoc, Nat.mul_comm m]
/-- what the drawn windows are like -/
structure WG (w : Win) : Prop where
  p0 : 1 ≤ w.2.2
  p1 : w.2.2 ≤ 60
  l0 : 0 ≤ w.2.1
  l1 : w.2.1 ≤ 100
/-! ### data -/
def dWin (w : Win) : PyData := .tuple [.int w.1, .int w.2.1, .int w.2.2]
def dWins (ws : List Win) : PyData := .list (ws.map dWin)
theorem shp_win (w : Win) : Shp 1 (dWin w) := shp_tuple fun d hd => by
  rcases List.mem_cons.mp hd with e | hd
  · rw [e]; exact shp_int _
  · rcases List.mem_cons.mp hd with e | hd
    · rw [e]; exact shp_int _
    · rw [List.mem_singleton.mp hd]; exact shp_int _
theorem eqv_win (p q : Win) : PyData.eqv (dWin p) (dWin q) = decide (p = q) := by
  obtain ⟨a, b, c⟩ := p
  obtain ⟨d, e, f⟩ := q
  unfold dWin
  rw [PyData.eqv, PyData.eqvAll, PyData.eqvAll, PyData.eqvAll, PyData.eqvAll, eqv_int, eqv_int, eqv_int, beq_dec, beq_dec, beq_dec, Bool.and_true, Bool.eq_iff_iff, Bool.and_eq_true, Bool.and_eq_true, decide_eq_true_eq, decide_eq_true_eq, decide_eq_true_eq, decide_eq_true_eq, Prod.mk.injEq, Prod.mk.injEq]
theorem shp_wins (ws : List Win) : Shp 2 (dWins ws) := shp_list (shp_map shp_win)
theorem eqv_wins (a b : List Win) : PyData.eqv (dWins a) (dWins b) = decide (a = b) := by
  unfold dWins
  rw [PyData.eqv, eqv_map dWin eqv_win]
theorem dp_win {K : PySem.W.Frag} {H : Hp} {t : Addr} {w : Win} (h : SqT K H t (winV w)) : Dp K H (.ref t) (dWin w) := .tup h (.cons (.int _) (.cons (.int _) (.cons (.int _) .nil)))
theorem dp_wins {K : PySem.W.Frag} {H : Hp} {a : Addr} {ts : List Addr} {ws : List Win} (h : SqL K H a (ts.map V.ref)) (hw : WinsAt K H ts ws) : Dp K H (.ref a) (dWins ws) := .lst h (dp_paired dWin (fun _ _ q => dp_win q) hw)
theorem refs_at {ts : List Addr} {i : Nat} {x : V} (h : (ts.map V.ref)[i]? = some x) : ∃ t, ts[i]? = some t ∧ x = .ref t := by
  rw [List.getElem?_map] at h
  cases e : ts[i]? with
  | none => rw [e] at h; cases h
  | some t => rw [e] at h; exact ⟨t, rfl, (Option.some.inj h).symm⟩
theorem bls_any (bs : List Bool) : inV (.bl true) (bs.map V.bl) = bs.any id := by
  unfold inV
  rw [List.any_map]
  congr 1
  funext b
  cases b <;> rfl
theorem bls_flat (bs : List Bool) : (bs.map V.bl).all flatV = true := by
  rw [List.all_map]
  exact List.all_eq_true.mpr fun _ _ => rfl
theorem eqL_self {α : Type} [DecidableEq α] (f : α → PyData) (h : ∀ x y, PyData.eqv (f x) (f y) = decide (x = y)) (x : α) : PyData.eqv (f x) (f x) = true := by rw [h, decide_eq_true rfl]
theorem andv {ta tb : TE} {σ : L2.St} {H : Hp} {Q : V → Hp → Prop} {a b : Bool} (ha : ∀ Q : V → Hp → Prop, Q (.bl a) H → ta σ H Q) (hb : a = true → ∀ Q : V → Hp → Prop, Q (.bl b) H → tb σ H Q) (h : Q (.bl (a && b)) H) : tAndV ta tb σ H Q := by
  refine ha _ ⟨a, rfl, ?_⟩
  cases a with
  | true => exact iteT (hb rfl _ h)
  | false => exact iteF h
theorem orv {ta tb : TE} {σ : L2.St} {H : Hp} {Q : V → Hp → Prop} {a b : Bool} (ha : ∀ Q : V → Hp → Prop, Q (.bl a) H → ta σ H Q) (hb : a = false → ∀ Q : V → Hp → Prop, Q (.bl b) H → tb σ H Q) (h : Q (.bl (a || b)) H) : tOrV ta tb σ H Q := by
  refine ha _ ⟨a, rfl, ?_⟩
  cases a with
  | true => exact iteT h
  | false => exact iteF (hb rfl _ h)
end My
/-! Where two windows meet. No row. -/
namespace My
open PySem PySem.Spec PyProof.Rows L2
theorem emd {a b n : Int} (h : n ∣ a - b) : a % n = b % n := Int.emod_eq_emod_iff_emod_sub_eq_zero.mpr (Int.emod_eq_zero_of_dvd h)
theorem nat_dvd {n : Nat} {z : Int} (h : n ∣ z.natAbs) : (n : Int) ∣ z := Int.natAbs_dvd_natAbs.mp (by simpa using h)
theorem bez (a b : Nat) : ∃ x y : Int, x * a + y * b = (Nat.gcd a b : Int) := by
  induction a, b using Nat.gcd.induction with
  | H0 n => exact ⟨0, 1, by rw [Nat.gcd_zero_left]; omega⟩
  | H1 m n hm ih =>
    obtain ⟨x, y, h⟩ := ih
    refine ⟨y - x * ((n / m : Nat) : Int), x, ?_⟩
    rw [Nat.gcd_rec, ← h]
    have e : (n : Int) = ((n % m : Nat) : Int) + (m : Int) * ((n / m : Nat) : Int) := by
      have := Nat.mod_add_div n m
      exact_mod_cast this.symm
    generalize ((n / m : Nat) : Int) = q at *
    generalize ((n % m : Nat) : Int) = r at *
    rw [e]
    grind
/-- start of a stretch -/
def st (w : Win) (k : Nat) : Int := w.1 + k * w.2.2
/-- a common tick of two stretches -/
def Cm (w v : Win) (k m : Nat) : Prop := max (st w k) (st v m) < min (st w k + w.2.1) (st v m + v.2.1)
theorem cm_iff {w v : Win} {k m : Nat} (hw : 0 ≤ w.2.1) (hv : 0 ≤ v.2.1) : Cm w v k m ↔ 0 < w.2.1 ∧ 0 < v.2.1 ∧ st w k < st v m + v.2.1 ∧ st v m < st w k + w.2.1 := by
  unfold Cm
  generalize st w k = a
  generalize st v m = b
  omega
theorem cm_symm {w v : Win} {k m : Nat} : Cm w v k m ↔ Cm v w m k := by
  unfold Cm
  generalize st w k = a
  generalize st v m = b
  omega
def gcdW (w v : Win) : Int := ((Nat.gcd w.2.2.natAbs v.2.2.natAbs : Nat) : Int)
def meetB (w v : Win) : Bool := !(decide (w.2.1 = 0) || decide (v.2.1 = 0)) && (decide ((v.1 - w.1) % gcdW w v < w.2.1) || decide ((w.1 - v.1) % gcdW w v < v.2.1))
theorem reach {p1 p2 z : Int} (h1 : 0 < p1) (h2 : 0 < p2) (hz : ((Nat.gcd p1.natAbs p2.natAbs : Nat) : Int) ∣ z) : ∃ k m : Nat, (k : Int) * p1 - m * p2 = z := by
  obtain ⟨t, ht⟩ := hz
  obtain ⟨x, y, h⟩ := bez p1.natAbs p2.natAbs
  rw [← h, Int.natAbs_of_nonneg (by omega), Int.natAbs_of_nonneg (by omega)] at ht
  obtain ⟨n, hn⟩ : ∃ n : Nat, n = (x * t).natAbs + (y * t).natAbs := ⟨_, rfl⟩
  have n1 : (n : Int) * 1 ≤ n * p1 := Int.mul_le_mul_of_nonneg_left (by omega) (by omega)
  have n2 : (n : Int) * 1 ≤ n * p2 := Int.mul_le_mul_of_nonneg_left (by omega) (by omega)
  refine ⟨(x * t + n * p2).toNat, (n * p1 - y * t).toNat, ?_⟩
  rw [Int.toNat_of_nonneg (by omega), Int.toNat_of_nonneg (by omega), ht]
  grind
theorem gcd_pos {w v : Win} (hw : 0 < w.2.2) : 0 < gcdW w v := by
  unfold gcdW
  have := Nat.gcd_pos_of_pos_left v.2.2.natAbs (show 0 < w.2.2.natAbs by omega)
  omega
theorem gcd_dvd1 (w v : Win) : gcdW w v ∣ w.2.2 := by
  unfold gcdW
  exact nat_dvd (Nat.gcd_dvd_left _ _)
theorem gcd_dvd2 (w v : Win) : gcdW w v ∣ v.2.2 := by
  unfold gcdW
  exact nat_dvd (Nat.gcd_dvd_right _ _)
theorem gcd_symm (w v : Win) : gcdW w v = gcdW v w := by
  unfold gcdW
  rw [Nat.gcd_comm]
theorem emod_le {a b : Int} (hb : 0 < b) (ha : 0 ≤ a) : a % b ≤ a := by
  have e1 := Int.emod_add_mul_ediv a b
  have e2 := Int.mul_nonneg (show 0 ≤ b by omega) (Int.ediv_nonneg ha (show 0 ≤ b by omega))
  omega
theorem meet_iff {w v : Win} (lw : 0 ≤ w.2.1) (lv : 0 ≤ v.2.1) (pw : 0 < w.2.2) (pv : 0 < v.2.2) : meetB w v = true ↔ ∃ k m, Cm w v k m := by
  have g0 := gcd_pos (v := v) pw
  unfold meetB
  rw [Bool.and_eq_true, Bool.or_eq_true, Bool.not_eq_true', Bool.or_eq_false_iff, decide_eq_false_iff_not, decide_eq_false_iff_not, decide_eq_true_eq, decide_eq_true_eq]
  constructor
  · rintro ⟨⟨n1, n2⟩, h⟩
    rcases h with h | h
    · have hd := Int.emod_add_mul_ediv (v.1 - w.1) (gcdW w v)
      have h0 := Int.emod_nonneg (v.1 - w.1) (show gcdW w v ≠ 0 by omega)
      obtain ⟨k, m, e⟩ := reach pw pv (z := gcdW w v * ((v.1 - w.1) / gcdW w v)) ⟨_, rfl⟩
      refine ⟨k, m, (cm_iff lw lv).mpr ⟨by omega, by omega, ?_, ?_⟩⟩
      · unfold st; omega
      · unfold st; omega
    · have hd := Int.emod_add_mul_ediv (w.1 - v.1) (gcdW w v)
      have h0 := Int.emod_nonneg (w.1 - v.1) (show gcdW w v ≠ 0 by omega)
      obtain ⟨k, m, e⟩ := reach pv pw (z := gcdW w v * ((w.1 - v.1) / gcdW w v)) (by unfold gcdW; rw [Nat.gcd_comm]; exact ⟨_, rfl⟩)
      refine ⟨m, k, (cm_iff lw lv).mpr ⟨by omega, by omega, ?_, ?_⟩⟩
      · unfold st; omega
      · unfold st; omega
  · rintro ⟨k, m, h⟩
    obtain ⟨a1, a2, a3, a4⟩ := (cm_iff lw lv).mp h
    refine ⟨⟨by omega, by omega⟩, ?_⟩
    have d : gcdW w v ∣ (k : Int) * w.2.2 - m * v.2.2 := Int.dvd_sub (Int.dvd_trans (gcd_dvd1 w v) ⟨_, Int.mul_comm _ _⟩) (Int.dvd_trans (gcd_dvd2 w v) ⟨_, Int.mul_comm _ _⟩)
    unfold st at a3 a4
    by_cases c : v.1 + m * v.2.2 - (w.1 + k * w.2.2) ≥ 0
    · left
      have e : (v.1 - w.1) % gcdW w v = (v.1 + m * v.2.2 - (w.1 + k * w.2.2)) % gcdW w v := by
        refine emd ?_
        exact (show (v.1 - w.1) - (v.1 + m * v.2.2 - (w.1 + k * w.2.2)) = (k : Int) * w.2.2 - m * v.2.2 by omega) ▸ d
      rw [e]
      have := emod_le g0 c
      omega
    · right
      have e : (w.1 - v.1) % gcdW w v = (w.1 + k * w.2.2 - (v.1 + m * v.2.2)) % gcdW w v := by
        refine emd ?_
        exact (show (w.1 - v.1) - (w.1 + k * w.2.2 - (v.1 + m * v.2.2)) = -((k : Int) * w.2.2 - m * v.2.2) by omega) ▸ Int.dvd_neg.mpr d
      rw [e]
      have := emod_le g0 (show 0 ≤ w.1 + k * w.2.2 - (v.1 + m * v.2.2) by omega)
      omega
theorem meet_symm {w v : Win} (lw : 0 ≤ w.2.1) (lv : 0 ≤ v.2.1) (pw : 0 < w.2.2) (pv : 0 < v.2.2) : meetB v w = meetB w v := by
  rw [Bool.eq_iff_iff, meet_iff lw lv pw pv, meet_iff lv lw pv pw]
  exact ⟨fun ⟨k, m, h⟩ => ⟨m, k, cm_symm.mp h⟩, fun ⟨k, m, h⟩ => ⟨m, k, cm_symm.mp h⟩⟩
/-! ### quotients, upwards -/
def cdiv (a b : Int) : Int := -(-a / b)
theorem cdiv_le {a b x : Int} (hb : 0 < b) : cdiv a b ≤ x ↔ a ≤ x * b := by
  unfold cdiv
  have : -(-a / b) ≤ x ↔ -x ≤ -a / b := by omega
  rw [this, Int.le_ediv_iff_mul_le hb]
  have : -x * b = -(x * b) := Int.neg_mul _ _
  omega
theorem cdiv_up {a b : Int} (hb : 0 < b) : a ≤ cdiv a b * b := (cdiv_le hb).mp (Int.le_refl _)
theorem cdiv_lt {a b : Int} (hb : 0 < b) : cdiv a b * b < a + b := by
  refine Classical.byContradiction fun h => ?_
  have : cdiv a b ≤ cdiv a b - 1 := (cdiv_le hb).mpr (by
    have : (cdiv a b - 1) * b = cdiv a b * b - b := by rw [Int.sub_mul, Int.one_mul]
    omega)
  omega
/-- the number of the first stretch whose last tick is not before x -/
def nf (w : Win) (x : Int) : Int := if cdiv (x - w.1 - w.2.1 + 1) w.2.2 > 0 then cdiv (x - w.1 - w.2.1 + 1) w.2.2 else 0
theorem nf_le {w : Win} (hp : 0 < w.2.2) {x : Int} {k : Nat} : nf w x ≤ k ↔ x ≤ st w k + w.2.1 - 1 := by
  have := cdiv_le (a := x - w.1 - w.2.1 + 1) (x := (k : Int)) hp
  unfold nf st
  split <;> omega
theorem nf_nn (w : Win) (x : Int) : 0 ≤ nf w x := by
  unfold nf
  split <;> omega
/-! ### the least factor -/
def Sol (s c lo hi x : Int) : Prop := 0 ≤ x ∧ lo ≤ x * s % c ∧ x * s % c ≤ hi
def Least (s c lo hi x : Int) : Prop := Sol s c lo hi x ∧ ∀ y, Sol s c lo hi y → x ≤ y
structure LG (s c lo hi : Int) : Prop where
  s0 : 0 < s
  sc : s < c
  l0 : 1 ≤ lo
  lh : lo ≤ hi
  hc : hi < c
  ex : ∃ x, Sol s c lo hi x
theorem least_base {s c lo hi : Int} (G : LG s c lo hi) (h : cdiv lo s * s ≤ hi) : Least s c lo hi (cdiv lo s) := by
  have u := cdiv_up (a := lo) G.s0
  have h0 := G.l0
  have hc := G.hc
  have s0 := G.s0
  have x0 : 0 ≤ cdiv lo s := by
    refine Classical.byContradiction fun n => ?_
    have : cdiv lo s * s ≤ 0 * s := Int.mul_le_mul_of_nonneg_right (by omega) (by omega)
    omega
  refine ⟨⟨x0, ?_, ?_⟩, fun y ⟨y0, y1, y2⟩ => ?_⟩
  · rw [Int.emod_eq_of_lt (by omega) (by omega)]; exact u
  · rw [Int.emod_eq_of_lt (by omega) (by omega)]; exact h
  · refine (cdiv_le s0).mpr ?_
    have := emod_le (a := y * s) (b := c) (by omega) (Int.mul_nonneg y0 (by omega))
    omega
theorem red_nums {s lo hi : Int} (s0 : 0 < s) (lh : lo ≤ hi) (h : ¬ cdiv lo s * s ≤ hi) : (-lo) % s = cdiv lo s * s - lo ∧ (-hi) % s = cdiv lo s * s - hi := by
  have u := cdiv_up (a := lo) s0
  have l := cdiv_lt (a := lo) s0
  constructor
  · have e : (-lo) % s = (cdiv lo s * s - lo) % s := emd ⟨-cdiv lo s, by rw [Int.mul_neg, Int.mul_comm s]; omega⟩
    rw [e, Int.emod_eq_of_lt (by omega) (by omega)]
  · have e : (-hi) % s = (cdiv lo s * s - hi) % s := emd ⟨-cdiv lo s, by rw [Int.mul_neg, Int.mul_comm s]; omega⟩
    rw [e, Int.emod_eq_of_lt (by omega) (by omega)]
theorem mod_swap {y c s : Int} : y * (c % s) % s = (y * c) % s := by
  rw [Int.mul_emod, Int.emod_emod_of_dvd _ (Int.dvd_refl s), ← Int.mul_emod]
theorem red_sol {s c lo hi x : Int} (s0 : 0 < s) (c0 : 0 < c) (lh : lo ≤ hi) (h : ¬ cdiv lo s * s ≤ hi) (hx : Sol s c lo hi x) : Sol (c % s) s ((-hi) % s) ((-lo) % s) (x * s / c) ∧ cdiv (lo + x * s / c * c) s ≤ x := by
  obtain ⟨x0, x1, x2⟩ := hx
  obtain ⟨e1, e2⟩ := red_nums s0 lh h
  have hd := Int.emod_add_mul_ediv (x * s) c
  have hq : 0 ≤ x * s / c := Int.ediv_nonneg (Int.mul_nonneg x0 (by omega)) (by omega)
  have u := cdiv_up (a := lo) s0
  have l := cdiv_lt (a := lo) s0
  rw [Int.mul_comm c] at hd
  refine ⟨⟨hq, ?_⟩, (cdiv_le s0).mpr (by omega)⟩
  have e : (x * s / c * c) % s = (cdiv lo s * s - x * s % c) % s := by
    refine emd ⟨x - cdiv lo s, ?_⟩
    have : s * (x - cdiv lo s) = x * s - cdiv lo s * s := by rw [Int.mul_sub, Int.mul_comm s x, Int.mul_comm s]
    omega
  rw [mod_swap, e, e1, e2, Int.emod_eq_of_lt (by omega) (by omega)]
  omega
theorem least_red {s c lo hi : Int} (G : LG s c lo hi) (h : ¬ cdiv lo s * s ≤ hi) : LG (c % s) s ((-hi) % s) ((-lo) % s) ∧ ∀ y, Least (c % s) s ((-hi) % s) ((-lo) % s) y → Least s c lo hi (cdiv (lo + y * c) s) := by
  obtain ⟨s0, sc, l0, lh, hc, x, hx⟩ := G
  have c0 : 0 < c := by omega
  obtain ⟨e1, e2⟩ := red_nums s0 lh h
  have u := cdiv_up (a := lo) s0
  have l := cdiv_lt (a := lo) s0
  have r := red_sol s0 c0 lh h hx
  refine ⟨⟨?_, Int.emod_lt_of_pos _ s0, by omega, by omega, by omega, _, r.1⟩, fun y ⟨⟨y0, y1, y2⟩, yl⟩ => ?_⟩
  · have m0 := Int.emod_nonneg c (show s ≠ 0 by omega)
    rcases Int.lt_or_eq_of_le m0 with z | z
    · exact z
    · have := r.1.2.1
      rw [← z, Int.mul_zero, Int.zero_emod, e2] at this
      omega
  · rw [mod_swap, e1] at y2
    rw [mod_swap, e2] at y1
    have U := cdiv_up (a := lo + y * c) s0
    have L := cdiv_lt (a := lo + y * c) s0
    have d : (y * c) % s = (cdiv lo s * s - (cdiv (lo + y * c) s * s - y * c)) % s := by
      refine emd ⟨cdiv (lo + y * c) s - cdiv lo s, ?_⟩
      have : s * (cdiv (lo + y * c) s - cdiv lo s) = cdiv (lo + y * c) s * s - cdiv lo s * s := by rw [Int.mul_sub, Int.mul_comm s, Int.mul_comm s]
      omega
    have yc0 : 0 ≤ y * c := Int.mul_nonneg y0 (by omega)
    have val : cdiv (lo + y * c) s * s - y * c = cdiv lo s * s - (y * c) % s := by
      have k0 := Int.emod_nonneg (y * c) (show s ≠ 0 by omega)
      have k1 := Int.emod_lt_of_pos (y * c) s0
      have hd := Int.emod_add_mul_ediv (cdiv lo s * s - (cdiv (lo + y * c) s * s - y * c)) s
      rw [← d] at hd
      generalize (cdiv lo s * s - (cdiv (lo + y * c) s * s - y * c)) / s = q at hd
      have q0 : q = 0 := by
        refine Classical.byContradiction fun n => ?_
        rcases Int.lt_or_gt_of_ne n with z | z
        · have : s * q ≤ s * (-1) := Int.mul_le_mul_of_nonneg_left (by omega) (by omega)
          omega
        · have : s * 1 ≤ s * q := Int.mul_le_mul_of_nonneg_left (by omega) (by omega)
          omega
      rw [q0, Int.mul_zero] at hd
      omega
    have em : cdiv (lo + y * c) s * s % c = cdiv lo s * s - (y * c) % s := by
      have : cdiv (lo + y * c) s * s % c = (cdiv lo s * s - (y * c) % s) % c := by
        refine emd ⟨y, ?_⟩
        rw [Int.mul_comm c]
        omega
      rw [this, Int.emod_eq_of_lt (by omega) (by omega)]
    refine ⟨⟨?_, by omega, by omega⟩, fun z hz => ?_⟩
    · refine Classical.byContradiction fun n => ?_
      have : cdiv (lo + y * c) s * s ≤ 0 * s := Int.mul_le_mul_of_nonneg_right (by omega) (by omega)
      omega
    · have rz := red_sol s0 c0 lh h hz
      have le := yl _ rz.1
      have : y * c ≤ z * s / c * c := Int.mul_le_mul_of_nonneg_right le (by omega)
      have := (cdiv_le (a := lo + z * s / c * c) s0).mp rz.2
      exact (cdiv_le s0).mpr (by omega)
end My
/-! The first meeting of two windows. No row. -/
namespace My
open PySem PySem.Spec PyProof.Rows L2
/-- windows that a script draws -/
structure WP (w : Win) : Prop where
  l : 0 ≤ w.2.1
  p : 0 < w.2.2
def FM (w v : Win) : Option (Nat × Nat) → Prop
  | none => ¬ ∃ k m, Cm w v k m
  | some (k, m) => Cm w v k m ∧ (∀ k' m', Cm w v k' m' → k ≤ k') ∧ ∀ m', Cm w v k m' → m ≤ m'
theorem FM.one {w v : Win} {a b : Option (Nat × Nat)} (h : FM w v a) (h' : FM w v b) : a = b := by
  match a, b, h, h' with
  | none, none, _, _ => rfl
  | none, some (k, m), h, h' => exact absurd ⟨k, m, h'.1⟩ h
  | some (k, m), none, h, h' => exact absurd ⟨k, m, h.1⟩ h'
  | some (k, m), some (k', m'), h, h' =>
    obtain ⟨a1, a2, a3⟩ := h
    obtain ⟨b1, b2, b3⟩ := h'
    have e : k = k' := by
      have := a2 _ _ b1
      have := b2 _ _ a1
      omega
    subst e
    have := a3 _ b1
    have := b3 _ a1
    have e : m = m' := by omega
    rw [e]
theorem FM.meets {w v : Win} {o : Option (Nat × Nat)} (h : FM w v o) : (∃ k m, Cm w v k m) ↔ o ≠ none := by
  match o, h with
  | none, h => exact ⟨fun z => absurd z h, fun z => absurd rfl z⟩
  | some (k, m), h => exact ⟨fun _ z => (by cases z), fun _ => ⟨k, m, h.1⟩⟩
def rowR (w v : Win) (k : Nat) : Int := st w k + w.2.1 - 1 - v.1
theorem st_add (w : Win) (a b : Nat) : st w (a + b) = st w a + b * w.2.2 := by
  unfold st
  rw [Int.natCast_add, Int.add_mul]
  omega
theorem st_mono {w : Win} (hp : 0 < w.2.2) {a b : Nat} (h : a ≤ b) : st w a ≤ st w b := by
  unfold st
  have : (a : Int) * w.2.2 ≤ (b : Int) * w.2.2 := Int.mul_le_mul_of_nonneg_right (by omega) (by omega)
  omega
/-- the first stretch of v that is not behind -/
def mth (w v : Win) (k : Nat) : Nat := (nf v (st w k)).toNat
theorem mth_cast (w v : Win) (k : Nat) : ((mth w v k : Nat) : Int) = nf v (st w k) := Int.toNat_of_nonneg (nf_nn _ _)
theorem mth_le {w v : Win} (hw : WP w) (hv : WP v) {k m : Nat} (h : Cm w v k m) : mth w v k ≤ m := by
  obtain ⟨a1, a2, a3, a4⟩ := (cm_iff hw.l hv.l).mp h
  have := (nf_le hv.p (x := st w k) (k := m)).mpr (by omega)
  have := mth_cast w v k
  omega
theorem mth_cm {w v : Win} (hw : WP w) (hv : WP v) {k m : Nat} (h : Cm w v k m) : Cm w v k (mth w v k) := by
  have le := mth_le hw hv h
  obtain ⟨a1, a2, a3, a4⟩ := (cm_iff hw.l hv.l).mp h
  have up := (nf_le hv.p (x := st w k) (k := mth w v k)).mp (by rw [mth_cast]; exact Int.le_refl _)
  have mo := st_mono hv.p le
  exact (cm_iff hw.l hv.l).mpr ⟨a1, a2, by omega, by omega⟩
theorem row_iff {w v : Win} (hw : WP w) (hv : WP v) (l1 : 0 < w.2.1) (l2 : 0 < v.2.1) (k : Nat) : (∃ m, Cm w v k m) ↔ 0 ≤ rowR w v k ∧ rowR w v k % v.2.2 < w.2.1 + v.2.1 - 1 := by
  have pv := hv.p
  constructor
  · rintro ⟨m, h⟩
    obtain ⟨a1, a2, a3, a4⟩ := (cm_iff hw.l hv.l).mp h
    have m0 : 0 ≤ (m : Int) * v.2.2 := Int.mul_nonneg (by omega) (by omega)
    have e : rowR w v k % v.2.2 = (rowR w v k - m * v.2.2) % v.2.2 := emd ⟨m, by rw [Int.mul_comm v.2.2]; omega⟩
    have s : st v m = v.1 + m * v.2.2 := rfl
    have := emod_le (a := rowR w v k - m * v.2.2) pv (by unfold rowR; omega)
    refine ⟨by unfold rowR; omega, ?_⟩
    rw [e]
    unfold rowR at *
    omega
  · rintro ⟨h0, h1⟩
    have hd := Int.emod_add_mul_ediv (rowR w v k) v.2.2
    have hq : 0 ≤ rowR w v k / v.2.2 := Int.ediv_nonneg h0 (by omega)
    have e0 := Int.emod_nonneg (rowR w v k) (show v.2.2 ≠ 0 by omega)
    refine ⟨(rowR w v k / v.2.2).toNat, (cm_iff hw.l hv.l).mpr ⟨l1, l2, ?_, ?_⟩⟩
    · unfold st
      rw [Int.toNat_of_nonneg hq, Int.mul_comm _ v.2.2]
      unfold rowR st at *
      omega
    · unfold st
      rw [Int.toNat_of_nonneg hq, Int.mul_comm _ v.2.2]
      unfold rowR st at *
      omega
/-- the least count of steps to the first places of a circle -/
def CS (start step circle wide c : Int) : Prop := 0 ≤ c ∧ (start + c * step) % circle < wide ∧ ∀ c', 0 ≤ c' → (start + c' * step) % circle < wide → c ≤ c'
theorem cs_zero {start step circle wide : Int} (h : start % circle < wide) : CS start step circle wide 0 := ⟨Int.le_refl _, by rw [Int.zero_mul, Int.add_zero]; exact h, fun c' h _ => h⟩
theorem cs_sol {start step circle wide : Int} (c0 : 0 < circle) (hw : wide ≤ start % circle) (w1 : 1 ≤ wide) (x : Int) (x0 : 0 ≤ x) : (start + x * step) % circle < wide ↔ Sol (step % circle) circle (circle - start % circle) (circle - start % circle + wide - 1) x := by
  have p0 := Int.emod_nonneg start (show circle ≠ 0 by omega)
  have p1 := Int.emod_lt_of_pos start c0
  have q0 := Int.emod_nonneg (x * step) (show circle ≠ 0 by omega)
  have q1 := Int.emod_lt_of_pos (x * step) c0
  have e : (start + x * step) % circle = (start % circle + x * step % circle) % circle := Int.add_emod _ _ _
  have e2 : x * (step % circle) % circle = x * step % circle := mod_swap
  unfold Sol
  rw [e, e2]
  by_cases h : start % circle + x * step % circle < circle
  · rw [Int.emod_eq_of_lt (by omega) h]
    omega
  · have : (start % circle + x * step % circle) % circle = (start % circle + x * step % circle - circle) % circle := emd ⟨1, by omega⟩
    rw [this, Int.emod_eq_of_lt (by omega) (by omega)]
    omega
theorem cs_lg {start step circle wide : Int} (c0 : 0 < circle) (hw : wide ≤ start % circle) (w1 : 1 ≤ wide) (ex : ∃ c, 0 ≤ c ∧ (start + c * step) % circle < wide) : LG (step % circle) circle (circle - start % circle) (circle - start % circle + wide - 1) := by
  have p0 := Int.emod_nonneg start (show circle ≠ 0 by omega)
  have p1 := Int.emod_lt_of_pos start c0
  obtain ⟨x, x0, hx⟩ := ex
  have hs := (cs_sol c0 hw w1 x x0).mp hx
  refine ⟨?_, Int.emod_lt_of_pos _ c0, by omega, by omega, by omega, x, hs⟩
  have m0 := Int.emod_nonneg step (show circle ≠ 0 by omega)
  rcases Int.lt_or_eq_of_le m0 with z | z
  · exact z
  · have := hs.2.1
    rw [← z, Int.mul_zero, Int.zero_emod] at this
    omega
theorem cs_least {start step circle wide x : Int} (c0 : 0 < circle) (hw : wide ≤ start % circle) (w1 : 1 ≤ wide) (h : Least (step % circle) circle (circle - start % circle) (circle - start % circle + wide - 1) x) : CS start step circle wide x := by
  obtain ⟨h, l⟩ := h
  exact ⟨h.1, (cs_sol c0 hw w1 x h.1).mpr h, fun y y0 hy => l y ((cs_sol c0 hw w1 y y0).mp hy)⟩
theorem row_add (w v : Win) (a b : Nat) : rowR w v (a + b) = rowR w v a + b * w.2.2 := by
  unfold rowR
  rw [st_add]
  omega
theorem row_nn {w v : Win} (hp : 0 < w.2.2) {k : Nat} : nf w v.1 ≤ k ↔ 0 ≤ rowR w v k := by
  rw [nf_le hp]
  unfold rowR
  omega
/-- the steps to the first meeting can be counted -/
theorem fm_ex {w v : Win} (hw : WP w) (hv : WP v) (h : ∃ k m, Cm w v k m) {s : Nat} (hs : (s : Int) = nf w v.1) : ∃ c, 0 ≤ c ∧ (rowR w v s + c * w.2.2) % v.2.2 < w.2.1 + v.2.1 - 1 := by
  obtain ⟨k, m, h⟩ := h
  obtain ⟨a1, a2, _⟩ := (cm_iff hw.l hv.l).mp h
  obtain ⟨r0, r1⟩ := (row_iff hw hv a1 a2 k).mp ⟨m, h⟩
  have := (row_nn hw.p).mpr r0
  obtain ⟨c, rfl⟩ : ∃ c, k = s + c := ⟨k - s, by omega⟩
  exact ⟨c, by omega, by rw [← row_add]; exact r1⟩
theorem fm_some {w v : Win} (hw : WP w) (hv : WP v) (l1 : 0 < w.2.1) (l2 : 0 < v.2.1) {s c : Nat} (hs : (s : Int) = nf w v.1) (hc : CS (rowR w v s) w.2.2 v.2.2 (w.2.1 + v.2.1 - 1) c) : FM w v (some (s + c, mth w v (s + c))) := by
  obtain ⟨c0, c1, c2⟩ := hc
  have r0 : 0 ≤ rowR w v s := (row_nn hw.p).mp (by omega)
  have cp : 0 ≤ (c : Int) * w.2.2 := Int.mul_nonneg (by omega) (by have := hw.p; omega)
  obtain ⟨m, hm⟩ := (row_iff hw hv l1 l2 (s + c)).mpr ⟨by rw [row_add]; omega, by rw [row_add]; exact c1⟩
  refine ⟨mth_cm hw hv hm, fun k' m' h => ?_, fun m' h => mth_le hw hv h⟩
  obtain ⟨b0, b1⟩ := (row_iff hw hv l1 l2 k').mp ⟨m', h⟩
  have := (row_nn hw.p).mpr b0
  obtain ⟨d, rfl⟩ : ∃ d, k' = s + d := ⟨k' - s, by omega⟩
  rw [row_add] at b1
  have := c2 d (by omega) b1
  omega
/-- if they meet at all, then soon -/
theorem fm_soon {w v : Win} (hw : WP w) (hv : WP v) (h6 : v.2.2 ≤ 60) (h : ∃ k m, Cm w v k m) {b : Nat} (hb : (v.1 - w.1) / w.2.2 ≤ b) : ∃ k m, k < b + 70 ∧ Cm w v k m := by
  obtain ⟨k, m, h⟩ := h
  obtain ⟨a1, a2, _⟩ := (cm_iff hw.l hv.l).mp h
  obtain ⟨r0, r1⟩ := (row_iff hw hv a1 a2 k).mp ⟨m, h⟩
  have hk := (row_nn hw.p).mpr r0
  obtain ⟨s, hs⟩ : ∃ s : Nat, (s : Int) = nf w v.1 := ⟨(nf w v.1).toNat, Int.toNat_of_nonneg (nf_nn _ _)⟩
  have hsb : nf w v.1 ≤ ((b + 1 : Nat) : Int) := by
    rw [nf_le hw.p]
    have hp := hw.p
    have hd := Int.emod_add_mul_ediv (v.1 - w.1) w.2.2
    have hl := Int.emod_lt_of_pos (v.1 - w.1) hp
    have : w.2.2 * ((v.1 - w.1) / w.2.2) ≤ w.2.2 * b := Int.mul_le_mul_of_nonneg_left hb (by omega)
    unfold st
    rw [show (((b + 1 : Nat) : Int)) * w.2.2 = w.2.2 * b + w.2.2 by rw [Int.natCast_add, Int.add_mul, Int.mul_comm w.2.2]; simp]
    omega
  obtain ⟨c, rfl⟩ : ∃ c, k = s + c := ⟨k - s, by omega⟩
  have pv := hv.p
  obtain ⟨p, hp⟩ : ∃ p : Nat, v.2.2 = (p : Int) := ⟨v.2.2.toNat, (Int.toNat_of_nonneg (by omega)).symm⟩
  have e : rowR w v (s + c) % v.2.2 = rowR w v (s + c % p) % v.2.2 := by
    refine emd ⟨((c / p : Nat) : Int) * w.2.2, ?_⟩
    rw [row_add, row_add, hp]
    have : (c : Int) = ((c % p : Nat) : Int) + (p : Int) * ((c / p : Nat) : Int) := by
      have := Nat.mod_add_div c p
      exact_mod_cast this.symm
    generalize ((c / p : Nat) : Int) = q at *
    generalize ((c % p : Nat) : Int) = r at *
    rw [this]
    grind
  have lt : c % p < p := Nat.mod_lt _ (by omega)
  obtain ⟨m', hm⟩ := (row_iff hw hv a1 a2 (s + c % p)).mpr ⟨(row_nn hw.p).mp (by omega), by rw [← e]; exact r1⟩
  exact ⟨s + c % p, m', by omega, hm⟩
end My
namespace My
open PySem PySem.Spec PyProof.Rows L2
def top (i : Nat) : Stmt := PySem.Challenge.pw_metronet_k16_whole_streams_that_come_and.main.body.getD i (.Pass ⟨0, 0, 0, 0⟩)
abbrev sDraw : Stmt := top 28 /-_law_draw-/
abbrev sCell : Stmt := top 29 /-_law_cell-/
/-- the built-in names that the module leaves -/
structure Blt (mg : Str → Option Value) : Prop where
  range : mg "range" = none
  len : mg "len" = none
  int : mg "int" = none
  list : mg "list" = none
  enum : mg "enumerate" = none
section
variable {P : Program} {w : World} {K : PySem.W.Frag} {mg : Str → Option Value} {base : Heap}
/-! ### _law_draw -/
theorem scDraw : FnScope ["cell", "many", "bound", "numbers", "k", "seed", "mixed"] ["cell", "many", "bound"] (defScope sDraw) := ⟨rfl, rfl, rfl, by decide +kernel, rfl, by decide +kernel, by decide +kernel⟩
def spDraw : Sp := fun vs H Q _ => ∃ (c b : Int) (m : Nat), vs = [.int c, .int (m : Int), .int b] ∧ m ≤ 1000 ∧ 0 < b ∧ b < 2 ^ 64 ∧
  ∀ (H' : Hp) (p : Addr) (ns : List Int), Same H H' → H p = none → H' p = some (.lst (ns.map V.int)) → ns.length = m → (∀ x ∈ ns, 0 ≤ x ∧ x < b) → Q (.ref p) H'
theorem ok_draw {f : Addr} {fd : FuncData} {k : Nat} (F : Fun K "_law_draw" "_law_draw" sDraw f fd) (T : Blt mg) : FnOk P w K mg base CX0 (k + 1) f fd ["cell", "many", "bound"] spDraw := by
  refine F.ok scDraw (fun vs H Q E h => ?_) (fun cdv A outer s H vs Q E hr h => ?_)
  · obtain ⟨c, b, m, rfl, _⟩ := h
    rfl
  · obtain ⟨c, b, m, rfl, hm, hb0, hb1, q⟩ := h
    have nd := scDraw.nd
    refine ⟨_, pss_cons (ps_set (i := 3) nd rfl (.inl rfl) (pe_lst pa_nil))
      (pss_cons (ps_if (pt_cmpR op_ge (pv 0) (pe_op op_pow pe_int pe_int) (nomark _))
        (pss_cons (ps_for PassesOwn.never rfl (pi_range1 (by rfl) T.range (pa_cons (pv 1) pa_nil)) (pg_name (i := 4) nd rfl (.inl rfl))
          (pss_cons (ps_expr (pe_bm PySem.F.plainAttrs_list PySem.F.slot_list_append PySem.F.type_list_append mt_append (pv 3)
              (pa_cons (pe_op op_mod (pe_callTy call_int1 (by rfl) T.int (by decide +kernel) (pa_cons (pv 0) pa_nil)) (pv 2)) pa_nil)))
          (pss_one (ps_set (i := 0) nd rfl (.inl rfl) (pe_op op_fdivW (pv 0) (pv 2))))))
        (pss_one (ps_ret (pv 3)))) pss_nil)
      (pss_cons (ps_set (i := 5) nd rfl (.inl rfl) (pe_op op_mod (pe_callTy call_int1 (by rfl) T.int (by decide +kernel) (pa_cons (pv 0) pa_nil)) pe_int))
      (pss_cons (ps_for PassesOwn.never rfl (pi_range1 (by rfl) T.range (pa_cons (pv 1) pa_nil)) (pg_name (i := 4) nd rfl (.inl rfl))
          (pss_cons (ps_set (i := 5) nd rfl (.inl rfl) (pe_op op_mod (pe_callTy call_int1 (by rfl) T.int (by decide +kernel)
              (pa_cons (pe_op op_add (pe_op op_add (pe_op op_mul (pv 5) pe_int) pe_int) (pv 4)) pa_nil)) pe_int))
          (pss_cons (ps_set (i := 6) nd rfl (.inl rfl) (pe_op op_mod (pe_callTy call_int1 (by rfl) T.int (by decide +kernel)
              (pa_cons (pe_op op_add (pe_op op_mul (pv 5) pe_int) (pe_op op_mul pe_int (pv 4))) pa_nil)) pe_int))
          (pss_one (ps_expr (pe_bm PySem.F.plainAttrs_list PySem.F.slot_list_append PySem.F.type_list_append mt_append (pv 3)
              (pa_cons (pe_op op_mod (pe_callTy call_int1 (by rfl) T.int (by decide +kernel) (pa_cons (pe_op op_fdiv (pv 6) pe_int) pa_nil)) (pv 2)) pa_nil)))))))
      (pss_one (ps_ret (pv 3)))))), ?_⟩
    -- numbers = []
    refine ⟨Nat.zero_le _, fun p np => ?_⟩
    have s1 : Same H (upd H p (.lst [])) := same_new np
    -- cell >= 10 ** 18
    refine ⟨_, rfl, _, _, rfl, rfl, ⟨by decide, by decide, by decide⟩, _, _, rfl, rfl, _, rfl, ite2 (fun _ => ?_) (fun _ => ?_)⟩
    · refine ⟨_, rfl, (m : Int), rfl, by omega, by omega, for_range (n := m) (fun i σ H' => ∃ (c' : Int) (ns : List Int) (v4 v5 v6 : Option V), σ = [some (.int c'), some (.int m), some (.int b), some (.ref p), v4, v5, v6] ∧
        Same H H' ∧ H' p = some (.lst (ns.map V.int)) ∧ ns.length = i ∧ ∀ x ∈ ns, 0 ≤ x ∧ x < b) ⟨c, [], none, none, none, rfl, s1, upd_same, rfl, fun x hx => by cases hx⟩ ?_ ?_⟩
      · rintro i σ H' hi ⟨c', ns, v4, v5, v6, rfl, sm, hp, hl, hx⟩
        refine ⟨_, rfl, .inl ⟨rfl, _, SqL.of hp⟩, _, rfl, .inl ⟨_, rfl, _, rfl, _, _, rfl, rfl, hb0, ?_⟩⟩
        refine ⟨p, _, _, rfl, rfl, hp, by rw [List.length_map]; exact small1000 (by omega), ?_⟩
        refine ⟨_, rfl, _, rfl, _, _, rfl, rfl, wide_div (b := 64) hb0 (by omega) (by decide) (by decide), ?_⟩
        refine ⟨c' / b, ns ++ [c' % b], _, v5, v6, rfl, same_mut sm np, ?_, by rw [List.length_append, hl]; rfl, ?_⟩
        · rw [upd_same, List.map_append]; rfl
        · intro x hm
          rcases List.mem_append.mp hm with h1 | h1
          · exact hx x h1
          · rw [List.mem_singleton.mp h1]
            exact ⟨Int.emod_nonneg _ (by omega), Int.emod_lt_of_pos _ hb0⟩
      · rintro σ H' ⟨c', ns, v4, v5, v6, rfl, sm, hp, hl, hx⟩
        exact ⟨_, rfl, q H' p ns sm np hp hl hx⟩
    · refine ⟨_, rfl, .inl ⟨_, rfl, _, _, rfl, rfl, (by show (0 : Int) < 2147483647; decide), ?_⟩⟩
      refine ⟨_, rfl, (m : Int), rfl, by omega, by omega, for_range (n := m) (fun i σ H' => ∃ (c' sd : Int) (ns : List Int) (v4 v6 : Option V), σ = [some (.int c'), some (.int m), some (.int b), some (.ref p), v4, some (.int sd), v6] ∧
        0 ≤ sd ∧ sd < 2147483647 ∧ Same H H' ∧ H' p = some (.lst (ns.map V.int)) ∧ ns.length = i ∧ ∀ x ∈ ns, 0 ≤ x ∧ x < b)
        ⟨c, c % 2147483647, [], none, none, rfl, Int.emod_nonneg _ (by decide), Int.emod_lt_of_pos _ (by decide), s1, upd_same, rfl, fun x hx => by cases hx⟩ ?_ ?_⟩
      · rintro i σ H' hi ⟨c', sd, ns, v4, v6, rfl, d0, d1, sm, hp, hl, hx⟩
        refine ⟨_, rfl, _, _, rfl, rfl, .inl ⟨by omega, by omega⟩, _, _, rfl, rfl, _, rfl, _, _, rfl, rfl, .inl ⟨_, rfl, _, _, rfl, rfl, (by show (0 : Int) < 2147483647; decide), ?_⟩⟩
        have e0 : 0 ≤ (sd * 48271 + 12345 + (0 + (i : Int))) % 2147483647 := Int.emod_nonneg _ (by decide)
        have e1 : (sd * 48271 + 12345 + (0 + (i : Int))) % 2147483647 < 2147483647 := Int.emod_lt_of_pos _ (by decide)
        refine ⟨_, rfl, _, _, rfl, rfl, .inl ⟨by omega, by omega⟩, _, rfl, _, _, rfl, rfl, .inl ⟨by decide, by decide⟩, _, _, rfl, rfl, .inl ⟨_, rfl, _, _, rfl, rfl, (by show (0 : Int) < 2147483629; decide), ?_⟩⟩
        refine ⟨_, rfl, .inl ⟨rfl, _, SqL.of hp⟩, _, rfl, _, _, rfl, rfl, ⟨by decide, by decide⟩, .inl ⟨_, rfl, _, rfl, _, _, rfl, rfl, hb0, ?_⟩⟩
        refine ⟨p, _, _, rfl, rfl, hp, by rw [List.length_map]; exact small1000 (by omega), ?_⟩
        refine ⟨c', _, ns ++ [((sd * 48271 + 12345 + (0 + (i : Int))) % 2147483647 * 69621 + 977 * (0 + (i : Int))) % 2147483629 / 3 % b], _, _, rfl, e0, e1, same_mut sm np, ?_, by rw [List.length_append, hl]; rfl, ?_⟩
        · rw [upd_same, List.map_append]; rfl
        · intro x hm
          rcases List.mem_append.mp hm with h1 | h1
          · exact hx x h1
          · rw [List.mem_singleton.mp h1]
            exact ⟨Int.emod_nonneg _ (by omega), Int.emod_lt_of_pos _ hb0⟩
      · rintro σ H' ⟨c', sd, ns, v4, v6, rfl, d0, d1, sm, hp, hl, hx⟩
        exact ⟨_, rfl, q H' p ns sm np hp hl hx⟩
/-! ### _law_cell -/
theorem scCell : FnScope ["script", "k"] ["script", "k"] (defScope sCell) := ⟨rfl, rfl, rfl, by decide +kernel, rfl, by decide +kernel, by decide +kernel⟩
def spCell (K : PySem.W.Frag) : Sp := fun vs H Q _ => ∃ (a : Addr) (ns : List Int) (j : Nat), vs = [.ref a, .int (j : Int)] ∧ SqL K H a (ns.map V.int) ∧ Q (.int (ns.getD j 0)) H
theorem ok_cell {f : Addr} {fd : FuncData} {k : Nat} (F : Fun K "_law_cell" "_law_cell" sCell f fd) (T : Blt mg) : FnOk P w K mg base CX0 (k + 1) f fd ["script", "k"] (spCell K) := by
  refine F.ok scCell (fun vs H Q E h => ?_) (fun cdv A outer s H vs Q E hr h => ?_)
  · obtain ⟨a, ns, j, rfl, _⟩ := h
    rfl
  · obtain ⟨a, ns, j, rfl, hS, q⟩ := h
    refine ⟨_, pss_cons (ps_if (pt_cmpR op_lt (pv 1) (pe_callB call_len_seq (by rfl) T.len PySem.boot_len (pa_cons (pv 0) pa_nil)) (nomark _))
        (pss_one (ps_ret (pe_ix ix_list (pv 0) (pv 1) (fun _ _ => rfl)))) pss_nil) (pss_one (ps_ret pe_int)), ?_⟩
    refine ⟨_, rfl, _, rfl, a, _, rfl, .inl hS, _, _, rfl, rfl, _, rfl, ite2 (fun e => ?_) (fun e => ?_)⟩
    · have hj : j < ns.length := by
        have := of_decide_eq_true e
        rw [List.length_map] at this
        omega
      refine ⟨_, rfl, _, rfl, a, _, _, _, rfl, rfl, hS, atI_int hj, ?_⟩
      rw [List.getD_eq_getElem?_getD, List.getElem?_eq_getElem hj] at q
      exact q
    · have hj : ns.length ≤ j := by
        rcases Nat.lt_or_ge j ns.length with h | h
        · exact absurd (decide_eq_true (by rw [List.length_map]; omega)) e
        · exact h
      rw [List.getD_eq_getElem?_getD, List.getElem?_eq_none hj] at q
      exact q
/-- what a def's caller knows of it -/
structure Callee (P : Program) (w : World) (K : PySem.W.Frag) (mg : Str → Option Value) (base : Heap) (k : Nat) (x : Str) (ps : List Str) (sp : Sp) (f : Addr) (fd : FuncData) : Prop where
  ok : FnOk P w K mg base CX0 k f fd ps sp
  mg : mg x = some (.ref f)
  kp : PySem.W.keepIn K (.ref f) = true
  b : Binds K fd ps []
end
end My
namespace My
open PySem PySem.Spec PyProof.Rows L2
abbrev sNet : Stmt := top 2 /-Net-/
abbrev sInit : Stmt := inClass sNet 0 /-Net.__init__-/
abbrev sNb : Stmt := inClass sNet 3 /-Net.neighbours-/
section
variable {P : Program} {w : World} {K : PySem.W.Frag} {mg : Str → Option Value} {base : Heap}
/-! ### Net.__init__ -/
theorem scInit : FnScope ["self", "kinds", "lines", "processing", "error", "a", "b", "ticks"] ["self", "kinds", "lines", "processing", "error"] (defScope sInit) := ⟨rfl, rfl, rfl, by decide +kernel, rfl, by decide +kernel, by decide +kernel⟩
abbrev FunInit (K : PySem.W.Frag) (f : Addr) (fd : FuncData) : Prop := FunD K "__init__" "Net.__init__" (defArgs sInit) (defBody sInit) (defScope sInit) [] [("processing", .int 0), ("error", .int 0)] f fd
/-- a Net stands at p, its lists are new -/
def NetNew (K : PySem.W.Frag) (C : Addr) (H H' : Hp) (p : Addr) (N : NetD) : Prop := ∃ (dx lk ll ld : Addr) (ts : List Addr), H' p = some (.ins C dx (netF lk ll N.pr N.er ld)) ∧ H' lk = some (.lst (N.ks.map kindV)) ∧ H' ll = some (.lst (ts.map V.ref)) ∧
  LinesAt K H' ts N.ls ∧ H' ld = some (.dT (delaysOf N.ls)) ∧ H lk = none ∧ H ll = none
theorem NetNew.at {K : PySem.W.Frag} {C : Addr} {H H' : Hp} {p : Addr} {N : NetD} (h : NetNew K C H H' p N) : NetAt K C H' p N := by
  obtain ⟨dx, lk, ll, ld, ts, h1, h2, h3, h4, h5, _⟩ := h
  exact ⟨dx, lk, ll, ld, ts, h1, h2, h3, h4, h5⟩
def spInit (K : PySem.W.Frag) (C : Addr) : Sp := fun vs H Q _ => ∃ (p dx l0 l1 : Addr) (ts : List Addr) (N : NetD), vs = [.ref p, .ref l0, .ref l1, .int N.pr, .int N.er] ∧ H p = some (.ins C dx []) ∧
  SqL K H l0 (N.ks.map kindV) ∧ SqL K H l1 (ts.map V.ref) ∧ LinesAt K H ts N.ls ∧ N.ls.length ≤ 1000 ∧
  ∀ H', (∀ b o, H b = some o → b ≠ p → H' b = some o) → NetNew K C H H' p N → Q .non H'
theorem ok_init {f C : Addr} {fd : FuncData} {k : Nat} (F : FunInit K f fd) (T : Blt mg) (c : NetC K C) : FnOk P w K mg base CX0 (k + 1) f fd ["self", "kinds", "lines", "processing", "error"] (spInit K C) := by
  refine F.ok scInit (fun vs H Q E h => ?_) (fun cdv A outer s H vs Q E hr h => ?_)
  · obtain ⟨p, dx, l0, l1, ts, N, rfl, _⟩ := h
    rfl
  · obtain ⟨p, dx, l0, l1, ts, N, rfl, hp, h0, h1, hts, hlen, q⟩ := h
    have nd := scInit.nd
    have hu := hu_of hr
    refine ⟨_, PSs.nox (pss_cons (ps_fld (pv 0) (pe_callTy call_list_of (by rfl) T.list (by decide +kernel) (pa_cons (pv 1) pa_nil)) rfl)
      (pss_cons (ps_fld (pv 0) (pe_callTy call_list_of (by rfl) T.list (by decide +kernel) (pa_cons (pv 2) pa_nil)) rfl)
      (pss_cons (ps_fld (pv 0) (pv 3) rfl) (pss_cons (ps_fld (pv 0) (pv 4) rfl) (pss_cons (ps_fld (pv 0) pe_dnewT rfl)
      (pss_one (ps_for PassesOwn.never rfl (pi_list (pe_fld (pv 0) rfl))
        (pg_tup rfl (pgs_cons (pg_name (i := 5) nd rfl (.inl rfl)) (pgs_cons (pg_name (i := 6) nd rfl (.inl rfl)) (pgs_cons (pg_name (i := 7) nd rfl (.inl rfl)) pgs_nil))))
        (pss_cons (ps_dput hu (pe_fld (pv 0) rfl) (pe_tup (pa_cons (pv 5) (pa_cons (pv 6) pa_nil))) (pv 7) rfl)
        (pss_one (ps_dput hu (pe_fld (pv 0) rfl) (pe_tup (pa_cons (pv 6) (pa_cons (pv 5) pa_nil))) (pv 7) rfl)))))))))), ?_⟩
    have pnn : ∀ {H1 : Hp} {a : Addr} {u : HO}, H1 p = some u → H1 a = none → p ≠ a := fun e n => ne_of_none e n
    -- self.kinds = list(kinds)
    refine ⟨_, rfl, l0, _, rfl, .inl h0, fun lk nk => ?_⟩
    have npk := pnn hp nk
    refine ⟨_, rfl, p, C, dx, [], rfl, (by rw [upd_ne npk]; exact hp), c.cl, c.n1, (by show 0 < 1000; decide), ?_⟩
    have k1 : But p H _ := but_new (u := .ins C dx (putF "kinds" (.ref lk) [])) (o := .lst (N.ks.map kindV)) nk
    have a1 : (upd (upd H lk (.lst (N.ks.map kindV))) p (.ins C dx (putF "kinds" (.ref lk) []))) lk = some (.lst (N.ks.map kindV)) := by rw [upd_ne npk.symm, upd_same]
    have p1 : (upd (upd H lk (.lst (N.ks.map kindV))) p (.ins C dx (putF "kinds" (.ref lk) []))) p = some (.ins C dx (putF "kinds" (.ref lk) [])) := upd_same
    generalize (upd (upd H lk (.lst (N.ks.map kindV))) p (.ins C dx (putF "kinds" (.ref lk) []))) = H1 at k1 a1 p1 ⊢
    rw [f1] at p1
    -- self.lines = list(lines)
    refine ⟨_, rfl, l1, ts.map V.ref, rfl, .inl (k1.seq hp h1), fun ll nl => ?_⟩
    have npl := pnn p1 nl
    have nlH : H ll = none := by
      cases e : H ll with
      | none => rfl
      | some o =>
        have z := k1 _ _ e npl.symm
        rw [nl] at z
        cases z
    refine ⟨_, rfl, p, C, dx, _, rfl, (by rw [upd_ne npl]; exact p1), c.cl, c.n2, (by show 1 < 1000; decide), ?_⟩
    have k2 : But p H1 _ := but_new (u := .ins C dx (putF "lines" (.ref ll) [(("kinds" : Str), V.ref lk)])) (o := .lst (ts.map V.ref)) nl
    have b2 : (upd (upd H1 ll (.lst (ts.map V.ref))) p (.ins C dx (putF "lines" (.ref ll) [(("kinds" : Str), V.ref lk)]))) ll = some (.lst (ts.map V.ref)) := by rw [upd_ne npl.symm, upd_same]
    have p2 : (upd (upd H1 ll (.lst (ts.map V.ref))) p (.ins C dx (putF "lines" (.ref ll) [(("kinds" : Str), V.ref lk)]))) p = some (.ins C dx (putF "lines" (.ref ll) [(("kinds" : Str), V.ref lk)])) := upd_same
    generalize (upd (upd H1 ll (.lst (ts.map V.ref))) p (.ins C dx (putF "lines" (.ref ll) [(("kinds" : Str), V.ref lk)]))) = H2 at k2 b2 p2 ⊢
    rw [f2] at p2
    have a2 := k2 _ _ a1 npk.symm
    have q2 := k1.trans k2
    -- self.processing, self.error
    refine ⟨_, rfl, _, rfl, p, C, dx, _, rfl, p2, c.cl, c.n3, (by show 2 < 1000; decide), ?_⟩
    refine ⟨_, rfl, _, rfl, p, C, dx, _, rfl, upd_same, c.cl, c.n4, (by rw [f3]; show 3 < 1000; decide), ?_⟩
    have k3 : But p H2 _ := but_self (u := .ins C dx (putF "processing" (.int N.pr) [(("kinds" : Str), V.ref lk), ("lines", V.ref ll)]))
    have k4 : But p _ _ := but_self (H := upd H2 p (.ins C dx (putF "processing" (.int N.pr) [(("kinds" : Str), V.ref lk), ("lines", V.ref ll)]))) (u := .ins C dx (putF "error" (.int N.er) (putF "processing" (.int N.pr) [(("kinds" : Str), V.ref lk), ("lines", V.ref ll)])))
    have q4 := (q2.trans k3).trans k4
    have k34 := k3.trans k4
    have p4 : (upd (upd H2 p (.ins C dx (putF "processing" (.int N.pr) [(("kinds" : Str), V.ref lk), ("lines", V.ref ll)]))) p (.ins C dx (putF "error" (.int N.er) (putF "processing" (.int N.pr) [(("kinds" : Str), V.ref lk), ("lines", V.ref ll)])))) p = some (.ins C dx (putF "error" (.int N.er) (putF "processing" (.int N.pr) [(("kinds" : Str), V.ref lk), ("lines", V.ref ll)]))) := upd_same
    clear k3 k4
    generalize (upd (upd H2 p (.ins C dx (putF "processing" (.int N.pr) [(("kinds" : Str), V.ref lk), ("lines", V.ref ll)]))) p (.ins C dx (putF "error" (.int N.er) (putF "processing" (.int N.pr) [(("kinds" : Str), V.ref lk), ("lines", V.ref ll)])))) = H4 at k34 q4 p4 ⊢
    rw [f3, f4] at p4
    have a4 := k34 _ _ a2 npk.symm
    have b4 := k34 _ _ b2 npl.symm
    -- self._delays = {}
    refine fun ld nd5 => ?_
    have npd := pnn p4 nd5
    refine ⟨_, rfl, p, C, dx, _, rfl, (by rw [upd_ne npd]; exact p4), c.cl, c.n5, (by show 4 < 1000; decide), ?_⟩
    rw [f5]
    have k5 : But p H4 _ := but_new (u := .ins C dx (netF lk ll N.pr N.er ld)) (o := .dT []) nd5
    have c5 : (upd (upd H4 ld (.dT [])) p (.ins C dx (netF lk ll N.pr N.er ld))) ld = some (.dT []) := by rw [upd_ne npd.symm, upd_same]
    have p5 : (upd (upd H4 ld (.dT [])) p (.ins C dx (netF lk ll N.pr N.er ld))) p = some (.ins C dx (netF lk ll N.pr N.er ld)) := upd_same
    generalize (upd (upd H4 ld (.dT [])) p (.ins C dx (netF lk ll N.pr N.er ld))) = H5 at k5 c5 p5 ⊢
    have a5 := k5 _ _ a4 npk.symm
    have b5 := k5 _ _ b4 npl.symm
    have q5 := q4.trans k5
    have ldH : H ld = none := by
      cases z : H ld with
      | none => rfl
      | some u => rw [q4 _ _ z npd.symm] at nd5; cases nd5
    have nkd : lk ≠ ld := fun z => by rw [z, nd5] at a4; cases a4
    have nld : ll ≠ ld := fun z => by rw [z, nd5] at b4; cases b4
    have tlen : ts.length = N.ls.length := hts.length
    -- the loop
    refine ⟨_, rfl, p, C, dx, _, _, rfl, p5, c.cl, c.n2, g2, ll, rfl, ⟨_, SqL.of b5⟩, for_list (K := K) (a := ll) (xs := ts.map V.ref) (fun i σ H' => ∃ (v5 v6 v7 : Option V), σ = [some (.ref p), some (.ref l0), some (.ref l1), some (.int N.pr), some (.int N.er), v5, v6, v7] ∧
      But p H H' ∧ H' p = some (.ins C dx (netF lk ll N.pr N.er ld)) ∧ H' lk = some (.lst (N.ks.map kindV)) ∧ H' ll = some (.lst (ts.map V.ref)) ∧ H' ld = some (.dT (delaysOf (N.ls.take i))))
      ⟨none, none, none, rfl, q5, p5, a5, b5, c5⟩ (fun i σ H' _ ⟨_, _, _, _, _, _, _, hl, _⟩ => SqL.of hl) ?_ ?_⟩
    · rintro i x σ H' hi ⟨v5, v6, v7, rfl, kb, hp', hk', hl', hd'⟩
      rw [List.getElem?_map] at hi
      cases ht : ts[i]? with
      | none => rw [ht] at hi; cases hi
      | some t =>
        rw [ht] at hi
        cases hi
        obtain ⟨l, el, hT⟩ := Paired.at hts ht
        have hT' := kb.tup hp hT
        refine ⟨t, _, rfl, hT', rfl, _, _, rfl, _, _, rfl, _, _, rfl, rfl, ?_⟩
        have hsz : (delaysOf (N.ls.take i)).length ≤ 2000 := by
          have := delays_len (N.ls.take i)
          rw [List.length_take] at this
          omega
        -- self._delays[a, b] = ticks
        refine ⟨_, rfl, _, rfl, p, C, dx, _, _, rfl, hp', c.cl, c.n5, g5, _, rfl, _, rfl, by show 2 ≤ sizeLine; decide, fun k1 nk1 => ?_⟩
        have z1 := same_new (o := .tup [.int (l.1 : Int), .int (l.2.1 : Int)]) nk1
        refine ⟨ld, _, rfl, DPut.t (k := key2 l.1 l.2.1) (z1 _ _ hd') upd_same (szl (by omega)), ?_⟩
        have nk1d : ld ≠ k1 := ne_of_none hd' nk1
        have pd' : p ≠ ld := npd
        refine ⟨_, rfl, _, rfl, p, C, dx, _, _, rfl, by rw [upd_ne pd']; exact z1 _ _ hp', c.cl, c.n5, g5, _, rfl, _, rfl, by show 2 ≤ sizeLine; decide, fun k2 nk2 => ?_⟩
        have z2 := same_new (o := .tup [.int (l.2.1 : Int), .int (l.1 : Int)]) nk2
        refine ⟨ld, _, rfl, DPut.t (k := key2 l.2.1 l.1) (z2 _ _ upd_same) upd_same (szl (by have := length_putK (delaysOf (N.ls.take i)) (key2 l.1 l.2.1) (V.int l.2.2); omega)), ?_⟩
        have all : ∀ b o, H' b = some o → b ≠ ld → (upd (upd (upd (upd H' k1 (.tup [.int (l.1 : Int), .int (l.2.1 : Int)])) ld (.dT (putK (delaysOf (N.ls.take i)) (key2 l.1 l.2.1) (.int l.2.2)))) k2 (.tup [.int (l.2.1 : Int), .int (l.1 : Int)])) ld
            (.dT (putK (putK (delaysOf (N.ls.take i)) (key2 l.1 l.2.1) (.int l.2.2)) (key2 l.2.1 l.1) (.int l.2.2)))) b = some o := fun b o e n => by
          rw [upd_ne n]
          refine z2 _ _ ?_
          rw [upd_ne n]
          exact z1 _ _ e
        refine ⟨_, _, _, rfl, fun b o e n => all _ _ (kb _ _ e n) (ne_of_none e ldH), all _ _ hp' pd', all _ _ hk' nkd, all _ _ hl' nld, ?_⟩
        rw [upd_same, take_snoc el, delays_snoc]
        rfl
    · rintro σ H' ⟨v5, v6, v7, rfl, kb, hp', hk', hl', hd'⟩
      rw [List.length_map, tlen, List.take_length] at hd'
      exact q H' kb ⟨dx, lk, ll, ld, ts, hp', hk', hl', Paired.imp hts fun _ _ z => kb.tup hp z, hd', nk, nlH⟩
/-! ### Net.neighbours -/
theorem scNb : FnScope ["self", "a", "b"] ["self", "a"] (defScope sNb) := ⟨rfl, rfl, rfl, by decide +kernel, rfl, by decide +kernel, by decide +kernel⟩
def spNb (K : PySem.W.Frag) (C : Addr) : Sp := fun vs H Q _ => ∃ (p : Addr) (a : Nat) (N : NetD), vs = [.ref p, .int (a : Int)] ∧ NetAt K C H p N ∧ N.ks.length ≤ 1000 ∧
  ∀ (H' : Hp) (D : Addr), Same H H' → H D = none → H' D = some (.lst (natsV (nbs N a))) → Q (.ref D) H'
theorem ok_nb {f C : Addr} {fd : FuncData} {k : Nat} (F : Fun K "neighbours" "Net.neighbours" sNb f fd) (T : Blt mg) (c : NetC K C) : FnOk P w K mg base CX0 (k + 1) f fd ["self", "a"] (spNb K C) := by
  refine F.ok scNb (fun vs H Q E h => ?_) (fun cdv A outer s H vs Q E hr h => ?_)
  · obtain ⟨p, a, N, rfl, _⟩ := h
    rfl
  · obtain ⟨p, a, N, rfl, hN, hlen, q⟩ := h
    have nd := scNb.nd
    have hu := hu_of hr
    refine ⟨_, pss_one (ps_ret (pe_lc (own := [("b", 2)]) (g := gName 2) rfl nd
      (pi_range1 (by rfl) T.range (pa_cons (pe_callB call_len_seq (by rfl) T.len PySem.boot_len (pa_cons (pe_fld (pv 0) rfl) pa_nil)) pa_nil))
      (blkOk_by (own := [("b", 2)]) (N := ["self", "a", "b"]) (sc := defScope sNb) (by decide +kernel))
      (fun _ _ _ _ _ => pg_name (i := 2) nd rfl (Or.inl rfl))
      (fun _ _ _ _ _ => pts_one (pt_cmp (pc_din hu (pe_tup (pa_cons (pv 1) (pa_cons (pv 2) pa_nil))) (pe_fldK (K := K) (pv 0)))))
      (fun _ _ _ _ _ => pv 2))), ?_⟩
    obtain ⟨dx, lk, ll, ld, ts, e1, e2, e3, e4, e5⟩ := id hN
    refine ⟨_, rfl, p, C, dx, _, _, rfl, e1, c.cl, c.n1, g1, lk, _, rfl, .inl (SqL.of e2), _, rfl, by omega, by rw [List.length_map]; omega, fun D nD => ?_⟩
    have sD := same_new (o := .lst []) nD
    have en : (N.ks.map kindV).length = N.ks.length := List.length_map ..
    refine lc_range (lo := 0) (n := (N.ks.map kindV).length) (fun i H' => Same H H' ∧ H' D = some (.lst (natsV ((List.range i).filter (adj N a))))) ⟨sD, upd_same⟩ ?_ ?_
    · rintro i H' hi ⟨sm, hD⟩
      refine ⟨rfl, ?_⟩
      refine ⟨_, rfl, _, rfl, by show 2 ≤ sizeLine; decide, fun t nt => ?_⟩
      have st := same_new (o := .tup [.int (a : Int), .int (0 + (i : Int))]) nt
      have e5t := st _ _ (sm _ _ e5)
      have nDt : D ≠ t := ne_of_none hD nt
      refine ⟨_, rfl, p, C, dx, _, _, rfl, st _ _ (sm _ _ e1), c.cl, c.n5, g5, ld, valV (delaysOf N.ls) (key2 a i), rfl, ?_, _, rfl, ?_⟩
      · refine DGet.t e5t (k := key2 a i) ?_
        rw [upd_same, Int.zero_add]
        rfl
      · rw [adj_val]
        refine ite2 (fun ea => ?_) (fun ea => ?_)
        · refine ⟨_, rfl, _, by rw [upd_ne nDt]; exact hD, ?_, ?_, ?_⟩
          · rw [natsV, List.length_map]
            have := List.length_filter_le (adj N a) (List.range i)
            rw [List.length_range] at this
            exact small1000 (by omega)
          · exact fun b o e => by
              rw [upd_ne (ne_of_none e nD)]
              exact st _ _ (sm _ _ e)
          · rw [upd_same, List.range_succ, List.filter_append, List.filter_cons, if_pos ea, natsV, natsV, List.map_append, Int.zero_add]
            rfl
        · refine ⟨fun b o e => st _ _ (sm _ _ e), ?_⟩
          rw [upd_ne nDt, List.range_succ, List.filter_append, List.filter_cons, if_neg ea]
          simpa using hD
    · rintro H' ⟨sm, hD⟩
      rw [en] at hD
      exact q H' D sm nD hD
end
end My
namespace My
open PySem PySem.Spec PyProof.Rows L2
abbrev sLNet : Stmt := top 30 /-_law_net-/
/-- how Net(..) is called by its keywords -/
abbrev KBNet (K : PySem.W.Frag) (fd : FuncData) (mv : List Value) : Prop := KBn K fd ["self", "kinds", "lines", "processing", "error"] 3 ["processing", "error"] (fun us ws => us ++ ws) (fun vs zs => vs ++ zs)
theorem kb_net {K : PySem.W.Frag} {f : Addr} {fd : FuncData} (F : FunInit K f fd) : KBn K fd ["self", "kinds", "lines", "processing", "error"] 3 ["processing", "error"] (fun us ws => us ++ ws) (fun vs zs => vs ++ zs) := by
  obtain ⟨mv, h⟩ := F.kbinds0 (ps := ["self", "kinds", "lines", "processing", "error"]) 3 ["processing", "error"] [] (fun us _ ws => us ++ ws) (by simp) (fun q hq => by cases hq) (fun r1 _ r3 => r1.append r3)
    (fun D doc pm an cdv ct us mv ws h1 _ h3 => match us, ws, h1, h3 with | [_, _, _], [_, _], _, _ => rfl)
  exact h
section
variable {P : Program} {w : World} {K : PySem.W.Frag} {mg : Str → Option Value} {base : Heap}
theorem scLNet : FnScope ["cell", "more", "numbers", "hosts", "switches", "kinds", "k", "pairs", "a", "b", "draws", "lines", "near"] ["cell", "more"] (defScope sLNet) := ⟨rfl, rfl, rfl, by decide +kernel, rfl, by decide +kernel, by decide +kernel⟩
def spLNet (K : PySem.W.Frag) (C : Addr) : Sp := fun vs H Q _ => ∃ (c m : Int), vs = [.int c, .int m] ∧
  ∀ (H' : Hp) (p : Addr) (N : NetD), Same H H' → H p = none → NetAt K C H' p N → NetWf N → Q (.ref p) H'
structure NetMk (P : Program) (w : World) (K : PySem.W.Frag) (mg : Str → Option Value) (base : Heap) (C f : Addr) (fd : FuncData) : Prop where
  ok : FnOk P w K mg base CX0 1 f fd ["self", "kinds", "lines", "processing", "error"] (spInit K C)
  mg : mg "Net" = some (.ref C)
  mkC : Mk K C f
  kb : KBn K fd ["self", "kinds", "lines", "processing", "error"] 3 ["processing", "error"] (fun us ws => us ++ ws) (fun vs zs => vs ++ zs)
theorem er_at {z : Int} (h0 : 0 ≤ z) (h1 : z < 4) : ∃ e : Int, atI [V.int 0, V.int 1, V.int 0, V.int 2] z = some (.int e) ∧ 0 ≤ e ∧ e ≤ 2 := by
  have : z = 0 ∨ z = 1 ∨ z = 2 ∨ z = 3 := by omega
  rcases this with rfl | rfl | rfl | rfl
  · exact ⟨0, rfl, by decide, by decide⟩
  · exact ⟨1, rfl, by decide, by decide⟩
  · exact ⟨0, rfl, by decide, by decide⟩
  · exact ⟨2, rfl, by decide, by decide⟩
theorem ok_lnet {f C fD fI : Addr} {fd fdD fdI : FuncData} {k : Nat} (F : Fun K "_law_net" "_law_net" sLNet f fd) (T : Blt mg) (D : Callee P w K mg base 1 "_law_draw" ["cell", "many", "bound"] spDraw fD fdD) (G : NetMk P w K mg base C fI fdI) :
    FnOk P w K mg base CX0 (k + 3) f fd ["cell", "more"] (spLNet K C) := by
  refine F.ok scLNet (fun vs H Q E h => ?_) (fun cdv A outer s H vs Q E hr h => ?_)
  · obtain ⟨c, m, rfl, _⟩ := h
    rfl
  · obtain ⟨c, m, rfl, q⟩ := h
    have nd := scLNet.nd
    have hr1 : Room 1 _ := hr.mono (by omega)
    have hr2 : Room 2 _ := hr.mono (by omega)
    refine ⟨_, pss_cons (ps_set (i := 2) nd rfl (.inl rfl) (pe_call D.ok hr1 (by rfl) D.mg D.kp D.b .nil pass0 (pa_cons (pv 0) (pa_cons pe_int (pa_cons (pe_op op_shl pe_int pe_int) pa_nil))))) <| pss_cons (ps_set (i := 3) nd rfl (.inl rfl) (pe_op op_add pe_int (pe_op op_mod (pe_ix ix_list (pv 2) pe_int (fun _ _ => rfl)) pe_int))) <| pss_cons (ps_set (i := 4) nd rfl (.inl rfl) (pe_op op_add pe_int (pe_op op_mod (pe_ix ix_list (pv 2) pe_int (fun _ _ => rfl)) pe_int))) <| pss_cons (ps_set (i := 5) nd rfl (.inl rfl) (pe_op op_rep (pe_lst (pa_cons pe_str pa_nil)) (pv 3))) <| pss_cons (ps_for PassesOwn.never rfl (pi_range1 (by rfl) T.range (pa_cons (pv 4) pa_nil)) (pg_name (i := 6) nd rfl (.inl rfl)) (pss_one (ps_expr (pe_bm PySem.F.plainAttrs_list PySem.F.slot_list_insert PySem.F.type_list_insert mt_insert (pv 5) (pa_cons (pe_op op_mod (pe_ix ix_list (pv 2) (pe_op op_add pe_int (pv 6)) (fun _ _ => rfl)) (pe_op op_add (pe_callB call_len_seq (by rfl) T.len PySem.boot_len (pa_cons (pv 5) pa_nil)) pe_int)) (pa_cons pe_str pa_nil)))))) <| pss_cons (ps_set (i := 7) nd rfl (.inl rfl) (pe_lst pa_nil)) <| pss_cons (ps_for PassesOwn.never rfl (pi_range1 (by rfl) T.range (pa_cons (pe_callB call_len_seq (by rfl) T.len PySem.boot_len (pa_cons (pv 5) pa_nil)) pa_nil)) (pg_name (i := 8) nd rfl (.inl rfl)) (pss_one (ps_for PassesOwn.never rfl (pi_range1 (by rfl) T.range (pa_cons (pv 8) pa_nil)) (pg_name (i := 9) nd rfl (.inl rfl)) (pss_one (ps_if (PW.pt (pw_or (pt_cmpR op_eq (pe_ix ix_list (pv 5) (pv 8) (fun _ _ => rfl)) pe_str (nomark _)) (pw_or1 (pt_cmpR op_eq (pe_ix ix_list (pv 5) (pv 9) (fun _ _ => rfl)) pe_str (nomark _))))) (pss_one (ps_expr (pe_bm PySem.F.plainAttrs_list PySem.F.slot_list_append PySem.F.type_list_append mt_append (pv 7) (pa_cons (pe_tup (pa_cons (pv 8) (pa_cons (pv 9) pa_nil))) pa_nil)))) (pss_nil)))))) <| pss_cons (ps_set (i := 10) nd rfl (.inl rfl) (pe_call D.ok hr1 (by rfl) D.mg D.kp D.b .nil pass0 (pa_cons (pv 1) (pa_cons (pe_op op_mul pe_int (pe_callB call_len_seq (by rfl) T.len PySem.boot_len (pa_cons (pv 7) pa_nil))) (pa_cons (pe_op op_shl pe_int pe_int) pa_nil))))) <| pss_cons (ps_set (i := 11) nd rfl (.inl rfl) (pe_lst pa_nil)) <| pss_cons (ps_for PassesOwn.never rfl (pi_range1 (by rfl) T.range (pa_cons (pe_callB call_len_seq (by rfl) T.len PySem.boot_len (pa_cons (pv 7) pa_nil)) pa_nil)) (pg_name (i := 6) nd rfl (.inl rfl)) (pss_cons (ps_asg (pe_ix ix_list (pv 7) (pv 6) (fun _ _ => rfl)) (pg_tup rfl (pgs_cons (pg_name (i := 8) nd rfl (.inl rfl)) (pgs_cons (pg_name (i := 9) nd rfl (.inl rfl)) pgs_nil)))) <| pss_cons (ps_set (i := 12) nd rfl (.inl rfl) (pe_cmpR op_ne (pe_ix ix_list (pv 5) (pv 8) (fun _ _ => rfl)) (pe_ix ix_list (pv 5) (pv 9) (fun _ _ => rfl)) (nomark _))) <| pss_one (ps_if (PW.pt (pw_or (pt_cmpR op_lt (pe_op op_mod (pe_ix ix_list (pv 10) (pe_op op_mul pe_int (pv 6)) (fun _ _ => rfl)) pe_int) pe_int (nomark _)) (pw_or1 (PW.pt (pw_and (pt_val (pv 12)) (pw_and1 (pt_cmpR op_eq (pe_op op_mod (pe_ix ix_list (pv 10) (pe_op op_mul pe_int (pv 6)) (fun _ _ => rfl)) pe_int) pe_int (nomark _)))))))) (pss_one (ps_if (pt_cmpR op_eq (pe_op op_mod (pe_ix ix_list (pv 10) (pe_op op_add (pe_op op_mul pe_int (pv 6)) pe_int) (fun _ _ => rfl)) pe_int) pe_int (nomark _)) (pss_one (ps_expr (pe_bm PySem.F.plainAttrs_list PySem.F.slot_list_append PySem.F.type_list_append mt_append (pv 11) (pa_cons (pe_tup (pa_cons (pv 8) (pa_cons (pv 9) (pa_cons (pe_op op_mod (pe_op op_fdiv (pe_ix ix_list (pv 10) (pe_op op_add (pe_op op_mul pe_int (pv 6)) pe_int) (fun _ _ => rfl)) pe_int) pe_int) pa_nil)))) pa_nil)))) (pss_one (ps_expr (pe_bm PySem.F.plainAttrs_list PySem.F.slot_list_append PySem.F.type_list_append mt_append (pv 11) (pa_cons (pe_tup (pa_cons (pv 9) (pa_cons (pv 8) (pa_cons (pe_op op_mod (pe_op op_fdiv (pe_ix ix_list (pv 10) (pe_op op_add (pe_op op_mul pe_int (pv 6)) pe_int) (fun _ _ => rfl)) pe_int) pe_int) pa_nil)))) pa_nil)))))) (pss_nil)))) <| pss_cons (ps_if (pt_cmpR op_eq (pe_op op_mod (pe_ix ix_list (pv 2) pe_int (fun _ _ => rfl)) pe_int) pe_int (nomark _)) (pss_one (ps_for PassesOwn.never rfl (pi_range1 (by rfl) T.range (pa_cons (pe_callB call_len_seq (by rfl) T.len PySem.boot_len (pa_cons (pv 5) pa_nil)) pa_nil)) (pg_name (i := 8) nd rfl (.inl rfl)) (pss_one (ps_for PassesOwn.never rfl (pi_range1 (by rfl) T.range (pa_cons (pv 8) pa_nil)) (pg_name (i := 9) nd rfl (.inl rfl)) (pss_one (ps_if (PW.pt (pw_and (pt_cmpR op_eq (pe_ix ix_list (pv 5) (pv 8) (fun _ _ => rfl)) pe_str (nomark _)) (pw_and (pt_cmpR op_eq (pe_ix ix_list (pv 5) (pv 9) (fun _ _ => rfl)) pe_str (nomark _)) (pw_and1 (pt_cmpR op_lt (pe_callB call_len_seq (by rfl) T.len PySem.boot_len (pa_cons (pv 11) pa_nil)) pe_int (nomark _)))))) (pss_one (ps_expr (pe_bm PySem.F.plainAttrs_list PySem.F.slot_list_append PySem.F.type_list_append mt_append (pv 11) (pa_cons (pe_tup (pa_cons (pv 8) (pa_cons (pv 9) (pa_cons (pe_op op_mod (pe_ix ix_list (pv 2) pe_int (fun _ _ => rfl)) pe_int) pa_nil)))) pa_nil)))) (pss_nil))))))) (pss_nil)) <| pss_one (ps_ret (pe_makeK G.mkC G.ok hr2 (by rfl) G.mg G.kb pass0 (pa_cons (pv 5) (pa_cons (pv 11) pa_nil)) (pk_cons (pe_op op_mod (pe_op op_fdiv (pe_ix ix_list (pv 2) pe_int (fun _ _ => rfl)) pe_int) pe_int) (pk_cons (pe_ix ix_list (pe_lst (pa_cons pe_int (pa_cons pe_int (pa_cons pe_int (pa_cons pe_int pa_nil))))) (pe_op op_mod (pe_ix ix_list (pv 2) pe_int (fun _ _ => rfl)) pe_int) (fun _ _ => rfl)) pk_nil)))), ?_⟩
    -- numbers
    refine ⟨_, rfl, _, _, rfl, rfl, ⟨by decide, by decide, by decide⟩, c, _, 8, rfl, by decide, by decide, by decide, fun H1 pn ns s1 npn hn ln bn => ?_⟩
    have bd : ∀ j, j < 8 → 0 ≤ ns.getD j 0 ∧ ns.getD j 0 < 1048576 := fun j hj => bn _ (getD_mem (by omega))
    -- hosts, switches
    refine ⟨_, rfl, pn, _, _, _, rfl, rfl, SqL.of hn, atI_ints (j := 0) rfl (by omega), _, _, rfl, rfl, (by show (0 : Int) < 3; decide), _, _, rfl, rfl, ?_⟩
    refine ⟨_, rfl, pn, _, _, _, rfl, rfl, SqL.of hn, atI_ints (j := 1) rfl (by omega), _, _, rfl, rfl, (by show (0 : Int) < 3; decide), _, _, rfl, rfl, ?_⟩
    have x0 : 0 ≤ ns.getD 0 0 % 3 := Int.emod_nonneg _ (by decide)
    have x1 : ns.getD 0 0 % 3 < 3 := Int.emod_lt_of_pos _ (by decide)
    have y0 : 0 ≤ ns.getD 1 0 % 3 := Int.emod_nonneg _ (by decide)
    have y1 : ns.getD 1 0 % 3 < 3 := Int.emod_lt_of_pos _ (by decide)
    have hh : 2 ≤ (2 + ns.getD 0 0 % 3).toNat ∧ (2 + ns.getD 0 0 % 3).toNat ≤ 4 := by omega
    have hs : 1 ≤ (1 + ns.getD 1 0 % 3).toNat ∧ (1 + ns.getD 1 0 % 3).toNat ≤ 3 := by omega
    -- kinds = ["host"] * hosts
    refine ⟨by show 1 ≤ sizeLine; decide, fun p0 np0 => ?_⟩
    have s2 : Same H1 (upd H1 p0 (.lst [V.str "host"])) := same_new np0
    refine ⟨_, rfl, p0, _, _, rfl, rfl, upd_same, by omega, by omega, (by show 1 * (2 + ns.getD 0 0 % 3).toNat ≤ sizeLine; exact sz (by omega)), fun pk npk => ?_⟩
    have s3 := same_new (o := .lst (List.replicate (2 + ns.getD 0 0 % 3).toNat [V.str "host"]).flatten) npk
    have hn2 := (s2.trans s3) _ _ hn
    have hk0 : (upd (upd H1 p0 (.lst [V.str "host"])) pk (.lst (List.replicate (2 + ns.getD 0 0 % 3).toNat [V.str "host"]).flatten)) pk = some (.lst ((List.replicate (2 + ns.getD 0 0 % 3).toNat true).map kindV)) := by
      rw [upd_same, rep_flat, List.map_replicate]
      rfl
    have S2 := (s1.trans s2).trans s3
    have npkH : H pk = none := (s1.trans s2).free npk
    have nnk : pn ≠ pk := ne_of_none (s2 _ _ hn) npk
    generalize (upd (upd H1 p0 (.lst [V.str "host"])) pk (.lst (List.replicate (2 + ns.getD 0 0 % 3).toNat [V.str "host"]).flatten)) = H2 at S2 hn2 hk0 ⊢
    clear s2 s3 np0 npk
    -- the switches are put in
    refine ⟨_, rfl, 1 + ns.getD 1 0 % 3, rfl, by omega, by omega, for_range (n := (1 + ns.getD 1 0 % 3).toNat) (fun i σ H' => ∃ (v6 : Option V) (ks : List Bool), σ = [some (.int c), some (.int m), some (.ref pn), some (.int (2 + ns.getD 0 0 % 3)), some (.int (1 + ns.getD 1 0 % 3)), some (.ref pk), v6, none, none, none, none, none, none] ∧
      But pk H2 H' ∧ H' pk = some (.lst (ks.map kindV)) ∧ ks.count true = (2 + ns.getD 0 0 % 3).toNat ∧ ks.count false = i) ⟨none, _, rfl, But.refl _ _, hk0, List.count_replicate_self, by rw [List.count_replicate]; rfl⟩ ?_ ?_⟩
    · rintro i σ H' hi ⟨v6, ks, rfl, kb, hk, c1, c0⟩
      have lk := len_count ks
      have hn' := kb _ _ hn2 nnk
      refine ⟨_, rfl, .inl ⟨rfl, _, SqL.of hk⟩, _, rfl, _, rfl, _, _, rfl, rfl, pn, _, _, _, rfl, rfl, SqL.of hn', atI_ints (j := 2 + i) (by omega) (by omega), _, rfl, pk, _, rfl, .inl (SqL.of hk), _, _, rfl, rfl, _, _, rfl, rfl, (by rw [List.length_map]; omega), ?_⟩
      rw [List.length_map]
      have z0 : 0 ≤ ns.getD (2 + i) 0 % ((ks.length : Int) + 1) := Int.emod_nonneg _ (by omega)
      have z1 : ns.getD (2 + i) 0 % ((ks.length : Int) + 1) < (ks.length : Int) + 1 := Int.emod_lt_of_pos _ (by omega)
      refine ⟨pk, _, _, _, rfl, rfl, hk, szl (by rw [List.length_map]; omega), z0, by omega, ?_⟩
      refine ⟨_, ks.take (ns.getD (2 + i) 0 % ((ks.length : Int) + 1)).toNat ++ [false] ++ ks.drop (ns.getD (2 + i) 0 % ((ks.length : Int) + 1)).toNat, rfl, kb.trans but_self, ?_, ?_, ?_⟩
      · rw [upd_same, List.map_append, List.map_append, List.map_take, List.map_drop]
        rfl
      · rw [count_ins, c1]
        rfl
      · rw [count_ins, c0]
        rfl
    rintro σ H3 ⟨v6, ks, rfl, kb3, hk3, c1, c0⟩
    have lk := len_count ks
    have lks : ks.length ≤ 7 := by omega
    have lkm : (ks.map kindV).length = ks.length := List.length_map ..
    have S3 := same_but S2 npkH kb3
    have hn3 := kb3 _ _ hn2 nnk
    -- pairs = []
    refine ⟨Nat.zero_le _, fun pp npp => ?_⟩
    have s4 := same_new (o := .lst []) npp
    have nppH := S3.free npp
    have S4 := S3.trans s4
    have hk4 := s4 _ _ hk3
    have hn4 := s4 _ _ hn3
    have nkp : pk ≠ pp := ne_of_none hk3 npp
    have nnp : pn ≠ pp := ne_of_none hn3 npp
    have hp4 : (upd H3 pp (.lst [])) pp = some (.lst []) := upd_same
    generalize (upd H3 pp (.lst [])) = H4 at S4 hk4 hn4 hp4 ⊢
    clear s4 npp
    -- the pairs
    refine ⟨_, rfl, pk, _, rfl, .inl (SqL.of hk4), _, rfl, by omega, by omega, for_range (n := (ks.map kindV).length) (fun i σ H' => ∃ (v8 v9 : Option V) (ts : List Addr) (ps : List (Nat × Nat)), σ = [some (.int c), some (.int m), some (.ref pn), some (.int (2 + ns.getD 0 0 % 3)), some (.int (1 + ns.getD 1 0 % 3)), some (.ref pk), v6, some (.ref pp), v8, v9, none, none, none] ∧
      But pp H4 H' ∧ H' pp = some (.lst (ts.map V.ref)) ∧ PairsAt K H' ts ps ∧ PInv ks ps i 0) ⟨none, none, [], [], rfl, But.refl _ _, hp4, .nil, PInv.nil⟩ ?_ ?_⟩
    · rintro i σ H' hi ⟨v8, v9, ts, ps, rfl, kb, hp, ht, hI⟩
      rw [lkm] at hi
      rw [Int.zero_add]
      refine ⟨_, rfl, (i : Int), rfl, by omega, by omega, for_range (n := i) (fun j σ H' => ∃ (v9 : Option V) (ts : List Addr) (ps : List (Nat × Nat)), σ = [some (.int c), some (.int m), some (.ref pn), some (.int (2 + ns.getD 0 0 % 3)), some (.int (1 + ns.getD 1 0 % 3)), some (.ref pk), v6, some (.ref pp), some (.int (i : Int)), v9, none, none, none] ∧
        But pp H4 H' ∧ H' pp = some (.lst (ts.map V.ref)) ∧ PairsAt K H' ts ps ∧ PInv ks ps i j) ⟨v9, ts, ps, rfl, kb, hp, ht, hI⟩ ?_ ?_⟩
      · rintro j σ H5 hj ⟨v9, ts, ps, rfl, kb, hp, ht, hI⟩
        rw [Int.zero_add]
        have hk5 := kb _ _ hk4 nkp
        refine or_read (a := decide (kindV (ks.getD i true) = V.str "switch")) (b := decide (kindV (ks.getD j true) = V.str "switch")) (fun Q q => ?_) (fun Q q => ?_) ?_
        · exact ⟨_, rfl, _, rfl, pk, _, _, _, rfl, rfl, SqL.of hk5, atI_kind rfl hi, rfl, _, rfl, q⟩
        · exact ⟨_, rfl, _, rfl, pk, _, _, _, rfl, rfl, SqL.of hk5, atI_kind rfl (by omega), rfl, _, rfl, q⟩
        · refine ite2 (fun e => ?_) (fun e => ?_)
          · have e2 : ks.getD i true = false ∨ ks.getD j true = false := by
              rw [Bool.or_eq_true] at e
              exact e.imp (fun z => kind_sw (of_decide_eq_true z)) (fun z => kind_sw (of_decide_eq_true z))
            refine ⟨_, rfl, .inl ⟨rfl, _, SqL.of hp⟩, _, rfl, _, rfl, by show 2 ≤ sizeLine; decide, fun t nt => ?_⟩
            have st := same_new (o := .tup [V.int (i : Int), V.int (j : Int)]) nt
            have hp' := st _ _ hp
            have nf := hI.few
            have lt := ht.length
            refine ⟨pp, _, _, rfl, rfl, hp', szl (by rw [List.length_map]; omega), ?_⟩
            refine ⟨_, ts ++ [t], ps ++ [(i, j)], rfl, kb.trans (but_app nt), ?_, ?_, hI.snoc hi hj e2⟩
            · rw [upd_same, List.map_append]
              rfl
            · have kb2 : But pp (upd H5 t (.tup [V.int (i : Int), V.int (j : Int)])) (upd (upd H5 t (.tup [V.int (i : Int), V.int (j : Int)])) pp (.lst (ts.map V.ref ++ [V.ref t]))) := but_self
              exact PairsAt.snoc (PairsAt.mono ht fun a b z => kb2.tupL hp' (same_tup st z)) (kb2.tupL hp' (SqT.of upd_same))
          · exact ⟨_, ts, ps, rfl, kb, hp, ht, hI.skip⟩
      · rintro σ H5 ⟨v9, ts, ps, rfl, kb, hp, ht, hI⟩
        exact ⟨_, v9, ts, ps, rfl, kb, hp, ht, hI.next (by omega)⟩
    rintro σ H5 ⟨v8, v9, ts, ps, rfl, kb5, hp5, ht5, hI⟩
    rw [lkm] at hI
    have S5 := same_but S4 nppH kb5
    have hk5 := kb5 _ _ hk4 nkp
    have hn5 := kb5 _ _ hn4 nnp
    have ltp : ts.length = ps.length := ht5.length
    have lpm : (ts.map V.ref).length = ps.length := by rw [List.length_map]; exact ltp
    have nf := hI.few
    -- draws
    refine ⟨_, rfl, _, rfl, pp, _, rfl, .inl (SqL.of hp5), _, _, rfl, rfl, .inl ⟨by decide, by decide⟩, _, _, rfl, rfl, ⟨by decide, by decide, by decide⟩, m, 1048576, 2 * ps.length, ?_, by omega, by decide, by decide, fun H6 pd ds s6 npd hd ld bdd => ?_⟩
    · rw [lpm]
      rfl
    have S6 := S5.trans s6
    have hk6 := s6 _ _ hk5
    have hn6 := s6 _ _ hn5
    have hp6 := s6 _ _ hp5
    have ht6 : PairsAt K H6 ts ps := PairsAt.mono ht5 fun _ _ z => same_tup s6 z
    -- lines = []
    refine ⟨Nat.zero_le _, fun pl npl => ?_⟩
    have s7 := same_new (o := .lst []) npl
    have nplH := S6.free npl
    have S7 := S6.trans s7
    have hk7 := s7 _ _ hk6
    have hn7 := s7 _ _ hn6
    have hp7 := s7 _ _ hp6
    have hd7 := s7 _ _ hd
    have ht7 : PairsAt K (upd H6 pl (.lst [])) ts ps := PairsAt.mono ht6 fun _ _ z => same_tup s7 z
    have nkl : pk ≠ pl := ne_of_none hk6 npl
    have nnl : pn ≠ pl := ne_of_none hn6 npl
    have npl' : pp ≠ pl := ne_of_none hp6 npl
    have ndl : pd ≠ pl := ne_of_none hd npl
    have hl7 : (upd H6 pl (.lst [])) pl = some (.lst []) := upd_same
    generalize (upd H6 pl (.lst [])) = H7 at S7 hk7 hn7 hp7 hd7 ht7 hl7 ⊢
    clear s7 npl
    -- the lines
    refine ⟨_, rfl, pp, _, rfl, .inl (SqL.of hp7), _, rfl, by omega, by omega, for_range (n := (ts.map V.ref).length) (fun i σ H' => ∃ (v6 v8 v9 v12 : Option V) (us : List Addr) (ls : List (Nat × Nat × Int)), σ = [some (.int c), some (.int m), some (.ref pn), some (.int (2 + ns.getD 0 0 % 3)), some (.int (1 + ns.getD 1 0 % 3)), some (.ref pk), v6, some (.ref pp), v8, v9, some (.ref pd), some (.ref pl), v12] ∧
      But pl H7 H' ∧ H' pl = some (.lst (us.map V.ref)) ∧ LinesAt K H' us ls ∧ LInv ps ls i) ⟨v6, v8, v9, none, [], [], rfl, But.refl _ _, hl7, .nil, LInv.nil⟩ ?_ ?_⟩
    · rintro i σ H8 hi ⟨v6, v8, v9, v12, us, ls, rfl, kb, hl, hu, hL⟩
      rw [lpm] at hi
      rw [Int.zero_add]
      have hp8 := kb _ _ hp7 npl'
      have hk8 := kb _ _ hk7 nkl
      have hd8 := kb _ _ hd7 ndl
      have eti : ts[i]? = some ts[i] := List.getElem?_eq_getElem (by omega)
      obtain ⟨pr, epr, hT⟩ := Paired.at ht7 eti
      have hT8 := kb.tupL hl7 hT
      obtain ⟨pa, pb⟩ := pr
      obtain ⟨o1, o2, o3, o4⟩ := hI.ok _ (List.mem_of_getElem? epr)
      have o1 : pb < pa := o1
      have o2 : pa < ks.length := o2
      have eix : atI (ts.map V.ref) (i : Int) = some (V.ref ts[i]) := atI_nat (by rw [List.getElem?_map, eti]; rfl)
      refine ⟨_, rfl, _, rfl, pp, _, _, _, rfl, rfl, SqL.of hp8, eix, ts[i], _, rfl, hT8, rfl, _, _, rfl, _, _, rfl, rfl, ?_⟩
      refine ⟨_, rfl, _, rfl, pk, _, _, _, rfl, rfl, SqL.of hk8, atI_kind rfl o2, _, rfl, _, rfl, pk, _, _, _, rfl, rfl, SqL.of hk8, atI_kind rfl (by omega), rfl, ?_⟩
      have ix0 : atI (ds.map V.int) (2 * (i : Int)) = some (.int (ds.getD (2 * i) 0)) := atI_ints (by omega) (by omega)
      have ix1 : atI (ds.map V.int) (2 * (i : Int) + 1) = some (.int (ds.getD (2 * i + 1) 0)) := atI_ints (by omega) (by omega)
      have few := hL.few
      have lu : us.length = ls.length := hu.length
      have t0 : 0 ≤ ds.getD (2 * i + 1) 0 / 2 % 4 := Int.emod_nonneg _ (by decide)
      have t1 : ds.getD (2 * i + 1) 0 / 2 % 4 < 4 := Int.emod_lt_of_pos _ (by decide)
      dsimp only [gName]
      refine or_read (a := decide (ds.getD (2 * i) 0 % 5 < 3)) (b := (!decide (kindV (ks.getD pa true) = kindV (ks.getD pb true))) && decide (V.int (ds.getD (2 * i) 0 % 5) = V.int 3)) (fun Q q => ?_) (fun Q q => ?_) ?_
      · exact ⟨_, rfl, _, rfl, _, _, rfl, rfl, .inl ⟨by decide, by decide⟩, pd, _, _, _, rfl, rfl, SqL.of hd8, ix0, _, _, rfl, rfl, (by show (0 : Int) < 5; decide), _, _, rfl, rfl, _, rfl, q⟩
      · refine and_read (fun Q q => ?_) (fun _ Q q => ?_) q
        · exact ⟨_, rfl, _, rfl, q⟩
        · exact ⟨_, rfl, _, rfl, _, _, rfl, rfl, .inl ⟨by decide, by decide⟩, pd, _, _, _, rfl, rfl, SqL.of hd8, ix0, _, _, rfl, rfl, (by show (0 : Int) < 5; decide), rfl, _, rfl, q⟩
      · refine ite2 (fun _ => ?_) (fun _ => ?_)
        · refine ⟨_, rfl, _, rfl, _, _, rfl, rfl, .inl ⟨by decide, by decide⟩, _, _, rfl, rfl, pd, _, _, _, rfl, rfl, SqL.of hd8, ix1, _, _, rfl, rfl, (by show (0 : Int) < 2; decide), rfl, _, rfl, ite2 (fun _ => ?_) (fun _ => ?_)⟩
          · refine ⟨_, rfl, .inl ⟨rfl, _, SqL.of hl⟩, _, rfl, _, rfl, _, rfl, _, rfl, _, _, rfl, rfl, .inl ⟨by decide, by decide⟩, _, _, rfl, rfl, pd, _, _, _, rfl, rfl, SqL.of hd8, ix1, _, _, rfl, rfl, ⟨by decide, by decide⟩, _, _, rfl, rfl, (by show (0 : Int) < 4; decide), by show 3 ≤ sizeLine; decide, fun t nt => ?_⟩
            have st := same_new (o := .tup [V.int (pa : Int), V.int (pb : Int), V.int (ds.getD (2 * i + 1) 0 / 2 % 4)]) nt
            have hl' := st _ _ hl
            refine ⟨pl, _, _, rfl, rfl, hl', szl (by rw [List.length_map]; omega), ?_⟩
            refine ⟨_, _, _, _, us ++ [t], ls ++ [(pa, pb, ds.getD (2 * i + 1) 0 / 2 % 4)], rfl, kb.trans (but_app nt), ?_, ?_, hL.snoc hI.nd (by rw [norm_gt o1]; exact epr) ⟨t0, Int.le_of_lt t1⟩⟩
            · rw [upd_same, List.map_append]
              rfl
            · have kb2 : But pl (upd H8 t (.tup [V.int (pa : Int), V.int (pb : Int), V.int (ds.getD (2 * i + 1) 0 / 2 % 4)])) (upd (upd H8 t (.tup [V.int (pa : Int), V.int (pb : Int), V.int (ds.getD (2 * i + 1) 0 / 2 % 4)])) pl (.lst (us.map V.ref ++ [V.ref t]))) := but_self
              exact LinesAt.snoc (LinesAt.mono hu fun a b z => kb2.tupL hl' (same_tup st z)) (kb2.tupL hl' (SqT.of upd_same))
          · refine ⟨_, rfl, .inl ⟨rfl, _, SqL.of hl⟩, _, rfl, _, rfl, _, rfl, _, rfl, _, _, rfl, rfl, .inl ⟨by decide, by decide⟩, _, _, rfl, rfl, pd, _, _, _, rfl, rfl, SqL.of hd8, ix1, _, _, rfl, rfl, ⟨by decide, by decide⟩, _, _, rfl, rfl, (by show (0 : Int) < 4; decide), by show 3 ≤ sizeLine; decide, fun t nt => ?_⟩
            have st := same_new (o := .tup [V.int (pb : Int), V.int (pa : Int), V.int (ds.getD (2 * i + 1) 0 / 2 % 4)]) nt
            have hl' := st _ _ hl
            refine ⟨pl, _, _, rfl, rfl, hl', szl (by rw [List.length_map]; omega), ?_⟩
            refine ⟨_, _, _, _, us ++ [t], ls ++ [(pb, pa, ds.getD (2 * i + 1) 0 / 2 % 4)], rfl, kb.trans (but_app nt), ?_, ?_, hL.snoc hI.nd (by rw [norm_lt o1]; exact epr) ⟨t0, Int.le_of_lt t1⟩⟩
            · rw [upd_same, List.map_append]
              rfl
            · have kb2 : But pl (upd H8 t (.tup [V.int (pb : Int), V.int (pa : Int), V.int (ds.getD (2 * i + 1) 0 / 2 % 4)])) (upd (upd H8 t (.tup [V.int (pb : Int), V.int (pa : Int), V.int (ds.getD (2 * i + 1) 0 / 2 % 4)])) pl (.lst (us.map V.ref ++ [V.ref t]))) := but_self
              exact LinesAt.snoc (LinesAt.mono hu fun a b z => kb2.tupL hl' (same_tup st z)) (kb2.tupL hl' (SqT.of upd_same))
        · exact ⟨_, _, _, _, us, ls, rfl, kb, hl, hu, hL.skip⟩
    rintro σ H8 ⟨v6, v8, v9, v12, us, ls, rfl, kb8, hl8, hu8, hL⟩
    rw [lpm] at hL
    have hH : HInv ks ps ls 0 0 := hL.host (by omega)
    have hn8 := kb8 _ _ hn7 nnl
    have hk8 := kb8 _ _ hk7 nkl
    -- the end, from any such state
    have fin : ∀ (H9 : Hp) (us : List Addr) (ls : List (Nat × Nat × Int)), But pl H7 H9 → H9 pl = some (.lst (us.map V.ref)) → LinesAt K H9 us ls → LsOk ks.length ls →
        ∀ (H10 : Hp), Same H9 H10 → ∀ (x dx : Addr), H10 x = none → H10 dx = none → dx ≠ x → ∀ er : Int, 0 ≤ er → er ≤ 2 →
          spInit K C [.ref x, .ref pk, .ref pl, .int (ns.getD 6 0 / 5 % 3), .int er] (upd (upd H10 dx (.own x)) x (.ins C dx [])) (fun v H' => v = .non ∧ Q (.ref x) H') E0 := by
      intro H9 us ls kb hl hu hL H10 s10 x dx nx ndx ne er e0 e1
      have S9 : Same H H9 := same_but S7 nplH kb
      have z : ∀ b o, H10 b = some o → b ≠ x ∧ (upd (upd H10 dx (.own x)) x (.ins C dx [])) b = some o := fun b o e => by
        have h1 := ne_of_none e nx
        exact ⟨h1, by rw [upd_ne h1, upd_ne (ne_of_none e ndx)]; exact e⟩
      have zs : Same H10 (upd (upd H10 dx (.own x)) x (.ins C dx [])) := fun b o e => (z b o e).2
      refine ⟨x, dx, pk, pl, us, ⟨ks, ls, ns.getD 6 0 / 5 % 3, er⟩, rfl, upd_same, SqL.of (zs _ _ (s10 _ _ (kb _ _ hk7 nkl))), SqL.of (zs _ _ (s10 _ _ hl)), LinesAt.mono hu fun a ys t => same_tup zs (same_tup s10 t), ?_, fun H' kb' hN => ⟨rfl, ?_⟩⟩
      · have := hL.few
        show ls.length ≤ 1000
        omega
      · refine q H' x _ (fun b o e => ?_) (S9.free (s10.free nx)) hN.at ⟨by show 2 ≤ ks.count true; omega, by show ks.count true ≤ 4; omega, by show 1 ≤ ks.count false; omega, by show ks.count false ≤ 3; omega, hL, Int.emod_nonneg _ (by decide), ?_, e0, e1⟩
        · obtain ⟨z1, z2⟩ := z b o (s10 _ _ (S9 _ _ e))
          exact kb' b o z2 z1
        · have : ns.getD 6 0 / 5 % 3 < 3 := Int.emod_lt_of_pos _ (by decide)
          show ns.getD 6 0 / 5 % 3 ≤ 2
          omega
    have u0 : 0 ≤ ns.getD 7 0 % 4 := Int.emod_nonneg _ (by decide)
    have u1 : ns.getD 7 0 % 4 < 4 := Int.emod_lt_of_pos _ (by decide)
    obtain ⟨er, ee, er0, er1⟩ := er_at u0 u1
    -- if numbers[5] % 7 == 0
    refine ⟨_, rfl, pn, _, _, _, rfl, rfl, SqL.of hn8, atI_ints (j := 5) rfl (by omega), _, _, rfl, rfl, (by show (0 : Int) < 7; decide), rfl, _, rfl, ite2 (fun _ => ?_) (fun _ => ?_)⟩
    · refine ⟨_, rfl, pk, _, rfl, .inl (SqL.of hk8), _, rfl, by omega, by omega, for_range (n := (ks.map kindV).length) (fun i σ H' => ∃ (v8 v9 : Option V) (us : List Addr) (ls : List (Nat × Nat × Int)), σ = [some (.int c), some (.int m), some (.ref pn), some (.int (2 + ns.getD 0 0 % 3)), some (.int (1 + ns.getD 1 0 % 3)), some (.ref pk), v6, some (.ref pp), v8, v9, some (.ref pd), some (.ref pl), v12] ∧
        But pl H7 H' ∧ H' pl = some (.lst (us.map V.ref)) ∧ LinesAt K H' us ls ∧ HInv ks ps ls i 0) ⟨v8, v9, us, ls, rfl, kb8, hl8, hu8, hH⟩ ?_ ?_⟩
      · rintro i σ H9 hi ⟨v8, v9, us, ls, rfl, kb, hl, hu, hL⟩
        rw [lkm] at hi
        rw [Int.zero_add]
        refine ⟨_, rfl, (i : Int), rfl, by omega, by omega, for_range (n := i) (fun j σ H' => ∃ (v9 : Option V) (us : List Addr) (ls : List (Nat × Nat × Int)), σ = [some (.int c), some (.int m), some (.ref pn), some (.int (2 + ns.getD 0 0 % 3)), some (.int (1 + ns.getD 1 0 % 3)), some (.ref pk), v6, some (.ref pp), some (.int (i : Int)), v9, some (.ref pd), some (.ref pl), v12] ∧
          But pl H7 H' ∧ H' pl = some (.lst (us.map V.ref)) ∧ LinesAt K H' us ls ∧ HInv ks ps ls i j) ⟨v9, us, ls, rfl, kb, hl, hu, hL⟩ ?_ ?_⟩
        · rintro j σ H9 hj ⟨v9, us, ls, rfl, kb, hl, hu, hL⟩
          rw [Int.zero_add]
          have hk9 := kb _ _ hk7 nkl
          have hn9 := kb _ _ hn7 nnl
          have lu : us.length = ls.length := hu.length
          have few := hL.few
          refine and_read (a := decide (kindV (ks.getD i true) = V.str "host")) (b := decide (kindV (ks.getD j true) = V.str "host") && decide ((((us.map V.ref).length : Nat) : Int) < 20)) (fun Q q => ?_) (fun _ Q q => ?_) ?_
          · exact ⟨_, rfl, _, rfl, pk, _, _, _, rfl, rfl, SqL.of hk9, atI_kind rfl hi, rfl, _, rfl, q⟩
          · refine and_read (fun Q q => ?_) (fun _ Q q => ?_) q
            · exact ⟨_, rfl, _, rfl, pk, _, _, _, rfl, rfl, SqL.of hk9, atI_kind rfl (by omega), rfl, _, rfl, q⟩
            · exact ⟨_, rfl, pl, _, rfl, .inl (SqL.of hl), _, _, rfl, rfl, _, rfl, q⟩
          · refine ite2 (fun e => ?_) (fun e => ?_)
            · rw [Bool.and_eq_true, Bool.and_eq_true] at e
              obtain ⟨e1, e2, e3⟩ := e
              have e1 := kind_ho (of_decide_eq_true e1)
              have e2 := kind_ho (of_decide_eq_true e2)
              have e3 := of_decide_eq_true e3
              rw [List.length_map] at e3
              have t0 : 0 ≤ ns.getD 6 0 % 5 := Int.emod_nonneg _ (by decide)
              have t1 : ns.getD 6 0 % 5 < 5 := Int.emod_lt_of_pos _ (by decide)
              refine ⟨_, rfl, .inl ⟨rfl, _, SqL.of hl⟩, _, rfl, _, rfl, _, rfl, pn, _, _, _, rfl, rfl, SqL.of hn9, atI_ints (j := 6) rfl (by omega), _, _, rfl, rfl, (by show (0 : Int) < 5; decide), by show 3 ≤ sizeLine; decide, fun t nt => ?_⟩
              have st := same_new (o := .tup [V.int (i : Int), V.int (j : Int), V.int (ns.getD 6 0 % 5)]) nt
              have hl' := st _ _ hl
              refine ⟨pl, _, _, rfl, rfl, hl', szl (by rw [List.length_map]; omega), ?_⟩
              refine ⟨_, us ++ [t], ls ++ [(i, j, ns.getD 6 0 % 5)], rfl, kb.trans (but_app nt), ?_, ?_, hL.snoc hI hi hj e1 e2 ⟨t0, by omega⟩ (by omega)⟩
              · rw [upd_same, List.map_append]
                rfl
              · have kb2 : But pl (upd H9 t (.tup [V.int (i : Int), V.int (j : Int), V.int (ns.getD 6 0 % 5)])) (upd (upd H9 t (.tup [V.int (i : Int), V.int (j : Int), V.int (ns.getD 6 0 % 5)])) pl (.lst (us.map V.ref ++ [V.ref t]))) := but_self
                exact LinesAt.snoc (LinesAt.mono hu fun a b z => kb2.tupL hl' (same_tup st z)) (kb2.tupL hl' (SqT.of upd_same))
            · exact ⟨_, us, ls, rfl, kb, hl, hu, hL.skip⟩
        · rintro σ H9 ⟨v9, us, ls, rfl, kb, hl, hu, hL⟩
          exact ⟨_, v9, us, ls, rfl, kb, hl, hu, hL.next⟩
      · rintro σ H9 ⟨v8, v9, us, ls, rfl, kb, hl, hu, hL⟩
        have hn9 := kb _ _ hn7 nnl
        refine ⟨_, rfl, _, rfl, _, rfl, pn, _, _, _, rfl, rfl, SqL.of hn9, atI_ints (j := 6) rfl (by omega), _, _, rfl, rfl, ⟨by decide, by decide⟩, _, _, rfl, rfl, (by show (0 : Int) < 3; decide), by show 4 ≤ sizeLine; decide, fun pe npe => ?_⟩
        have se := same_new (o := .lst [V.int 0, V.int 1, V.int 0, V.int 2]) npe
        refine ⟨_, rfl, pn, _, _, _, rfl, rfl, SqL.of (se _ _ hn9), atI_ints (j := 7) rfl (by omega), _, _, rfl, rfl, (by show (0 : Int) < 4; decide), pe, _, _, _, rfl, rfl, SqL.of upd_same, ee, rfl, rfl, fun x dx nx ndx ne => ?_⟩
        exact fin H9 us ls kb hl hu (hL.ok hI) _ se x dx nx ndx ne er er0 er1
    · refine ⟨_, rfl, _, rfl, _, rfl, pn, _, _, _, rfl, rfl, SqL.of hn8, atI_ints (j := 6) rfl (by omega), _, _, rfl, rfl, ⟨by decide, by decide⟩, _, _, rfl, rfl, (by show (0 : Int) < 3; decide), by show 4 ≤ sizeLine; decide, fun pe npe => ?_⟩
      have se := same_new (o := .lst [V.int 0, V.int 1, V.int 0, V.int 2]) npe
      refine ⟨_, rfl, pn, _, _, _, rfl, rfl, SqL.of (se _ _ hn8), atI_ints (j := 7) rfl (by omega), _, _, rfl, rfl, (by show (0 : Int) < 4; decide), pe, _, _, _, rfl, rfl, SqL.of upd_same, ee, rfl, rfl, fun x dx nx ndx ne => ?_⟩
      exact fin H8 us ls kb8 hl8 hu8 (hH.ok hI) _ se x dx nx ndx ne er er0 er1
end
end My
namespace My
open PySem PySem.Spec PyProof.Rows L2
abbrev sJoined : Stmt := top 31 /-_law_joined-/
abbrev sPaths : Stmt := top 32 /-_law_paths-/
section
variable {P : Program} {w : World} {K : PySem.W.Frag} {mg : Str → Option Value} {base : Heap}
/-! ### _law_joined -/
theorem scJ : FnScope ["net", "a", "b", "first", "second", "ticks"] ["net", "a", "b"] (defScope sJoined) := ⟨rfl, rfl, rfl, by decide +kernel, rfl, by decide +kernel, by decide +kernel⟩
def spJoined (K : PySem.W.Frag) (C : Addr) : Sp := fun vs H Q _ => ∃ (p : Addr) (a b : Nat) (N : NetD), vs = [.ref p, .int (a : Int), .int (b : Int)] ∧ NetAt K C H p N ∧ Q (optV (joined N a b)) H
theorem ok_joined {f C : Addr} {fd : FuncData} {k : Nat} (F : Fun K "_law_joined" "_law_joined" sJoined f fd) (c : NetC K C) : FnOk P w K mg base CX0 (k + 1) f fd ["net", "a", "b"] (spJoined K C) := by
  refine F.ok scJ (fun vs H Q E h => ?_) (fun cdv A outer s H vs Q E hr h => ?_)
  · obtain ⟨p, a, b, N, rfl, _⟩ := h
    rfl
  · obtain ⟨p, a, b, N, rfl, hN, q⟩ := h
    have nd := scJ.nd
    refine ⟨_, pss_cons (ps_for PassesOwn.never rfl (pi_list (pe_fld (pv 0) rfl)) (pg_tup rfl (pgs_cons (pg_name (i := 3) nd rfl (.inl rfl)) (pgs_cons (pg_name (i := 4) nd rfl (.inl rfl)) (pgs_cons (pg_name (i := 5) nd rfl (.inl rfl)) pgs_nil)))) (pss_one (ps_if (PW.pt (pw_or (PW.pt (pw_and (pt_cmpR op_eq (pv 3) (pv 1) (nomark _)) (pw_and1 (pt_cmpR op_eq (pv 4) (pv 2) (nomark _))))) (pw_or1 (PW.pt (pw_and (pt_cmpR op_eq (pv 3) (pv 2) (nomark _)) (pw_and1 (pt_cmpR op_eq (pv 4) (pv 1) (nomark _)))))))) (pss_one (ps_ret (pv 5))) (pss_nil)))) <| pss_one (ps_ret pe_non), ?_⟩
    obtain ⟨dx, lk, ll, ld, ts, e1, e2, e3, e4, e5⟩ := id hN
    have tlen : ts.length = N.ls.length := e4.length
    refine ⟨_, rfl, p, C, dx, _, _, rfl, e1, c.cl, c.n2, g2, ll, rfl, ⟨_, SqL.of e3⟩, for_list (K := K) (a := ll) (xs := ts.map V.ref) (fun i σ H' => ∃ (v3 v4 v5 : Option V), σ = [some (.ref p), some (.int (a : Int)), some (.int (b : Int)), v3, v4, v5] ∧ H' = H ∧ (N.ls.take i).find? (hits a b) = none)
      ⟨none, none, none, rfl, rfl, rfl⟩ (fun i σ H' _ ⟨_, _, _, _, z, _⟩ => by rw [z]; exact SqL.of e3) ?_ ?_⟩
    · rintro i x σ H' hi ⟨v3, v4, v5, rfl, rfl, hf⟩
      rw [List.getElem?_map] at hi
      cases ht : ts[i]? with
      | none => rw [ht] at hi; cases hi
      | some t =>
        rw [ht] at hi
        cases hi
        obtain ⟨l, el, hT⟩ := Paired.at e4 ht
        refine ⟨t, _, rfl, hT, rfl, _, _, rfl, _, _, rfl, _, _, rfl, rfl, ?_⟩
        have eb : (decide (V.int (l.1 : Int) = V.int (a : Int)) && decide (V.int (l.2.1 : Int) = V.int (b : Int)) || decide (V.int (l.1 : Int) = V.int (b : Int)) && decide (V.int (l.2.1 : Int) = V.int (a : Int))) = hits a b l := by
          rw [dec_nat, dec_nat, dec_nat, dec_nat]
          rfl
        refine or_read (a := decide (V.int (l.1 : Int) = V.int (a : Int)) && decide (V.int (l.2.1 : Int) = V.int (b : Int))) (b := decide (V.int (l.1 : Int) = V.int (b : Int)) && decide (V.int (l.2.1 : Int) = V.int (a : Int))) (fun Q q => ?_) (fun Q q => ?_) ?_
        · exact and_read (fun Q q => ⟨_, rfl, _, rfl, rfl, _, rfl, q⟩) (fun _ Q q => ⟨_, rfl, _, rfl, rfl, _, rfl, q⟩) q
        · exact and_read (fun Q q => ⟨_, rfl, _, rfl, rfl, _, rfl, q⟩) (fun _ Q q => ⟨_, rfl, _, rfl, rfl, _, rfl, q⟩) q
        · rw [eb]
          refine ite2 (fun e => ?_) (fun e => ?_)
          · have ej : joined N a b = some l.2.2 := by
              unfold joined
              rw [find_take (hits a b) el hf e]
              rfl
            rw [ej] at q
            exact ⟨_, rfl, q⟩
          · exact ⟨_, _, _, rfl, rfl, find_skip (hits a b) el hf e⟩
    · rintro σ H' ⟨v3, v4, v5, rfl, rfl, hf⟩
      rw [List.length_map, tlen, List.take_length] at hf
      have ej : joined N a b = none := by
        unfold joined
        rw [hf]
        rfl
      rw [ej] at q
      exact q
/-! ### _law_paths -/
theorem scP : FnScope ["net", "most", "found", "rows", "turn", "longer", "row", "b", "a"] ["net", "most"] (defScope sPaths) := ⟨rfl, rfl, rfl, by decide +kernel, rfl, by decide +kernel, by decide +kernel⟩
def spPaths (K : PySem.W.Frag) (C : Addr) : Sp := fun vs H Q _ => ∃ (p : Addr) (m : Nat) (N : NetD), vs = [.ref p, .int ((m : Int) + 1)] ∧ NetAt K C H p N ∧ N.ks.length ≤ 7 ∧ m ≤ 4 ∧
  ∀ (H' : Hp) (pf : Addr) (fs : List Addr), Same H H' → H pf = none → H' pf = some (.lst (fs.map V.ref)) → RowsAt H' fs (foundOf N m) → Q (.ref pf) H'
theorem ok_paths {f C fJ : Addr} {fd fdJ : FuncData} {k : Nat} (F : Fun K "_law_paths" "_law_paths" sPaths f fd) (T : Blt mg) (c : NetC K C) (J : Callee P w K mg base 1 "_law_joined" ["net", "a", "b"] (spJoined K C) fJ fdJ) :
    FnOk P w K mg base CX0 (k + 2) f fd ["net", "most"] (spPaths K C) := by
  refine F.ok scP (fun vs H Q E h => ?_) (fun cdv A outer s H vs Q E hr h => ?_)
  · obtain ⟨p, m, N, rfl, _⟩ := h
    rfl
  · obtain ⟨p, m, N, rfl, hN, hn, hm, q⟩ := h
    have nd := scP.nd
    have hr1 : Room 1 _ := hr.mono (by omega)
    refine ⟨_, pss_cons (ps_set (i := 2) nd rfl (.inl rfl) (pe_lst pa_nil)) <| pss_cons (ps_setLc (i := 3) (own := [("a", 8)]) (g := gName 8) rfl nd rfl rfl (sw_true rfl rfl rfl (by decide +kernel)) (pi_range1 (by rfl) T.range (pa_cons (pe_callB call_len_seq (by rfl) T.len PySem.boot_len (pa_cons (pe_fld (pv 0) rfl) pa_nil)) pa_nil)) (blkOk_by (own := [("a", 8)]) (N := ["net", "most", "found", "rows", "turn", "longer", "row", "b", "a"]) (sc := defScope sPaths) (by decide +kernel)) (fun _ _ _ _ _ => pg_name (i := 8) nd rfl (Or.inl rfl)) (fun _ _ _ _ _ => pts_one (pt_cmpR op_eq (pe_ix (ix_listK (K := K)) (pe_fldK (K := K) (pv 0)) (pv 8) (fun _ _ => rfl)) pe_str (nomark _))) (fun _ _ _ _ _ => (pe_lst (pa_cons (pv 8) pa_nil)))) <| pss_cons (ps_for PassesOwn.never rfl (pi_range1 (by rfl) T.range (pa_cons (pe_op op_sub (pv 1) pe_int) pa_nil)) (pg_name (i := 4) nd rfl (.inl rfl)) (pss_cons (ps_set (i := 5) nd rfl (.inl rfl) (pe_lst pa_nil)) <| pss_cons (ps_for PassesOwn.never rfl (pi_list (pv 3)) (pg_name (i := 6) nd rfl (.inl rfl)) (pss_one (ps_for PassesOwn.never rfl (pi_range1 (by rfl) T.range (pa_cons (pe_callB call_len_seq (by rfl) T.len PySem.boot_len (pa_cons (pe_fld (pv 0) rfl) pa_nil)) pa_nil)) (pg_name (i := 7) nd rfl (.inl rfl)) (pss_one (ps_if (PW.pt (pw_and (pt_cmpR op_notIn_seq (pv 7) (pv 6) rfl) (pw_and1 (pt_cmpR op_notN (pe_call J.ok hr1 (by rfl) J.mg J.kp J.b .nil pass0 (pa_cons (pv 0) (pa_cons (pe_ix ix_list (pv 6) (pe_op op_sub (pe_callB call_len_seq (by rfl) T.len PySem.boot_len (pa_cons (pv 6) pa_nil)) pe_int) (fun _ _ => rfl)) (pa_cons (pv 7) pa_nil)))) pe_non (nomark _))))) (pss_one (ps_if (pt_cmpR op_eq (pe_ix ix_list (pe_fld (pv 0) rfl) (pv 7) (fun _ _ => rfl)) pe_str (nomark _)) (pss_one (ps_expr (pe_bm PySem.F.plainAttrs_list PySem.F.slot_list_append PySem.F.type_list_append mt_append (pv 2) (pa_cons (pe_op op_cat (pv 6) (pe_lst (pa_cons (pv 7) pa_nil))) pa_nil)))) (pss_one (ps_expr (pe_bm PySem.F.plainAttrs_list PySem.F.slot_list_append PySem.F.type_list_append mt_append (pv 5) (pa_cons (pe_op op_cat (pv 6) (pe_lst (pa_cons (pv 7) pa_nil))) pa_nil)))))) (pss_nil)))))) <| pss_one (ps_set (i := 3) nd rfl (.inl rfl) (pv 5)))) <| pss_one (ps_ret (pv 2)), ?_⟩
    have eN := hN
    obtain ⟨dx, lk, ll, ld, ts, e1, e2, e3, e4, e5⟩ := hN
    have en : (N.ks.map kindV).length = N.ks.length := List.length_map ..
    -- found = []
    refine ⟨Nat.zero_le _, fun pf npf => ?_⟩
    have s1 := same_new (o := .lst []) npf
    have hf1 : (upd H pf (.lst [])) pf = some (.lst []) := upd_same
    generalize (upd H pf (.lst [])) = H1 at s1 hf1 ⊢
    -- rows = [[a] for a in range(len(net.kinds)) if net.kinds[a] == "host"]
    refine ⟨_, rfl, p, C, dx, _, _, rfl, s1 _ _ e1, c.cl, c.n1, g1, lk, _, rfl, .inl (SqL.of (s1 _ _ e2)), _, rfl, by omega, by omega, fun D nD => ?_⟩
    have nfD : pf ≠ D := ne_of_none hf1 nD
    refine lc_range (lo := 0) (n := (N.ks.map kindV).length) (fun i H' => Same H H' ∧ H' pf = some (.lst []) ∧ ∃ rs : List Addr, H' D = some (.lst (rs.map V.ref)) ∧ RowsAt H' rs (((List.range i).filter (host N)).map fun a => [a]) ∧ rs.length ≤ i)
      ⟨s1.trans (same_new nD), by rw [upd_ne nfD]; exact hf1, [], upd_same, .nil, Nat.le_refl _⟩ ?_ ?_
    · rintro i H' hi ⟨sm, hf, rs, hD, hR, hl⟩
      rw [en] at hi
      rw [Int.zero_add]
      refine ⟨rfl, ?_⟩
      refine ⟨_, rfl, p, C, dx, _, _, rfl, sm _ _ e1, c.cl, c.n1, g1, _, rfl, lk, _, _, _, rfl, rfl, SqL.of (sm _ _ e2), atI_kind rfl hi, rfl, _, rfl, ?_⟩
      have eb : decide (kindV (N.ks.getD i true) = V.str "host") = host N i := by
        unfold host
        cases N.ks.getD i true <;> decide +kernel
      rw [eb]
      refine ite2 (fun e => ?_) (fun e => ?_)
      · refine ⟨_, rfl, by show 1 ≤ sizeLine; decide, fun t nt => ?_⟩
        have st := same_new (o := .lst [V.int (i : Int)]) nt
        have hD' := st _ _ hD
        refine ⟨_, hD', szl (by rw [List.length_map]; omega), ?_⟩
        have kb : But D (upd H' t (.lst [V.int (i : Int)])) (upd (upd H' t (.lst [V.int (i : Int)])) D (.lst (rs.map V.ref ++ [V.ref t]))) := but_self
        have ntD : t ≠ D := fun z => by rw [z, hD] at nt; cases nt
        refine ⟨same_but (sm.trans st) (s1.free nD) kb, kb _ _ (st _ _ hf) nfD, rs ++ [t], ?_, ?_, by rw [List.length_append, List.length_singleton]; omega⟩
        · rw [upd_same, List.map_append]
          rfl
        · rw [filt_succ, if_pos e]
          refine RowsAt.snoc ((hR.same st).but hD' kb) (by simp) ?_
          rw [upd_ne ntD, upd_same]
          rfl
      · refine ⟨sm, hf, rs, hD, ?_, by omega⟩
        rw [filt_succ, if_neg e, List.append_nil]
        exact hR
    rintro H2 ⟨s2, hf2, rs, hD2, hR2, _⟩
    rw [en] at hR2
    -- the turns
    refine ⟨_, rfl, _, _, rfl, rfl, (m : Int) + 1 - 1, rfl, by omega, by omega, for_range (n := ((m : Int) + 1 - 1).toNat) (fun t σ H' => ∃ (pr : Addr) (rs fs : List Addr) (v4 v5 v6 v7 v8 : Option V), σ = [some (.ref p), some (.int ((m : Int) + 1)), some (.ref pf), some (.ref pr), v4, v5, v6, v7, v8] ∧
      Same H H' ∧ pr ≠ pf ∧ H' pf = some (.lst (fs.map V.ref)) ∧ RowsAt H' fs (foundOf N t) ∧ H' pr = some (.lst (rs.map V.ref)) ∧ RowsAt H' rs (rowsOf N t))
      ⟨D, rs, [], _, _, _, _, _, rfl, s2, nfD.symm, hf2, .nil, hD2, hR2⟩ ?_ ?_⟩
    · rintro t σ H3 ht ⟨pr, rs, fs, v4, v5, v6, v7, v8, rfl, s3, nrf, hf3, hF3, hr3, hR3⟩
      have ht4 : t < 4 := by omega
      have lrs : rs.length = (rowsOf N t).length := hR3.length
      have lfs : fs.length = (foundOf N t).length := hF3.length
      have b1 := rows_len N hn t
      have b2 := found_len N hn t
      have b3 : 8 ^ (t + 1) ≤ 8 ^ 4 := Nat.pow_le_pow_right (by decide) (by omega)
      have b4 : (8 : Nat) ^ 4 = 4096 := by decide
      -- longer = []
      refine ⟨Nat.zero_le _, fun pl npl => ?_⟩
      have s4 := same_new (o := .lst []) npl
      have nfl : pf ≠ pl := ne_of_none hf3 npl
      have nrl : pr ≠ pl := ne_of_none hr3 npl
      have nplH := s3.free npl
      have hl4 : (upd H3 pl (.lst [])) pl = some (.lst []) := upd_same
      have hf4 := s4 _ _ hf3
      have hr4 := s4 _ _ hr3
      have hF4 := hF3.same s4
      have hR4 := hR3.same s4
      have S4 := s3.trans s4
      generalize (upd H3 pl (.lst [])) = H4 at s4 hl4 hf4 hr4 hF4 hR4 S4 ⊢
      -- for row in rows
      refine ⟨_, rfl, pr, rfl, ⟨_, SqL.of hr4⟩, for_list (K := K) (a := pr) (xs := rs.map V.ref) (fun i σ H' => ∃ (fs ls : List Addr) (v6 v7 : Option V), σ = [some (.ref p), some (.int ((m : Int) + 1)), some (.ref pf), some (.ref pr), some (.int (0 + (t : Int))), some (.ref pl), v6, v7, v8] ∧
        Same H H' ∧ H' pf = some (.lst (fs.map V.ref)) ∧ RowsAt H' fs (foundOf N t ++ ((rowsOf N t).take i).flatMap (exH N)) ∧ H' pl = some (.lst (ls.map V.ref)) ∧ RowsAt H' ls (((rowsOf N t).take i).flatMap (exS N)) ∧ H' pr = some (.lst (rs.map V.ref)) ∧ RowsAt H' rs (rowsOf N t))
        ⟨fs, [], v6, v7, rfl, S4, hf4, by simpa using hF4, hl4, .nil, hr4, hR4⟩ (fun i σ H' _ ⟨_, _, _, _, _, _, _, _, _, _, z, _⟩ => SqL.of z) ?_ ?_⟩
      · rintro i x σ H5 hi ⟨fs, ls, v6, v7, rfl, s5, hf5, hF5, hl5, hL5, hr5, hR5⟩
        rw [List.getElem?_map] at hi
        cases htr : rs[i]? with
        | none => rw [htr] at hi; cases hi
        | some ra =>
          rw [htr] at hi
          cases hi
          obtain ⟨row, erow, rne, hrow⟩ := Paired.at hR5 htr
          have hii : i < (rowsOf N t).length := (List.getElem?_eq_some_iff.mp erow).1
          have f1 := len_flat (exH N) 7 (fun a => Nat.le_trans (exH_len N a) hn) ((rowsOf N t).take i)
          have f2 := len_flat (exS N) 7 (fun a => Nat.le_trans (exS_len N a) hn) ((rowsOf N t).take i)
          have f3 : ((rowsOf N t).take i).length ≤ 4096 := by rw [List.length_take]; omega
          refine ⟨_, rfl, p, C, dx, _, _, rfl, s5 _ _ e1, c.cl, c.n1, g1, lk, _, rfl, .inl (SqL.of (s5 _ _ e2)), _, rfl, by omega, by omega, for_range (n := (N.ks.map kindV).length) (fun j σ H' => ∃ (fs ls : List Addr) (v7 : Option V), σ = [some (.ref p), some (.int ((m : Int) + 1)), some (.ref pf), some (.ref pr), some (.int (0 + (t : Int))), some (.ref pl), some (.ref ra), v7, v8] ∧
            Same H H' ∧ H' pf = some (.lst (fs.map V.ref)) ∧ RowsAt H' fs (foundOf N t ++ ((rowsOf N t).take i).flatMap (exH N) ++ ((List.range j).filter fun b => okb N row b && host N b).map fun b => row ++ [b]) ∧
            H' pl = some (.lst (ls.map V.ref)) ∧ RowsAt H' ls (((rowsOf N t).take i).flatMap (exS N) ++ ((List.range j).filter fun b => okb N row b && !host N b).map fun b => row ++ [b]) ∧ H' pr = some (.lst (rs.map V.ref)) ∧ RowsAt H' rs (rowsOf N t) ∧ H' ra = some (.lst (natsV row)))
            ⟨fs, ls, v7, rfl, s5, hf5, by simpa using hF5, hl5, by simpa using hL5, hr5, hR5, hrow⟩ ?_ ?_⟩
          · rintro j σ H6 hj ⟨fs, ls, v7, rfl, s6, hf6, hF6, hl6, hL6, hr6, hR6, hrow6⟩
            rw [en] at hj
            rw [Int.zero_add]
            have lf := hF6.length
            have ll' := hL6.length
            rw [List.length_append, List.length_append, List.length_map] at lf
            rw [List.length_append, List.length_map] at ll'
            have lq1 := List.length_filter_le (fun b => okb N row b && host N b) (List.range j)
            have lq2 := List.length_filter_le (fun b => okb N row b && !host N b) (List.range j)
            rw [List.length_range] at lq1 lq2
            have rl : 0 < row.length := List.length_pos_iff.mpr rne
            have rlc : row.length ≤ 100 := by rw [rows_row N t row (List.mem_of_getElem? erow)]; omega
            have elast : atI (natsV row) (((natsV row).length : Int) - 1) = some (.int ((lastN row : Nat) : Int)) := by
              have h1 : row.length - 1 < row.length := by omega
              have h2 : (((natsV row).length : Int) - 1) = ((row.length - 1 : Nat) : Int) := by rw [natsV_len]; omega
              rw [h2]
              exact atI_nat (natsV_at (getD_at 0 h1))
            refine and_read (a := !(row.contains j)) (b := adj N (lastN row) j) (fun Q q => ?_) (fun _ Q q => ?_) ?_
            · refine ⟨_, rfl, _, rfl, ra, natsV row, rfl, .inl (SqL.of hrow6), rfl, natsV_flat row, _, rfl, ?_⟩
              show Q (!inV (V.int (j : Int)) (natsV row)) H6
              rw [natsV_in]
              exact q
            · refine ⟨_, rfl, _, rfl, _, rfl, ra, _, rfl, .inl (SqL.of hrow6), _, _, rfl, rfl, ra, _, _, _, rfl, rfl, SqL.of hrow6, elast, _, rfl, p, lastN row, j, N, rfl, eN.same s6, ?_⟩
              refine ⟨rfl, _, rfl, ?_⟩
              rw [optV_non, joined_some]
              exact q
            · show (if okb N row j = true then _ else _)
              refine ite2 (fun e => ?_) (fun e => ?_)
              · have eb : decide (kindV (N.ks.getD j true) = V.str "host") = host N j := by
                  unfold host
                  cases N.ks.getD j true <;> decide +kernel
                refine ⟨_, rfl, p, C, dx, _, _, rfl, s6 _ _ e1, c.cl, c.n1, g1, _, rfl, lk, _, _, _, rfl, rfl, SqL.of (s6 _ _ e2), atI_kind rfl hj, rfl, _, rfl, ?_⟩
                rw [eb]
                refine ite2 (fun eh => ?_) (fun eh => ?_)
                · refine ⟨_, rfl, .inl ⟨rfl, _, SqL.of hf6⟩, _, rfl, _, rfl, by show 1 ≤ sizeLine; decide, fun u nu => ?_⟩
                  have su := same_new (o := .lst [V.int (j : Int)]) nu
                  refine ⟨ra, u, _, _, rfl, rfl, su _ _ hrow6, upd_same, sz (by rw [natsV_len]; show row.length + 1 ≤ 100000; omega), fun y ny => ?_⟩
                  have sy := same_new (o := .lst (natsV row ++ [V.int (j : Int)])) ny
                  have suy := su.trans sy
                  refine ⟨pf, _, _, rfl, rfl, suy _ _ hf6, szl (by rw [List.length_map]; omega), ?_⟩
                  have hy : (upd (upd H6 u (.lst [V.int (j : Int)])) y (.lst (natsV row ++ [V.int (j : Int)]))) y = some (.lst (natsV (row ++ [j]))) := by rw [upd_same, natsV_app]
                  have nyf : y ≠ pf := fun z => by rw [z, su _ _ hf6] at ny; cases ny
                  generalize (upd (upd H6 u (.lst [V.int (j : Int)])) y (.lst (natsV row ++ [V.int (j : Int)]))) = H7 at suy hy ⊢
                  have kb : But pf H7 (upd H7 pf (.lst (fs.map V.ref ++ [V.ref y]))) := but_self
                  have hf7 := suy _ _ hf6
                  refine ⟨fs ++ [y], ls, _, rfl, same_but (s6.trans suy) npf kb, by rw [upd_same, List.map_append]; rfl, ?_, kb _ _ (suy _ _ hl6) nfl.symm, ?_, kb _ _ (suy _ _ hr6) nrf, (hR6.same suy).but hf7 kb, kb _ _ (suy _ _ hrow6) (row_ne rne (suy _ _ hrow6) hf7)⟩
                  · rw [filt_succ, if_pos (by rw [e, eh]; rfl), ← List.append_assoc]
                    exact RowsAt.snoc ((hF6.same suy).but hf7 kb) (by simp) (kb _ _ hy nyf)
                  · rw [filt_succ, if_neg (by rw [e, eh]; decide), List.append_nil]
                    exact (hL6.same suy).but hf7 kb
                · have eh' : host N j = false := Bool.eq_false_iff.mpr eh
                  refine ⟨_, rfl, .inl ⟨rfl, _, SqL.of hl6⟩, _, rfl, _, rfl, by show 1 ≤ sizeLine; decide, fun u nu => ?_⟩
                  have su := same_new (o := .lst [V.int (j : Int)]) nu
                  refine ⟨ra, u, _, _, rfl, rfl, su _ _ hrow6, upd_same, sz (by rw [natsV_len]; show row.length + 1 ≤ 100000; omega), fun y ny => ?_⟩
                  have sy := same_new (o := .lst (natsV row ++ [V.int (j : Int)])) ny
                  have suy := su.trans sy
                  refine ⟨pl, _, _, rfl, rfl, suy _ _ hl6, szl (by rw [List.length_map]; omega), ?_⟩
                  have hy : (upd (upd H6 u (.lst [V.int (j : Int)])) y (.lst (natsV row ++ [V.int (j : Int)]))) y = some (.lst (natsV (row ++ [j]))) := by rw [upd_same, natsV_app]
                  have nyl : y ≠ pl := fun z => by rw [z, su _ _ hl6] at ny; cases ny
                  generalize (upd (upd H6 u (.lst [V.int (j : Int)])) y (.lst (natsV row ++ [V.int (j : Int)]))) = H7 at suy hy ⊢
                  have kb : But pl H7 (upd H7 pl (.lst (ls.map V.ref ++ [V.ref y]))) := but_self
                  have hl7 := suy _ _ hl6
                  refine ⟨fs, ls ++ [y], _, rfl, same_but (s6.trans suy) nplH kb, kb _ _ (suy _ _ hf6) nfl, ?_, by rw [upd_same, List.map_append]; rfl, ?_, kb _ _ (suy _ _ hr6) nrl, (hR6.same suy).but hl7 kb, kb _ _ (suy _ _ hrow6) (row_ne rne (suy _ _ hrow6) hl7)⟩
                  · rw [filt_succ, if_neg (by rw [e, eh']; decide), List.append_nil]
                    exact (hF6.same suy).but hl7 kb
                  · rw [filt_succ, if_pos (by rw [e, eh']; rfl), ← List.append_assoc]
                    exact RowsAt.snoc ((hL6.same suy).but hl7 kb) (by simp) (kb _ _ hy nyl)
              · have e' : okb N row j = false := Bool.eq_false_iff.mpr e
                refine ⟨fs, ls, _, rfl, s6, hf6, ?_, hl6, ?_, hr6, hR6, hrow6⟩
                · rw [filt_succ, if_neg (by rw [e']; simp), List.append_nil]
                  exact hF6
                · rw [filt_succ, if_neg (by rw [e']; simp), List.append_nil]
                  exact hL6
          · rintro σ H6 ⟨fs, ls, v7, rfl, s6, hf6, hF6, hl6, hL6, hr6, hR6, hrow6⟩
            rw [en] at hF6 hL6
            refine ⟨fs, ls, _, v7, rfl, s6, hf6, ?_, hl6, ?_, hr6, hR6⟩
            · rw [flat_take (exH N) erow, ← List.append_assoc]
              exact hF6
            · rw [flat_take (exS N) erow]
              exact hL6
      · rintro σ H5 ⟨fs, ls, v6, v7, rfl, s5, hf5, hF5, hl5, hL5, hr5, hR5⟩
        rw [List.length_map, lrs, List.take_length] at hF5 hL5
        refine ⟨_, rfl, pl, ls, fs, _, _, _, _, _, rfl, s5, nfl.symm, hf5, hF5, hl5, hL5⟩
    · rintro σ H3 ⟨pr, rs, fs, v4, v5, v6, v7, v8, rfl, s3, nrf, hf3, hF3, hr3, hR3⟩
      have em : ((m : Int) + 1 - 1).toNat = m := by omega
      rw [em] at hF3
      exact ⟨_, rfl, q H3 pf fs s3 npf hf3 hF3⟩
end
end My
namespace My
open PySem PySem.Spec PyProof.Rows L2
abbrev sDelay : Stmt := inClass sNet 2 /-Net.delay-/
abbrev sPorts : Stmt := top 3 /-ports_of-/
theorem u65 {k : Nat} {A : Around} (r : Room k A) : A.units + 65 < cLine := by
  have := r.un
  omega
theorem cut1 (xs : List V) : cutV xs (some 1) none = xs.drop 1 := by
  unfold cutV
  have e1 : HT.sIx xs.length 0 (some 1) = min 1 xs.length := HT.sIx_nat _ _ 1
  rw [e1, HT.sIx_none]
  cases xs with
  | nil => rfl
  | cons x r =>
    rw [List.length_cons, Nat.min_eq_left (by omega)]
    show (r.take (r.length + 1 - 1)) = r
    rw [Nat.add_sub_cancel, List.take_length]
theorem natsV_drop (r : List Nat) (n : Nat) : (natsV r).drop n = natsV (r.drop n) := by
  unfold natsV
  rw [List.map_drop]
theorem natsV_take (r : List Nat) (n : Nat) : (natsV r).take n = natsV (r.take n) := by
  unfold natsV
  rw [List.map_take]
theorem zip_ports {K : PySem.W.Frag} {H : Hp} : ∀ {a b : List Nat} {ts : List Addr}, Paired (fun (t : Addr) (z : V × V) => H t = some (.tup [z.1, z.2])) ts ((natsV a).zip (natsV b)) → PairsAt K H ts (a.zip b)
  | [], _, _, h => by
    cases h
    exact .nil
  | x :: a, [], _, h => by
    cases h
    exact .nil
  | x :: a, y :: b, _, h => by
    cases h with
    | cons r t => exact .cons (SqT.of r) (zip_ports t)
theorem nats_at {r : List Nat} {i : Nat} {x : V} (h : (natsV r)[i]? = some x) : ∃ n, r[i]? = some n ∧ x = .int (n : Int) := by
  unfold natsV at h
  rw [List.getElem?_map] at h
  cases e : r[i]? with
  | none => rw [e] at h; cases h
  | some n => rw [e] at h; exact ⟨n, rfl, (Option.some.inj h).symm⟩
section
variable {P : Program} {w : World} {K : PySem.W.Frag} {mg : Str → Option Value} {base : Heap}
structure MethOf (P : Program) (w : World) (K : PySem.W.Frag) (mg : Str → Option Value) (base : Heap) (k : Nat) (ps : List Str) (sp : Sp) (f : Addr) (fd : FuncData) : Prop where
  ok : FnOk P w K mg base CX0 k f fd ps sp
  b : Binds K fd ps []
/-! ### Net.delay -/
theorem scDelay : FnScope ["self", "a", "b"] ["self", "a", "b"] (defScope sDelay) := ⟨rfl, rfl, rfl, by decide +kernel, rfl, by decide +kernel, by decide +kernel⟩
def spDelay (K : PySem.W.Frag) (C : Addr) : Sp := fun vs H Q _ => ∃ (p : Addr) (a b : Nat) (N : NetD), vs = [.ref p, .int (a : Int), .int (b : Int)] ∧ NetAt K C H p N ∧ Dist N.ls ∧ ∀ H' : Hp, Same H H' → Q (optV (joined N a b)) H'
theorem ok_delay {f C : Addr} {fd : FuncData} {k : Nat} (F : Fun K "delay" "Net.delay" sDelay f fd) (c : NetC K C) : FnOk P w K mg base CX0 (k + 1) f fd ["self", "a", "b"] (spDelay K C) := by
  refine F.ok scDelay (fun vs H Q E h => ?_) (fun cdv A outer s H vs Q E hr h => ?_)
  · obtain ⟨p, a, b, N, rfl, _⟩ := h
    rfl
  · obtain ⟨p, a, b, N, rfl, hN, hD, q⟩ := h
    have nd := scDelay.nd
    have hu := hu_of hr
    refine ⟨_, pss_one (ps_ret (pe_dget1 hu (pe_fld (pv 0) rfl) (pe_tup (pa_cons (pv 1) (pa_cons (pv 2) pa_nil))) ⟨rfl, rfl, rfl, rfl⟩)), ?_⟩
    obtain ⟨dx, lk, ll, ld, ts, e1, e2, e3, e4, e5⟩ := hN
    refine ⟨_, rfl, p, C, dx, _, _, rfl, e1, c.cl, c.n5, g5, ld, rfl, .inr ⟨_, .inl e5⟩, _, rfl, _, rfl, by show 2 ≤ sizeLine; decide, fun t nt => ?_⟩
    have st := same_new (o := .tup [V.int (a : Int), V.int (b : Int)]) nt
    refine ⟨valV (delaysOf N.ls) (key2 a b), DGet.t (st _ _ e5) (k := key2 a b) (by rw [upd_same]; rfl), ?_⟩
    rw [val_joined hD]
    exact q _ st
/-! ### ports_of -/
theorem scPo : FnScope ["path"] ["path"] (defScope sPorts) := ⟨rfl, rfl, rfl, by decide +kernel, rfl, by decide +kernel, by decide +kernel⟩
def spPo (K : PySem.W.Frag) : Sp := fun vs H Q _ => ∃ (l : Addr) (r : List Nat), vs = [.ref l] ∧ H l = some (.lst (natsV r)) ∧ ∀ (H' : Hp) (D : Addr) (ts : List Addr), Same H H' → H D = none → H' D = some (.lst (ts.map V.ref)) → PairsAt K H' ts (portsOf r) → Q (.ref D) H'
theorem ok_ports {f : Addr} {fd : FuncData} {k : Nat} (F : Fun K "ports_of" "ports_of" sPorts f fd) (T : Blt mg) (hzip : mg "zip" = none) : FnOk P w K mg base CX0 (k + 1) f fd ["path"] (spPo K) := by
  refine F.ok scPo (fun vs H Q E h => ?_) (fun cdv A outer s H vs Q E hr h => ?_)
  · obtain ⟨l, r, rfl, _⟩ := h
    rfl
  · obtain ⟨l, r, rfl, hl, q⟩ := h
    have nd := scPo.nd
    refine ⟨_, pss_one (ps_ret (Zl.pe_listZip rfl (pa_cons (pv 0) (pa_cons (pe_slice sl_list (pv 0) (po_some pe_int) po_none) pa_nil)) (by rfl) T.list (by rfl) hzip)), ?_⟩
    refine ⟨_, rfl, _, rfl, _, rfl, l, _, rfl, SqL.of hl, fun y ny => ?_⟩
    have sy := same_new (o := .lst (cutV (natsV r) (some 1) none)) ny
    rw [cut1, natsV_drop] at *
    refine ⟨l, y, natsV r, natsV (r.drop 1), rfl, SqL.of (sy _ _ hl), SqL.of upd_same, fun H' p ts sm np hp hP => ?_⟩
    exact q H' p ts (sy.trans sm) (sy.free np) hp (zip_ports hP)
end
end My
/-! Streams and entries as data, how the heap bears them. No row. -/
namespace My
open PySem PySem.Spec PyProof.Rows L2
theorem Paired.imp2 {α β : Type} {F G : α → β → Prop} {p : β → Prop} : ∀ {l1 : List α} {l2 : List β}, Paired F l1 l2 → (∀ b ∈ l2, p b) → (∀ a b, F a b → p b → G a b) → Paired G l1 l2
  | _, _, .nil, _, _ => .nil
  | _, _, .cons r t, h, f => .cons (f _ _ r (h _ List.mem_cons_self)) (Paired.imp2 t (fun b hb => h b (List.mem_cons_of_mem _ hb)) f)
structure StrD where
  pe : Int
  ln : Int
  dl : Int
  path : List Nat
deriving DecidableEq
structure EntD where
  s : StrD
  os : List Int
deriving DecidableEq
def stF (pe ln dl : Int) (lp : Addr) : List (Str × V) := [("period", .int pe), ("length", .int ln), ("deadline", .int dl), ("path", .ref lp)]
theorem sf1 {pe : Int} : putF "period" (.int pe) [] = [(("period" : Str), V.int pe)] := rfl
theorem sf2 {pe ln : Int} : putF "length" (.int ln) [(("period" : Str), V.int pe)] = [(("period" : Str), V.int pe), ("length", .int ln)] := putF_new rfl
theorem sf3 {pe ln dl : Int} : putF "deadline" (.int dl) [(("period" : Str), V.int pe), ("length", .int ln)] = [(("period" : Str), V.int pe), ("length", .int ln), ("deadline", .int dl)] := putF_new rfl
theorem sf4 {pe ln dl : Int} {lp : Addr} : putF "path" (.ref lp) [(("period" : Str), V.int pe), ("length", .int ln), ("deadline", .int dl)] = stF pe ln dl lp := putF_new rfl
section
variable {pe ln dl : Int} {lp : Addr}
theorem sg1 : (stF pe ln dl lp).lookup ("period" : Str) = some (.int pe) := rfl
theorem sg2 : (stF pe ln dl lp).lookup ("length" : Str) = some (.int ln) := rfl
theorem sg3 : (stF pe ln dl lp).lookup ("deadline" : Str) = some (.int dl) := rfl
theorem sg4 : (stF pe ln dl lp).lookup ("path" : Str) = some (.ref lp) := rfl
end
/-- the class Stream's facts -/
structure StrC (K : PySem.W.Frag) (C : Addr) : Prop where
  cl : Cls K C
  n1 : NoAttr K C "period"
  n2 : NoAttr K C "length"
  n3 : NoAttr K C "deadline"
  n4 : NoAttr K C "path"
/-- a Stream stands at p -/
def StreamAt (C : Addr) (H : Hp) (p : Addr) (s : StrD) : Prop := ∃ dx lp, H p = some (.ins C dx (stF s.pe s.ln s.dl lp)) ∧ H lp = some (.lst (natsV s.path))
theorem StreamAt.same {C : Addr} {H H' : Hp} {p : Addr} {s : StrD} (h : StreamAt C H p s) (e : Same H H') : StreamAt C H' p s := by
  obtain ⟨dx, lp, h1, h2⟩ := h
  exact ⟨dx, lp, e _ _ h1, e _ _ h2⟩
/-- .. its list is new -/
def StreamNew (C : Addr) (H H' : Hp) (p : Addr) (s : StrD) : Prop := ∃ dx lp, H' p = some (.ins C dx (stF s.pe s.ln s.dl lp)) ∧ H' lp = some (.lst (natsV s.path)) ∧ H lp = none
theorem StreamNew.at {C : Addr} {H H' : Hp} {p : Addr} {s : StrD} (h : StreamNew C H H' p s) : StreamAt C H' p s := by
  obtain ⟨dx, lp, h1, h2, _⟩ := h
  exact ⟨dx, lp, h1, h2⟩
/-- an entry stands at t -/
def EntAt (K : PySem.W.Frag) (C : Addr) (H : Hp) (t : Addr) (e : EntD) : Prop := ∃ p lo, SqT K H t [.ref p, .ref lo] ∧ StreamAt C H p e.s ∧ SqL K H lo (e.os.map V.int)
theorem EntAt.same {K : PySem.W.Frag} {C : Addr} {H H' : Hp} {t : Addr} {e : EntD} (h : EntAt K C H t e) (sm : Same H H') : EntAt K C H' t e := by
  obtain ⟨p, lo, h1, h2, h3⟩ := h
  exact ⟨p, lo, same_tup sm h1, h2.same sm, sm.seq h3⟩
/-- the entries of a plan -/
abbrev EntsAt (K : PySem.W.Frag) (C : Addr) (H : Hp) (ts : List Addr) (es : List EntD) : Prop := Paired (fun (t : Addr) (e : EntD) => EntAt K C H t e) ts es
theorem EntsAt.same {K : PySem.W.Frag} {C : Addr} {H H' : Hp} {ts : List Addr} {es : List EntD} (h : EntsAt K C H ts es) (e : Same H H') : EntsAt K C H' ts es := Paired.imp h fun _ _ q => q.same e
/-- the ticks from the first one at a port to the node behind it -/
def travel (N : NetD) (s : StrD) (h : Nat) : Int := s.ln + (joined N (s.path.getD h 0) (s.path.getD (h + 1) 0)).getD 0 + (if host N (s.path.getD (h + 1) 0) then 0 else N.pr)
def arr (N : NetD) (e : EntD) (h : Nat) : Int := e.os.getD h 0 + travel N e.s h
def winOf (e : EntD) (h : Nat) : Win := (e.os.getD h 0, e.s.ln, e.s.pe)
/-- its path is one of the net -/
structure PathOk (N : NetD) (s : StrD) : Prop where
  is : IsP N s.path
  lt : ∀ x ∈ s.path, x < N.ks.length
  le : s.path.length ≤ 10
theorem PathOk.joined {N : NetD} {s : StrD} (h : PathOk N s) {k : Nat} (hk : k + 1 < s.path.length) : ∃ d, joined N (s.path.getD k 0) (s.path.getD (k + 1) 0) = some d := by
  have := joined_some N (s.path.getD k 0) (s.path.getD (k + 1) 0)
  rw [h.is.ad k hk] at this
  exact Option.isSome_iff_exists.mp this
theorem PathOk.ltk {N : NetD} {s : StrD} (h : PathOk N s) {k : Nat} (hk : k < s.path.length) : s.path.getD k 0 < N.ks.length := h.lt _ (getD_in hk)
end My
namespace My
open PySem PySem.Spec PyProof.Rows L2
abbrev sStream : Stmt := top 5 /-Stream-/
abbrev sSInit : Stmt := inClass sStream 0 /-Stream.__init__-/
abbrev sWinOf : Stmt := top 6 /-window_of-/
abbrev sArr : Stmt := top 7 /-arrival_of-/
abbrev sTravel : Stmt := top 9 /-travel_of-/
section
variable {P : Program} {w : World} {K : PySem.W.Frag} {mg : Str → Option Value} {base : Heap}
/-! ### Stream.__init__ -/
theorem scSInit : FnScope ["self", "period", "length", "deadline", "path"] ["self", "period", "length", "deadline", "path"] (defScope sSInit) := ⟨rfl, rfl, rfl, by decide +kernel, rfl, by decide +kernel, by decide +kernel⟩
def spSInit (K : PySem.W.Frag) (C : Addr) : Sp := fun vs H Q _ => ∃ (p dx l0 : Addr) (s : StrD), vs = [.ref p, .int s.pe, .int s.ln, .int s.dl, .ref l0] ∧ H p = some (.ins C dx []) ∧ SqL K H l0 (natsV s.path) ∧
  ∀ H', (∀ b o, H b = some o → b ≠ p → H' b = some o) → StreamNew C H H' p s → Q .non H'
theorem ok_sinit {f C : Addr} {fd : FuncData} {k : Nat} (F : Fun K "__init__" "Stream.__init__" sSInit f fd) (T : Blt mg) (c : StrC K C) : FnOk P w K mg base CX0 (k + 1) f fd ["self", "period", "length", "deadline", "path"] (spSInit K C) := by
  refine F.ok scSInit (fun vs H Q E h => ?_) (fun cdv A outer s H vs Q E hr h => ?_)
  · obtain ⟨p, dx, l0, s, rfl, _⟩ := h
    rfl
  · obtain ⟨p, dx, l0, s, rfl, hp, h0, q⟩ := h
    have nd := scSInit.nd
    refine ⟨_, PSs.nox (pss_cons (ps_fld (pv 0) (pv 1) rfl) <| pss_cons (ps_fld (pv 0) (pv 2) rfl) <| pss_cons (ps_fld (pv 0) (pv 3) rfl) <| pss_one (ps_fld (pv 0) (pe_callTy call_list_of (by rfl) T.list (by decide +kernel) (pa_cons (pv 4) pa_nil)) rfl)), ?_⟩
    refine ⟨_, rfl, _, rfl, p, C, dx, [], rfl, hp, c.cl, c.n1, (by show 0 < 1000; decide), ?_⟩
    refine ⟨_, rfl, _, rfl, p, C, dx, _, rfl, upd_same, c.cl, c.n2, (by rw [sf1]; show 1 < 1000; decide), ?_⟩
    refine ⟨_, rfl, _, rfl, p, C, dx, _, rfl, upd_same, c.cl, c.n3, (by rw [sf1, sf2]; show 2 < 1000; decide), ?_⟩
    rw [sf1, sf2, sf3]
    have k3 : But p H (upd (upd (upd H p (.ins C dx [(("period" : Str), V.int s.pe)])) p (.ins C dx [(("period" : Str), V.int s.pe), ("length", .int s.ln)])) p (.ins C dx [(("period" : Str), V.int s.pe), ("length", .int s.ln), ("deadline", .int s.dl)])) := (but_self.trans but_self).trans but_self
    have p3 : (upd (upd (upd H p (.ins C dx [(("period" : Str), V.int s.pe)])) p (.ins C dx [(("period" : Str), V.int s.pe), ("length", .int s.ln)])) p (.ins C dx [(("period" : Str), V.int s.pe), ("length", .int s.ln), ("deadline", .int s.dl)])) p = some (.ins C dx [(("period" : Str), V.int s.pe), ("length", .int s.ln), ("deadline", .int s.dl)]) := upd_same
    generalize (upd (upd (upd H p (.ins C dx [(("period" : Str), V.int s.pe)])) p (.ins C dx [(("period" : Str), V.int s.pe), ("length", .int s.ln)])) p (.ins C dx [(("period" : Str), V.int s.pe), ("length", .int s.ln), ("deadline", .int s.dl)])) = H3 at k3 p3 ⊢
    refine ⟨_, rfl, l0, _, rfl, .inl (k3.seq hp h0), fun lp nl => ?_⟩
    have npl : p ≠ lp := ne_of_none p3 nl
    refine ⟨_, rfl, p, C, dx, _, rfl, (by rw [upd_ne npl]; exact p3), c.cl, c.n4, (by show 3 < 1000; decide), ?_⟩
    rw [sf4]
    have nlH : H lp = none := by
      cases e : H lp with
      | none => rfl
      | some o =>
        have z := k3 _ _ e npl.symm
        rw [nl] at z
        cases z
    refine q _ (k3.trans (but_new nl)) ⟨dx, lp, upd_same, ?_, nlH⟩
    rw [upd_ne npl.symm, upd_same]
/-- how a Stream is made -/
structure StrMk (P : Program) (w : World) (K : PySem.W.Frag) (mg : Str → Option Value) (base : Heap) (C f : Addr) (fd : FuncData) : Prop where
  ok : FnOk P w K mg base CX0 1 f fd ["self", "period", "length", "deadline", "path"] (spSInit K C)
  mg : mg "Stream" = some (.ref C)
  mkC : Mk K C f
  b : Binds K fd ["self", "period", "length", "deadline", "path"] []
  kp : PySem.W.keepIn K (.ref C) = true
/-! ### window_of -/
theorem scWinOf : FnScope ["entry", "hop", "stream", "offsets"] ["entry", "hop"] (defScope sWinOf) := ⟨rfl, rfl, rfl, by decide +kernel, rfl, by decide +kernel, by decide +kernel⟩
def spWinOf (K : PySem.W.Frag) (C : Addr) : Sp := fun vs H Q _ => ∃ (t : Addr) (e : EntD) (h : Nat), vs = [.ref t, .int (h : Int)] ∧ EntAt K C H t e ∧ h < e.os.length ∧ ∀ (H' : Hp) (u : Addr), Same H H' → H u = none → H' u = some (.tup (winV (winOf e h))) → Q (.ref u) H'
theorem ok_winof {f C : Addr} {fd : FuncData} {k : Nat} (F : Fun K "window_of" "window_of" sWinOf f fd) (c : StrC K C) : FnOk P w K mg base CX0 (k + 1) f fd ["entry", "hop"] (spWinOf K C) := by
  refine F.ok scWinOf (fun vs H Q E h => ?_) (fun cdv A outer s H vs Q E hr h => ?_)
  · obtain ⟨t, e, h, rfl, _⟩ := h
    rfl
  · obtain ⟨t, e, h, rfl, ⟨p, lo, h1, ⟨dx, lp, h2, h3⟩, h4⟩, hh, q⟩ := h
    have nd := scWinOf.nd
    refine ⟨_, pss_cons (ps_asg (pv 0) (pg_tup rfl (pgs_cons (pg_name (i := 2) nd rfl (.inl rfl)) (pgs_cons (pg_name (i := 3) nd rfl (.inl rfl)) pgs_nil)))) <| pss_one (ps_ret (pe_tup (pa_cons (pe_ix ix_list (pv 3) (pv 1) (fun _ _ => rfl)) (pa_cons (pe_fld (pv 2) rfl) (pa_cons (pe_fld (pv 2) rfl) pa_nil))))), ?_⟩
    refine ⟨_, rfl, t, _, rfl, h1, rfl, _, _, rfl, _, _, rfl, rfl, ?_⟩
    refine ⟨_, rfl, _, rfl, lo, _, _, _, rfl, rfl, h4, atI_ints (j := h) rfl hh, _, rfl, p, C, dx, _, _, rfl, h2, c.cl, c.n2, sg2, _, rfl, p, C, dx, _, _, rfl, h2, c.cl, c.n1, sg1, by show 3 ≤ sizeLine; decide, fun u nu => ?_⟩
    exact q _ u (same_new nu) nu upd_same
/-! ### travel_of -/
theorem scTravel : FnScope ["net", "stream", "hop", "a", "b", "ticks"] ["net", "stream", "hop"] (defScope sTravel) := ⟨rfl, rfl, rfl, by decide +kernel, rfl, by decide +kernel, by decide +kernel⟩
def spTravel (K : PySem.W.Frag) (C C2 : Addr) : Sp := fun vs H Q _ => ∃ (p u : Addr) (N : NetD) (s : StrD) (h : Nat), vs = [.ref p, .ref u, .int (h : Int)] ∧ NetAt K C H p N ∧ Dist N.ls ∧ StreamAt C2 H u s ∧ PathOk N s ∧ h + 1 < s.path.length ∧ ∀ H', Same H H' → Q (.int (travel N s h)) H'
theorem ok_travel {f C C2 fD : Addr} {fd fdD : FuncData} {k : Nat} (F : Fun K "travel_of" "travel_of" sTravel f fd) (c : NetC K C) (c2 : StrC K C2) (mD : Meth K C "delay" fD) (GD : MethOf P w K mg base 1 ["self", "a", "b"] (spDelay K C) fD fdD) : FnOk P w K mg base CX0 (k + 2) f fd ["net", "stream", "hop"] (spTravel K C C2) := by
  refine F.ok scTravel (fun vs H Q E h => ?_) (fun cdv A outer s0 H vs Q E hr h => ?_)
  · obtain ⟨p, u, N, s, h, rfl, _⟩ := h
    rfl
  · obtain ⟨p, u, N, s, h, rfl, hN, hD, hS, hP, hh, q⟩ := h
    have nd := scTravel.nd
    have hr1 : Room 1 _ := hr.mono (by omega)
    have eN := hN
    obtain ⟨dx, lk, ll, ld, ts, e1, e2, e3, e4, e5⟩ := hN
    obtain ⟨dy, lp, d1, d2⟩ := hS
    obtain ⟨d, ed⟩ := hP.joined hh
    have hb := hP.ltk hh
    refine ⟨_, pss_cons (ps_par (i := 3) (j := 4) (by rfl) nd rfl rfl (by decide) rfl rfl (pa_cons (pe_ix ix_list (pe_fld (pv 1) rfl) (pv 2) (fun _ _ => rfl)) (pa_cons (pe_ix ix_list (pe_fld (pv 1) rfl) (pe_op op_add (pv 2) pe_int) (fun _ _ => rfl)) pa_nil)) (by rfl)) <| pss_cons (ps_set (i := 5) nd rfl (.inl rfl) (pe_op op_add (pe_fld (pv 1) rfl) (pe_meth (pv 0) c.cl mD GD.ok hr1 GD.b .nil pass0 (pa_cons (pv 3) (pa_cons (pv 4) pa_nil))))) <| pss_one (ps_ret (pe_ifExp (pt_cmpR op_eq (pe_ix ix_list (pe_fld (pv 0) rfl) (pv 4) (fun _ _ => rfl)) pe_str (nomark _)) (pe_op op_add (pv 5) (pe_fld (pv 0) rfl)) (pv 5))), ?_⟩
    refine ⟨_, rfl, u, C2, dy, _, _, rfl, d1, c2.cl, c2.n4, sg4, _, rfl, lp, _, _, _, rfl, rfl, SqL.of d2, atI_nat (natsV_at (getD_at 0 (by omega : h < s.path.length))), ?_⟩
    refine ⟨_, rfl, u, C2, dy, _, _, rfl, d1, c2.cl, c2.n4, sg4, _, rfl, _, _, rfl, rfl, lp, _, _, _, rfl, rfl, SqL.of d2, atI_nat (natsV_at (getD_at 0 hh)), _, _, rfl, ?_⟩
    refine ⟨_, rfl, u, C2, dy, _, _, rfl, d1, c2.cl, c2.n2, sg2, _, rfl, p, dx, _, rfl, e1, g7, _, rfl, _, rfl, p, _, _, N, rfl, eN, hD, fun H1 s1 => ?_⟩
    rw [ed]
    refine ⟨_, _, rfl, rfl, ?_⟩
    have ek : (decide (kindV (N.ks.getD (s.path.getD (h + 1) 0) true) = V.str "switch")) = !host N (s.path.getD (h + 1) 0) := by
      unfold host
      cases N.ks.getD (s.path.getD (h + 1) 0) true <;> decide +kernel
    refine ⟨_, rfl, p, C, dx, _, _, rfl, s1 _ _ e1, c.cl, c.n1, g1, _, rfl, lk, _, _, _, rfl, rfl, SqL.of (s1 _ _ e2), atI_kind rfl hb, rfl, _, rfl, ?_⟩
    rw [ek]
    have et : travel N s h = s.ln + d + (if host N (s.path.getD (h + 1) 0) then 0 else N.pr) := by
      unfold travel
      rw [ed]
      rfl
    have q := q _ s1
    rw [et] at q
    cases z : host N (s.path.getD (h + 1) 0) with
    | true =>
      rw [z, if_pos rfl, Int.add_zero] at q
      exact iteF ⟨_, rfl, q⟩
    | false =>
      rw [z, if_neg (by decide)] at q
      exact iteT ⟨_, rfl, _, rfl, p, C, dx, _, _, rfl, s1 _ _ e1, c.cl, c.n3, g3, _, _, rfl, rfl, q⟩
/-! ### arrival_of -/
theorem scArr : FnScope ["net", "entry", "hop", "stream", "offsets"] ["net", "entry", "hop"] (defScope sArr) := ⟨rfl, rfl, rfl, by decide +kernel, rfl, by decide +kernel, by decide +kernel⟩
def spArr (K : PySem.W.Frag) (C C2 : Addr) : Sp := fun vs H Q _ => ∃ (p t : Addr) (N : NetD) (e : EntD) (h : Nat), vs = [.ref p, .ref t, .int (h : Int)] ∧ NetAt K C H p N ∧ Dist N.ls ∧ EntAt K C2 H t e ∧ PathOk N e.s ∧ h + 1 < e.s.path.length ∧ h < e.os.length ∧ ∀ H', Same H H' → Q (.int (arr N e h)) H'
theorem ok_arr {f C C2 fT : Addr} {fd fdT : FuncData} {k : Nat} (F : Fun K "arrival_of" "arrival_of" sArr f fd) (GT : Callee P w K mg base 2 "travel_of" ["net", "stream", "hop"] (spTravel K C C2) fT fdT) : FnOk P w K mg base CX0 (k + 3) f fd ["net", "entry", "hop"] (spArr K C C2) := by
  refine F.ok scArr (fun vs H Q E h => ?_) (fun cdv A outer s0 H vs Q E hr h => ?_)
  · obtain ⟨p, t, N, e, h, rfl, _⟩ := h
    rfl
  · obtain ⟨p, t, N, e, h, rfl, hN, hD, ⟨u, lo, h1, h2, h4⟩, hP, hh, ho, q⟩ := h
    have nd := scArr.nd
    have hr2 : Room 2 _ := hr.mono (by omega)
    refine ⟨_, pss_cons (ps_asg (pv 1) (pg_tup rfl (pgs_cons (pg_name (i := 3) nd rfl (.inl rfl)) (pgs_cons (pg_name (i := 4) nd rfl (.inl rfl)) pgs_nil)))) <| pss_one (ps_ret (pe_op op_add (pe_ix ix_list (pv 4) (pv 2) (fun _ _ => rfl)) (pe_call GT.ok hr2 (by rfl) GT.mg GT.kp GT.b .nil pass0 (pa_cons (pv 0) (pa_cons (pv 3) (pa_cons (pv 2) pa_nil)))))), ?_⟩
    refine ⟨_, rfl, t, _, rfl, h1, rfl, _, _, rfl, _, _, rfl, rfl, ?_⟩
    exact ⟨_, rfl, _, rfl, lo, _, _, _, rfl, rfl, h4, atI_ints (j := h) rfl ho, _, rfl, _, rfl, _, rfl, p, u, N, e.s, h, rfl, hN, hD, h2, hP, hh, fun H' sm => ⟨_, _, rfl, rfl, q H' sm⟩⟩
end
end My
namespace My
open PySem PySem.Spec PyProof.Rows L2
theorem gl {xs : List Int} {y : Int} {j : Nat} (h : j < xs.length) : (xs ++ [y]).getD j 0 = xs.getD j 0 := by
  rw [List.getD_eq_getElem?_getD, List.getElem?_append_left h, ← List.getD_eq_getElem?_getD]
theorem gr {xs : List Int} {y : Int} : (xs ++ [y]).getD xs.length 0 = y := by
  rw [List.getD_eq_getElem?_getD, List.getElem?_append_right (Nat.le_refl _), Nat.sub_self]
  rfl
/-- offsets as they are drawn -/
structure OsOk (N : NetD) (s : StrD) (os : List Int) : Prop where
  nn : ∀ h, h < os.length → 0 ≤ os.getD h 0
  fst : os.getD 0 0 < s.pe
  lo : ∀ h, h + 1 < os.length → os.getD h 0 + travel N s h + 2 * N.er - 1 ≤ os.getD (h + 1) 0
  hi : ∀ h, h + 1 < os.length → os.getD (h + 1) 0 ≤ max 0 (os.getD h 0 + travel N s h + 2 * N.er + 3)
theorem OsOk.snoc {N : NetD} {s : StrD} {os : List Int} {x : Int} (h : OsOk N s os) (h1 : 1 ≤ os.length) (x0 : 0 ≤ x) (lo : os.getD (os.length - 1) 0 + travel N s (os.length - 1) + 2 * N.er - 1 ≤ x) (hi : x ≤ max 0 (os.getD (os.length - 1) 0 + travel N s (os.length - 1) + 2 * N.er + 3)) : OsOk N s (os ++ [x]) := by
  have ll : (os ++ [x]).length = os.length + 1 := by rw [List.length_append]; rfl
  refine ⟨fun k hk => ?_, ?_, fun k hk => ?_, fun k hk => ?_⟩
  · rcases Nat.lt_or_ge k os.length with c | c
    · rw [gl c]; exact h.nn k c
    · have : k = os.length := by omega
      rw [this, gr]; exact x0
  · rw [gl (by omega)]; exact h.fst
  · rcases Nat.lt_or_ge (k + 1) os.length with c | c
    · rw [gl c, gl (by omega)]; exact h.lo k c
    · have e : k + 1 = os.length := by omega
      have e2 : k = os.length - 1 := by omega
      rw [e, gr, gl (by omega), e2]; exact lo
  · rcases Nat.lt_or_ge (k + 1) os.length with c | c
    · rw [gl c, gl (by omega)]; exact h.hi k c
    · have e : k + 1 = os.length := by omega
      have e2 : k = os.length - 1 := by omega
      rw [e, gr, gl (by omega), e2]; exact hi
/-- entries as they are drawn -/
structure EntWf (N : NetD) (R : List (List Nat)) (e : EntD) : Prop where
  mem : e.s.path ∈ R
  len : e.os.length + 1 = e.s.path.length
  p0 : 4 ≤ e.s.pe
  p1 : e.s.pe ≤ 12
  l0 : 1 ≤ e.s.ln
  l1 : e.s.ln ≤ 3
  d0 : 1 ≤ e.s.dl
  os : OsOk N e.s e.os
theorem pe_at {z : Int} (h0 : 0 ≤ z) (h1 : z < 6) : ∃ e : Int, atI [V.int 6, V.int 8, V.int 12, V.int 5, V.int 10, V.int 4] z = some (.int e) ∧ 4 ≤ e ∧ e ≤ 12 := by
  have : z = 0 ∨ z = 1 ∨ z = 2 ∨ z = 3 ∨ z = 4 ∨ z = 5 := by omega
  rcases this with rfl | rfl | rfl | rfl | rfl | rfl
  · exact ⟨6, rfl, by decide, by decide⟩
  · exact ⟨8, rfl, by decide, by decide⟩
  · exact ⟨12, rfl, by decide, by decide⟩
  · exact ⟨5, rfl, by decide, by decide⟩
  · exact ⟨10, rfl, by decide, by decide⟩
  · exact ⟨4, rfl, by decide, by decide⟩
end My
namespace My
open PySem PySem.Spec PyProof.Rows L2
theorem same_make {H1 H' : Hp} {x dx : Addr} {o1 o2 : HO} (nx : H1 x = none) (ndx : H1 dx = none) (kb : ∀ b o, (upd (upd H1 dx o1) x o2) b = some o → b ≠ x → H' b = some o) : Same H1 H' := fun b u e => kb b u (by rw [upd_ne (ne_of_none e nx), upd_ne (ne_of_none e ndx)]; exact e) (ne_of_none e nx)
theorem same_make0 {H1 : Hp} {x dx : Addr} {o1 o2 : HO} (nx : H1 x = none) (ndx : H1 dx = none) : Same H1 (upd (upd H1 dx o1) x o2) := fun b u e => by rw [upd_ne (ne_of_none e nx), upd_ne (ne_of_none e ndx)]; exact e
theorem max_one (a : Int) : 1 ≤ (if a > 1 then a else 1) := by split <;> omega
theorem max_nn (a : Int) : 0 ≤ (if a > 0 then a else 0) := by split <;> omega
theorem max_lo {l : Int} (a : Int) (h : -1 ≤ l) : a - 1 ≤ (if a + l > 0 then a + l else 0) := by split <;> omega
theorem max_hi {l : Int} (a : Int) (h : l ≤ 3) : (if a + l > 0 then a + l else 0) ≤ max 0 (a + 3) := by split <;> omega
end My
/-! The faults of a plan as data. -/
namespace My
open PySem PySem.Spec PyProof.Rows L2
inductive Flt
  | early (i h : Nat)
  | late (i : Nat)
  | busy (i j : Nat) (p : Nat × Nat)
  | queue (i j : Nat) (p : Nat × Nat)
def dFlt : Option Flt → PyData
  | none => .none
  | some (.early i h) => .tuple [.str "early", .int (i : Int), .int (h : Int)]
  | some (.late i) => .tuple [.str "late", .int (i : Int)]
  | some (.busy i j p) => .tuple [.str "busy", .int (i : Int), .int (j : Int), dPort p]
  | some (.queue i j p) => .tuple [.str "queue", .int (i : Int), .int (j : Int), dPort p]
def fltAt (K : PySem.W.Frag) (H : Hp) : Option Flt → V → Prop
  | none, v => v = .non
  | some (.early i h), v => ∃ t, v = .ref t ∧ SqT K H t [.str "early", .int (i : Int), .int (h : Int)]
  | some (.late i), v => ∃ t, v = .ref t ∧ SqT K H t [.str "late", .int (i : Int)]
  | some (.busy i j p), v => ∃ t u, v = .ref t ∧ SqT K H t [.str "busy", .int (i : Int), .int (j : Int), .ref u] ∧ SqT K H u (portV p)
  | some (.queue i j p), v => ∃ t u, v = .ref t ∧ SqT K H t [.str "queue", .int (i : Int), .int (j : Int), .ref u] ∧ SqT K H u (portV p)
theorem fltAt.same {K : PySem.W.Frag} {H H' : Hp} {o : Option Flt} {v : V} (h : fltAt K H o v) (e : Same H H') : fltAt K H' o v := by
  match o, h with
  | none, h => exact h
  | some (.early i k), ⟨t, a, b⟩ => exact ⟨t, a, same_tup e b⟩
  | some (.late i), ⟨t, a, b⟩ => exact ⟨t, a, same_tup e b⟩
  | some (.busy i j p), ⟨t, u, a, b, c⟩ => exact ⟨t, u, a, same_tup e b, same_tup e c⟩
  | some (.queue i j p), ⟨t, u, a, b, c⟩ => exact ⟨t, u, a, same_tup e b, same_tup e c⟩
theorem fltAt.non {K : PySem.W.Frag} {H : Hp} {o : Option Flt} {v : V} (h : fltAt K H o v) : decide (v = .non) = o.isNone := by
  match o, h with
  | none, h => cases (show v = .non from h); rfl
  | some (.early i k), ⟨t, a, b⟩ => subst a; rfl
  | some (.late i), ⟨t, a, b⟩ => subst a; rfl
  | some (.busy i j p), ⟨t, u, a, b, c⟩ => subst a; rfl
  | some (.queue i j p), ⟨t, u, a, b, c⟩ => subst a; rfl
theorem dp_flt {K : PySem.W.Frag} {H : Hp} {o : Option Flt} {v : V} (h : fltAt K H o v) : Dp K H v (dFlt o) := by
  match o, h with
  | none, h => cases (show v = .non from h); exact .non
  | some (.early i k), ⟨t, a, b⟩ => subst a; exact .tup b (.cons (.str _) (.cons (.int _) (.cons (.int _) .nil)))
  | some (.late i), ⟨t, a, b⟩ => subst a; exact .tup b (.cons (.str _) (.cons (.int _) .nil))
  | some (.busy i j p), ⟨t, u, a, b, c⟩ => subst a; exact .tup b (.cons (.str _) (.cons (.int _) (.cons (.int _) (.cons (dp_port c) .nil))))
  | some (.queue i j p), ⟨t, u, a, b, c⟩ => subst a; exact .tup b (.cons (.str _) (.cons (.int _) (.cons (.int _) (.cons (dp_port c) .nil))))
theorem Shp.up {n m : Nat} {d : PyData} (h : Shp n d) (hn : n ≤ m) : Shp m d := ⟨h.c, Nat.le_trans h.d hn⟩
theorem shp_word (x : Str) (h : (PyData.str x).canLay0 = true) : Shp 1 (.str x) := ⟨h, by rw [PyData.depth]; omega⟩
theorem shp_flt (o : Option Flt) : SeqAt.shaped (dFlt o) = true := by
  have c : ∀ a b : Str, (PyData.str a).canLay0 = true → True := fun _ _ _ => trivial
  match o with
  | none => exact shaped_none
  | some (.early i k) =>
    refine (shp_tuple (n := 1) fun d hd => ?_).shaped
    simp only [List.mem_cons, List.not_mem_nil, or_false] at hd
    rcases hd with rfl | rfl | rfl
    · exact shp_word _ (by rw [PyData.canLay0]; decide +kernel)
    · exact (shp_int _).up (by decide)
    · exact (shp_int _).up (by decide)
  | some (.late i) =>
    refine (shp_tuple (n := 1) fun d hd => ?_).shaped
    simp only [List.mem_cons, List.not_mem_nil, or_false] at hd
    rcases hd with rfl | rfl
    · exact shp_word _ (by rw [PyData.canLay0]; decide +kernel)
    · exact (shp_int _).up (by decide)
  | some (.busy i j p) =>
    refine (shp_tuple (n := 1) fun d hd => ?_).shaped
    simp only [List.mem_cons, List.not_mem_nil, or_false] at hd
    rcases hd with rfl | rfl | rfl | rfl
    · exact shp_word _ (by rw [PyData.canLay0]; decide +kernel)
    · exact (shp_int _).up (by decide)
    · exact (shp_int _).up (by decide)
    · exact shp_port p
  | some (.queue i j p) =>
    refine (shp_tuple (n := 1) fun d hd => ?_).shaped
    simp only [List.mem_cons, List.not_mem_nil, or_false] at hd
    rcases hd with rfl | rfl | rfl | rfl
    · exact shp_word _ (by rw [PyData.canLay0]; decide +kernel)
    · exact (shp_int _).up (by decide)
    · exact (shp_int _).up (by decide)
    · exact shp_port p
theorem eqv_flt (o : Option Flt) : PyData.eqv (dFlt o) (dFlt o) = true := SeqAt.eqv_refl _ (SeqAt.canLay_of_shaped (shp_flt o))
/-! ### what the faults are -/
def wtOf (N : NetD) (e : EntD) (h : Nat) : Win := (arr N e (h - 1) - 2 * N.er, (if e.os.getD h 0 - arr N e (h - 1) + 2 * N.er > 1 then e.os.getD h 0 - arr N e (h - 1) + 2 * N.er else 1), e.s.pe)
def earlyAt (N : NetD) (e : EntD) (h : Nat) : Bool := decide (e.os.getD (h + 1) 0 < arr N e h + 2 * N.er)
def alone (N : NetD) (e : EntD) (i : Nat) : Option Flt := match (List.range (e.os.length - 1)).findSome? (fun h => if earlyAt N e h = true then some (Flt.early i (h + 1)) else none) with
  | some f => some f
  | none => if arr N e (e.os.length - 1) + N.er > e.s.dl then some (.late i) else none
def portE (e : EntD) (h : Nat) : Nat × Nat := (e.s.path.getD h 0, e.s.path.getD (h + 1) 0)
/-- two entries, or one, at a port that both have -/
def pairF (N : NetD) (e1 e2 : EntD) (i j h o : Nat) : Option Flt :=
  if (!decide (i = j) && meetB (winOf e1 h) (winOf e2 o)) = true then some (.busy i j (portE e1 h))
  else if (decide (h = 0) || decide (o = 0)) = true then none
  else if ((!decide (i = j) && meetB (wtOf N e1 h) (wtOf N e2 o)) || (decide (i = j) && decide ((wtOf N e1 h).2.1 > (wtOf N e1 h).2.2))) = true then some (.queue i j (portE e1 h)) else none
def hopF (N : NetD) (e1 e2 : EntD) (i j h : Nat) : Option Flt := (List.range e2.os.length).findSome? fun o => if portE e1 h = portE e2 o then pairF N e1 e2 i j h o else none
def tog (N : NetD) (e1 e2 : EntD) (i j : Nat) : Option Flt := (List.range e1.os.length).findSome? (hopF N e1 e2 i j)
def nilE : EntD := ⟨⟨0, 0, 0, []⟩, []⟩
def judged (N : NetD) (es : List EntD) : Option Flt := match (List.range es.length).findSome? (fun i => alone N (es.getD i nilE) i) with
  | some f => some f
  | none => (List.range es.length).findSome? fun j => (List.range (j + 1)).findSome? fun i => tog N (es.getD i nilE) (es.getD j nilE) i j
theorem fs_miss {α : Type} {f : Nat → Option α} {i : Nat} (h : (List.range i).findSome? f = none) (hi : f i = none) : (List.range (i + 1)).findSome? f = none := by
  rw [List.range_succ, List.findSome?_append, h, List.findSome?_cons, hi]
  rfl
theorem fs_hit {α : Type} {f : Nat → Option α} {i : Nat} {r : α} (h : (List.range i).findSome? f = none) (hi : f i = some r) : ∀ {n : Nat}, i < n → (List.range n).findSome? f = some r
  | 0, hn => by omega
  | n + 1, hn => by
    rw [List.range_succ, List.findSome?_append]
    by_cases e : i = n
    · subst e
      rw [h, List.findSome?_cons, hi]
      rfl
    · rw [fs_hit h hi (by omega)]
      rfl
theorem fs_one {α : Type} {f : Nat → Option α} {j : Nat} : ∀ {n : Nat}, j < n → (∀ o, o < n → o ≠ j → f o = none) → (List.range n).findSome? f = f j
  | 0, hn, _ => by omega
  | n + 1, hn, h => by
    rw [List.range_succ, List.findSome?_append]
    by_cases e : j = n
    · subst e
      rw [show (List.range j).findSome? f = none from List.findSome?_eq_none_iff.mpr fun x hx => by
        have := List.mem_range.mp hx
        exact h x (by omega) (by omega), List.findSome?_cons, List.findSome?_nil]
      cases f j <;> rfl
    · rw [fs_one (by omega) fun o ho n => h o (by omega) n, List.findSome?_cons, List.findSome?_nil, h n (by omega) (fun z => e z.symm)]
      cases f j <;> rfl
theorem nodup_getD {r : List Nat} (nd : r.Nodup) {i j : Nat} (hi : i < r.length) (hj : j < r.length) (e : r.getD i 0 = r.getD j 0) : i = j := by
  rw [getD_lt 0 hi, getD_lt 0 hj] at e
  have pw := List.pairwise_iff_getElem.mp nd
  rcases Nat.lt_trichotomy i j with h | h | h
  · exact absurd e (pw i j hi hj h)
  · exact h
  · exact absurd e.symm (pw j i hj hi h)
/-- entries whose paths are the net's -/
structure EOk (N : NetD) (e : EntD) : Prop where
  po : PathOk N e.s
  len : e.os.length + 1 = e.s.path.length
  p0 : 1 ≤ e.s.pe
  p1 : e.s.pe ≤ 60
  l0 : 1 ≤ e.s.ln
theorem EOk.one {N : NetD} {e : EntD} (h : EOk N e) : 1 ≤ e.os.length := by
  have := h.po.is.two
  have := h.len
  omega
theorem EntWf.eok {N : NetD} {R : List (List Nat)} {e : EntD} (h : EntWf N R e) (hR : ∀ r ∈ R, IsP N r ∧ (∀ x ∈ r, x < N.ks.length) ∧ r.length ≤ 10) : EOk N e := by
  obtain ⟨a, b, c⟩ := hR _ h.mem
  exact ⟨⟨a, b, c⟩, h.len, by have := h.p0; omega, by have := h.p1; omega, h.l0⟩
theorem port_inj {N : NetD} {e : EntD} (h : EOk N e) {a b : Nat} (ha : a < e.os.length) (hb : b < e.os.length) (z : portE e a = portE e b) : a = b := by
  have := h.len
  injection z with z _
  exact nodup_getD h.po.is.nd (by omega) (by omega) z
theorem port_mem {e : EntD} (hl : e.os.length + 1 = e.s.path.length) {p : Nat × Nat} : p ∈ portsOf e.s.path ↔ ∃ o, o < e.os.length ∧ portE e o = p := by
  rw [mem_ports]
  constructor
  · rintro ⟨k, hk, e⟩
    exact ⟨k, by omega, e.symm⟩
  · rintro ⟨o, ho, e⟩
    exact ⟨o, by omega, e.symm⟩
theorem hopF_none {N : NetD} {e1 e2 : EntD} {i j h : Nat} (hl : e2.os.length + 1 = e2.s.path.length) (n : portE e1 h ∉ portsOf e2.s.path) : hopF N e1 e2 i j h = none := by
  refine List.findSome?_eq_none_iff.mpr fun o ho => ?_
  have := List.mem_range.mp ho
  rw [if_neg fun z => n ((port_mem hl).mpr ⟨o, this, z.symm⟩)]
theorem hopF_some {N : NetD} {e1 e2 : EntD} {i j h o : Nat} (h2 : EOk N e2) (ho : o < e2.os.length) (e : portE e1 h = portE e2 o) : hopF N e1 e2 i j h = pairF N e1 e2 i j h o := by
  unfold hopF
  rw [fs_one ho fun o' h' n => if_neg fun z => n (port_inj h2 h' ho (z.symm.trans e)), if_pos e]
theorem winOf_wp {N : NetD} {e : EntD} (h : EOk N e) (k : Nat) : 0 ≤ (winOf e k).2.1 ∧ 0 < (winOf e k).2.2 := by
  have := h.l0
  have := h.p0
  exact ⟨by show 0 ≤ e.s.ln; omega, by show 0 < e.s.pe; omega⟩
theorem wtOf_wp {N : NetD} {e : EntD} (h : EOk N e) (k : Nat) : 0 ≤ (wtOf N e k).2.1 ∧ 0 < (wtOf N e k).2.2 := by
  have := h.p0
  refine ⟨?_, by show 0 < e.s.pe; omega⟩
  unfold wtOf
  dsimp only
  split <;> omega
theorem wtOf_l {N : NetD} {e : EntD} (k : Nat) : 1 ≤ (wtOf N e k).2.1 := by
  unfold wtOf
  dsimp only
  split <;> omega
end My
namespace My
open PySem PySem.Spec PyProof.Rows L2
theorem getE_lt {es : List EntD} {i : Nat} (h : i < es.length) : es[i]? = some (es.getD i nilE) := by
  rw [List.getD_eq_getElem?_getD, List.getElem?_eq_getElem h]; rfl
theorem ent_at {K : PySem.W.Frag} {C : Addr} {H : Hp} {ts : List Addr} {es : List EntD} (hE : EntsAt K C H ts es) {i : Nat} (hi : i < es.length) : ∃ t, EntAt K C H t (es.getD i nilE) ∧ atI (ts.map V.ref) (i : Int) = some (.ref t) := by
  have lt : ts.length = es.length := hE.length
  have et : ts[i]? = some ts[i] := List.getElem?_eq_getElem (by omega)
  obtain ⟨e', ee', hT⟩ := Paired.at hE et
  rw [getE_lt hi] at ee'
  cases Option.some.inj ee'
  exact ⟨_, hT, atI_nat (by rw [List.getElem?_map, et]; rfl)⟩
end My
/-! The simulation as data, how the heap bears it. -/
namespace My
open PySem PySem.Spec PyProof.Rows L2
/-- entry, hop, frame -/
abbrev W3 := Nat × Nat × Nat
def w3V (w : W3) : List V := [.int (w.1 : Int), .int (w.2.1 : Int), .int (w.2.2 : Int)]
abbrev WsAt (K : PySem.W.Frag) (H : Hp) (ts : List Addr) (ws : List W3) : Prop := Paired (fun (t : Addr) (w : W3) => H t = some (.tup (w3V w))) ts ws
def dlV (d : Int × Nat × Nat) : List V := [.int d.1, .int (d.2.1 : Int), .int (d.2.2 : Int)]
abbrev DlsAt (K : PySem.W.Frag) (H : Hp) (ts : List Addr) (ds : List (Int × Nat × Nat)) : Prop := Paired (fun (t : Addr) (d : Int × Nat × Nat) => H t = some (.tup (dlV d))) ts ds
structure Tr where
  dl : List (Int × Nat × Nat)
  fr : Nat × Nat → Option Int
  qs : Nat × Nat → List W3
  cm : Int → List W3
  ls : Nat × Nat → Bool
def tr0 : Tr := ⟨[], fun _ => none, fun _ => [], fun _ => [], fun _ => false⟩
def setF {α β : Type} [DecidableEq α] (f : α → β) (a : α) (b : β) : α → β := fun x => if x = a then b else f x
theorem setF_same {α β : Type} [DecidableEq α] {f : α → β} {a : α} {b : β} : setF f a b a = b := if_pos rfl
theorem setF_ne {α β : Type} [DecidableEq α] {f : α → β} {a x : α} {b : β} (h : x ≠ a) : setF f a b x = f x := if_neg h
section
variable (N : NetD) (es : List EntD) (bp : List (Nat × Nat))
def entW (w : W3) : EntD := es.getD w.1 nilE
def portW (w : W3) : Nat × Nat := portE (entW es w) w.2.1
def occ (T : Tr) (w : W3) (τ : Int) : Bool := decide (((T.fr (portW es w)).getD τ) > τ)
def isFst (T : Tr) (w : W3) : Bool := decide ((T.qs (portW es w)).take 1 = [w])
def sendT (T : Tr) (w : W3) (τ : Int) : Tr :=
  let p := portW es w
  let q := if w.2.1 > 0 then setF T.qs p (T.qs p).tail else T.qs
  let f := setF T.fr p (some (τ + (entW es w).s.ln))
  if bp.contains p then ⟨T.dl, f, q, T.cm, setF T.ls (w.1, w.2.2) true⟩
  else
    let r := τ + travel N (entW es w).s w.2.1
    if w.2.1 + 1 = (entW es w).os.length then ⟨T.dl ++ [(r, w.1, w.2.2)], f, q, T.cm, T.ls⟩
    else ⟨T.dl, f, q, setF T.cm r (T.cm r ++ [(w.1, w.2.1 + 1, w.2.2)]), T.ls⟩
/-- the windows that open; those that wait -/
def ph1 (τ : Int) : List W3 → Tr → List W3 → Option (Tr × List W3)
  | [], T, wt => some (T, wt)
  | w :: r, T, wt => if occ es T w τ then none else if w.2.1 = 0 ∨ isFst es T w = true then ph1 τ r (sendT N es bp T w τ) wt else if T.ls (w.1, w.2.2) then ph1 τ r T wt else ph1 τ r T (wt ++ [w])
def pushT (T : Tr) (w : W3) : Tr := { T with qs := setF T.qs (portW es w) (T.qs (portW es w) ++ [w]) }
def ph4 (τ : Int) : List W3 → Tr → Option Tr
  | [], T => some T
  | w :: r, T => if occ es T w τ || !isFst es T w then none else ph4 τ r (sendT N es bp T w τ)
end
/-! ### the heap -/
inductive Tag
  | d
  | q (p : Nat × Nat)
  | c (τ : Int)
structure Ads where
  dl : Addr
  ff : Addr
  qd : Addr
  cd : Addr
  ld : Addr
/-- the keys of the dict of queues -/
def QOk (kq : List (List Key × V)) : Prop := (∀ x ∈ kq, ∃ p : Nat × Nat, x.1 = key2 p.1 p.2 ∧ p.1 < 16 ∧ p.2 < 16) ∧ (kq.map (·.1)).Nodup
/-- what a Traffic changes; H0: all that stands still -/
def MutAt (K : PySem.W.Frag) (H0 H : Hp) (A : Ads) (T : Tr) (M : Nat) : Prop := ∃ (own : Addr → Option Tag) (dts : List Addr) (kf kq kl : List (List Key × V)) (kc : List (Key × V)),
  Same H0 H ∧ (H0 A.dl = none ∧ H0 A.ff = none ∧ H0 A.qd = none ∧ H0 A.cd = none ∧ H0 A.ld = none) ∧ (A.ff ≠ A.qd ∧ A.ff ≠ A.ld ∧ A.qd ≠ A.ld) ∧ QOk kq ∧
  (own A.dl = some .d ∧ H A.dl = some (.lst (dts.map V.ref)) ∧ DlsAt K H dts T.dl ∧ T.dl.length ≤ M) ∧
  (H A.ff = some (.dT kf) ∧ (∀ p : Nat × Nat, valV kf (key2 p.1 p.2) = (T.fr p).map V.int) ∧ kf.length ≤ M) ∧
  (H A.qd = some (.dT kq) ∧ (∀ p : Nat × Nat, (valV kq (key2 p.1 p.2) = none ∧ T.qs p = []) ∨ ∃ l ws, valV kq (key2 p.1 p.2) = some (.ref l) ∧ own l = some (.q p) ∧ H0 l = none ∧ H l = some (.lst (ws.map V.ref)) ∧ WsAt K H ws (T.qs p)) ∧ kq.length ≤ M) ∧
  (H A.cd = some (.dK kc) ∧ (∀ τ : Int, (valV kc (Sum.inl τ) = none ∧ T.cm τ = []) ∨ ∃ l ws, valV kc (Sum.inl τ) = some (.ref l) ∧ own l = some (.c τ) ∧ H0 l = none ∧ H l = some (.lst (ws.map V.ref)) ∧ WsAt K H ws (T.cm τ)) ∧ kc.length ≤ M ∧ ∀ τ, (T.cm τ).length ≤ M) ∧
  (H A.ld = some (.dT kl) ∧ (∀ i k : Nat, (valV kl (key2 i k)).isSome = T.ls (i, k)) ∧ kl.length ≤ M)
theorem WsAt.mono {K : PySem.W.Frag} {H H' : Hp} {ts : List Addr} {ws : List W3} (h : WsAt K H ts ws) (f : ∀ a xs, H a = some (.tup xs) → H' a = some (.tup xs)) : WsAt K H' ts ws := Paired.imp h fun _ _ z => f _ _ z
theorem DlsAt.mono {K : PySem.W.Frag} {H H' : Hp} {ts : List Addr} {ds : List (Int × Nat × Nat)} (h : DlsAt K H ts ds) (f : ∀ a xs, H a = some (.tup xs) → H' a = some (.tup xs)) : DlsAt K H' ts ds := Paired.imp h fun _ _ z => f _ _ z
theorem MutAt.st {K : PySem.W.Frag} {H0 H : Hp} {A : Ads} {T : Tr} {M : Nat} (h : MutAt K H0 H A T M) : Same H0 H := by
  obtain ⟨_, _, _, _, _, _, s, _⟩ := h
  exact s
theorem MutAt.more {K : PySem.W.Frag} {H0 H : Hp} {A : Ads} {T : Tr} {M M' : Nat} (h : MutAt K H0 H A T M) (e : M ≤ M') : MutAt K H0 H A T M' := by
  obtain ⟨own, dts, kf, kq, kl, kc, s, n, df, qk, ⟨a1, a2, a3, a4⟩, ⟨b1, b2, b3⟩, ⟨c1, c2, c3⟩, ⟨d1, d2, d3, d4⟩, ⟨e1, e2, e3⟩⟩ := h
  exact ⟨own, dts, kf, kq, kl, kc, s, n, df, qk, ⟨a1, a2, a3, by omega⟩, ⟨b1, b2, by omega⟩, ⟨c1, c2, by omega⟩, ⟨d1, d2, by omega, fun τ => by have := d4 τ; omega⟩, ⟨e1, e2, by omega⟩⟩
/-- the heap grows -/
theorem MutAt.grow {K : PySem.W.Frag} {H0 H H' : Hp} {A : Ads} {T : Tr} {M : Nat} (h : MutAt K H0 H A T M) (e : Same H H') : MutAt K H0 H' A T M := by
  obtain ⟨own, dts, kf, kq, kl, kc, s, n, df, qk, ⟨a1, a2, a3, a4⟩, ⟨b1, b2, b3⟩, ⟨c1, c2, c3⟩, ⟨d1, d2, d3, d4⟩, ⟨e1, e2, e3⟩⟩ := h
  refine ⟨own, dts, kf, kq, kl, kc, s.trans e, n, df, qk, ⟨a1, e _ _ a2, a3.mono fun _ _ z => e _ _ z, a4⟩, ⟨e _ _ b1, b2, b3⟩, ⟨e _ _ c1, fun p => ?_, c3⟩, ⟨e _ _ d1, fun τ => ?_, d3, d4⟩, ⟨e _ _ e1, e2, e3⟩⟩
  · rcases c2 p with h | ⟨l, ws, g1, g2, g3, g4, g5⟩
    · exact .inl h
    · exact .inr ⟨l, ws, g1, g2, g3, e _ _ g4, g5.mono fun _ _ z => e _ _ z⟩
  · rcases d2 τ with h | ⟨l, ws, g1, g2, g3, g4, g5⟩
    · exact .inl h
    · exact .inr ⟨l, ws, g1, g2, g3, e _ _ g4, g5.mono fun _ _ z => e _ _ z⟩
/-- no address of it -/
def Still (H0 H : Hp) (b : Addr) : Prop := (∃ o, H0 b = some o) ∨ H b = none ∨ ∃ xs, H b = some (.tup xs)
/-- more stands still: what is no list and no dict of it -/
theorem MutAt.stat {K : PySem.W.Frag} {H0 H : Hp} {A : Ads} {T : Tr} {M : Nat} {b : Addr} {o : HO} (h : MutAt K H0 H A T M) (hb : H b = none ∨ ∃ xs, H b = some (.tup xs)) (H' : Hp) (e : Same H H') (hb' : H' b = some o) : MutAt K (upd H0 b o) H' A T M := by
  obtain ⟨own, dts, kf, kq, kl, kc, s, ⟨n1, n2, n3, n4, n5⟩, df, qk, ⟨a1, a2, a3, a4⟩, ⟨b1, b2, b3⟩, ⟨c1, c2, c3⟩, ⟨d1, d2, d3, d4⟩, ⟨e1, e2, e3⟩⟩ := h
  have ne : ∀ {a : Addr} {u : HO}, H a = some u → (∀ xs, u ≠ .tup xs) → a ≠ b := fun ha hu z => by
    subst z
    rcases hb with h | ⟨xs, h⟩
    · rw [h] at ha; cases ha
    · rw [h] at ha; exact hu xs (Option.some.inj ha).symm
  have nl : ∀ (xs ys : List V), HO.lst xs ≠ .tup ys := fun _ _ z => by cases z
  refine ⟨own, dts, kf, kq, kl, kc, fun x u hx => ?_, ⟨?_, ?_, ?_, ?_, ?_⟩, df, qk, ⟨a1, e _ _ a2, a3.mono fun _ _ z => e _ _ z, a4⟩, ⟨e _ _ b1, b2, b3⟩, ⟨e _ _ c1, fun p => ?_, c3⟩, ⟨e _ _ d1, fun τ => ?_, d3, d4⟩, ⟨e _ _ e1, e2, e3⟩⟩
  · by_cases z : x = b
    · subst z
      rw [upd_same] at hx
      cases hx
      exact hb'
    · rw [upd_ne z] at hx
      exact e _ _ (s _ _ hx)
  · rw [upd_ne (ne a2 fun xs => nl _ xs)]; exact n1
  · rw [upd_ne (ne b1 fun xs z => by cases z)]; exact n2
  · rw [upd_ne (ne c1 fun xs z => by cases z)]; exact n3
  · rw [upd_ne (ne d1 fun xs z => by cases z)]; exact n4
  · rw [upd_ne (ne e1 fun xs z => by cases z)]; exact n5
  · rcases c2 p with h | ⟨l, ws, g1, g2, g3, g4, g5⟩
    · exact .inl h
    · exact .inr ⟨l, ws, g1, g2, by rw [upd_ne (ne g4 fun xs => nl _ xs)]; exact g3, e _ _ g4, g5.mono fun _ _ z => e _ _ z⟩
  · rcases d2 τ with h | ⟨l, ws, g1, g2, g3, g4, g5⟩
    · exact .inl h
    · exact .inr ⟨l, ws, g1, g2, by rw [upd_ne (ne g4 fun xs => nl _ xs)]; exact g3, e _ _ g4, g5.mono fun _ _ z => e _ _ z⟩
theorem MutAt.new {K : PySem.W.Frag} {H0 H : Hp} {A : Ads} {T : Tr} {M : Nat} {b : Addr} {o : HO} (h : MutAt K H0 H A T M) (hb : H b = none) : MutAt K (upd H0 b o) (upd H b o) A T M := h.stat (.inl hb) _ (same_new hb) upd_same
theorem MutAt.tup {K : PySem.W.Frag} {H0 H : Hp} {A : Ads} {T : Tr} {M : Nat} {b : Addr} {xs : List V} (h : MutAt K H0 H A T M) (hb : H b = some (.tup xs)) : MutAt K (upd H0 b (.tup xs)) H A T M := h.stat (.inr ⟨_, hb⟩) _ (Same.refl _) hb
/-- a list that stands still otherwise is written -/
theorem MutAt.wr {K : PySem.W.Frag} {H0 H : Hp} {A : Ads} {T : Tr} {M : Nat} {b : Addr} {xs ys : List V} (h : MutAt K H0 H A T M) (hb : H0 b = some (.lst xs)) : MutAt K (upd H0 b (.lst ys)) (upd H b (.lst ys)) A T M := by
  obtain ⟨own, dts, kf, kq, kl, kc, s, ⟨n1, n2, n3, n4, n5⟩, df, qk, ⟨a1, a2, a3, a4⟩, ⟨b1, b2, b3⟩, ⟨c1, c2, c3⟩, ⟨d1, d2, d3, d4⟩, ⟨e1, e2, e3⟩⟩ := h
  have ne : ∀ {a : Addr}, H0 a = none → a ≠ b := fun ha z => by
    subst z
    rw [ha] at hb
    cases hb
  have hb' := s _ _ hb
  have tp : ∀ a zs, H a = some (.tup zs) → (upd H b (.lst ys)) a = some (.tup zs) := fun a zs z => by
    rw [upd_ne (ne_of z hb' (by intro y; cases y))]
    exact z
  refine ⟨own, dts, kf, kq, kl, kc, fun x u hx => ?_, ⟨?_, ?_, ?_, ?_, ?_⟩, df, qk, ⟨a1, ?_, a3.mono tp, a4⟩, ⟨?_, b2, b3⟩, ⟨?_, fun p => ?_, c3⟩, ⟨?_, fun τ => ?_, d3, d4⟩, ⟨?_, e2, e3⟩⟩
  · by_cases z : x = b
    · subst z
      rw [upd_same] at hx ⊢
      exact hx
    · rw [upd_ne z] at hx ⊢
      exact s _ _ hx
  · rw [upd_ne (ne n1)]; exact n1
  · rw [upd_ne (ne n2)]; exact n2
  · rw [upd_ne (ne n3)]; exact n3
  · rw [upd_ne (ne n4)]; exact n4
  · rw [upd_ne (ne n5)]; exact n5
  · rw [upd_ne (ne n1)]; exact a2
  · rw [upd_ne (ne n2)]; exact b1
  · rw [upd_ne (ne n3)]; exact c1
  · rcases c2 p with h | ⟨l, ws, g1, g2, g3, g4, g5⟩
    · exact .inl h
    · exact .inr ⟨l, ws, g1, g2, by rw [upd_ne (ne g3)]; exact g3, by rw [upd_ne (ne g3)]; exact g4, g5.mono tp⟩
  · rw [upd_ne (ne n4)]; exact d1
  · rcases d2 τ with h | ⟨l, ws, g1, g2, g3, g4, g5⟩
    · exact .inl h
    · exact .inr ⟨l, ws, g1, g2, by rw [upd_ne (ne g3)]; exact g3, by rw [upd_ne (ne g3)]; exact g4, g5.mono tp⟩
  · rw [upd_ne (ne n5)]; exact e1
end My
namespace My
open PySem PySem.Spec PyProof.Rows L2
abbrev sTraffic : Stmt := top 26 /-Traffic-/
abbrev sPortOf : Stmt := inClass sTraffic 2 /-Traffic.port_of-/
abbrev sOcc : Stmt := inClass sTraffic 3 /-Traffic.is_occupied-/
abbrev sIsF : Stmt := inClass sTraffic 4 /-Traffic.is_first-/
abbrev sIsL : Stmt := inClass sTraffic 5 /-Traffic.is_lost-/
def trF (np sl pl bl : Addr) (A : Ads) : List (Str × V) := [(("net" : Str), V.ref np), ("streams", V.ref sl), ("ports", V.ref pl), ("broken_ports", V.ref bl), ("deliveries", V.ref A.dl), ("free_from", V.ref A.ff), ("queues", V.ref A.qd), ("coming", V.ref A.cd), ("lost", V.ref A.ld)]
theorem tf1 {np sl pl bl : Addr} {A : Ads} : putF "net" (.ref np) [] = [(("net" : Str), V.ref np)] := rfl
theorem tf2 {np sl pl bl : Addr} {A : Ads} : putF "streams" (.ref sl) [(("net" : Str), V.ref np)] = [(("net" : Str), V.ref np), ("streams", V.ref sl)] := putF_new rfl
theorem tf3 {np sl pl bl : Addr} {A : Ads} : putF "ports" (.ref pl) [(("net" : Str), V.ref np), ("streams", V.ref sl)] = [(("net" : Str), V.ref np), ("streams", V.ref sl), ("ports", V.ref pl)] := putF_new rfl
theorem tf4 {np sl pl bl : Addr} {A : Ads} : putF "broken_ports" (.ref bl) [(("net" : Str), V.ref np), ("streams", V.ref sl), ("ports", V.ref pl)] = [(("net" : Str), V.ref np), ("streams", V.ref sl), ("ports", V.ref pl), ("broken_ports", V.ref bl)] := putF_new rfl
theorem tf5 {np sl pl bl : Addr} {A : Ads} : putF "deliveries" (.ref A.dl) [(("net" : Str), V.ref np), ("streams", V.ref sl), ("ports", V.ref pl), ("broken_ports", V.ref bl)] = [(("net" : Str), V.ref np), ("streams", V.ref sl), ("ports", V.ref pl), ("broken_ports", V.ref bl), ("deliveries", V.ref A.dl)] := putF_new rfl
theorem tf6 {np sl pl bl : Addr} {A : Ads} : putF "free_from" (.ref A.ff) [(("net" : Str), V.ref np), ("streams", V.ref sl), ("ports", V.ref pl), ("broken_ports", V.ref bl), ("deliveries", V.ref A.dl)] = [(("net" : Str), V.ref np), ("streams", V.ref sl), ("ports", V.ref pl), ("broken_ports", V.ref bl), ("deliveries", V.ref A.dl), ("free_from", V.ref A.ff)] := putF_new rfl
theorem tf7 {np sl pl bl : Addr} {A : Ads} : putF "queues" (.ref A.qd) [(("net" : Str), V.ref np), ("streams", V.ref sl), ("ports", V.ref pl), ("broken_ports", V.ref bl), ("deliveries", V.ref A.dl), ("free_from", V.ref A.ff)] = [(("net" : Str), V.ref np), ("streams", V.ref sl), ("ports", V.ref pl), ("broken_ports", V.ref bl), ("deliveries", V.ref A.dl), ("free_from", V.ref A.ff), ("queues", V.ref A.qd)] := putF_new rfl
theorem tf8 {np sl pl bl : Addr} {A : Ads} : putF "coming" (.ref A.cd) [(("net" : Str), V.ref np), ("streams", V.ref sl), ("ports", V.ref pl), ("broken_ports", V.ref bl), ("deliveries", V.ref A.dl), ("free_from", V.ref A.ff), ("queues", V.ref A.qd)] = [(("net" : Str), V.ref np), ("streams", V.ref sl), ("ports", V.ref pl), ("broken_ports", V.ref bl), ("deliveries", V.ref A.dl), ("free_from", V.ref A.ff), ("queues", V.ref A.qd), ("coming", V.ref A.cd)] := putF_new rfl
theorem tf9 {np sl pl bl : Addr} {A : Ads} : putF "lost" (.ref A.ld) [(("net" : Str), V.ref np), ("streams", V.ref sl), ("ports", V.ref pl), ("broken_ports", V.ref bl), ("deliveries", V.ref A.dl), ("free_from", V.ref A.ff), ("queues", V.ref A.qd), ("coming", V.ref A.cd)] = trF np sl pl bl A := putF_new rfl
theorem tg1 {np sl pl bl : Addr} {A : Ads} : (trF np sl pl bl A).lookup ("net" : Str) = some (.ref np) := rfl
theorem tg2 {np sl pl bl : Addr} {A : Ads} : (trF np sl pl bl A).lookup ("streams" : Str) = some (.ref sl) := rfl
theorem tg3 {np sl pl bl : Addr} {A : Ads} : (trF np sl pl bl A).lookup ("ports" : Str) = some (.ref pl) := rfl
theorem tg4 {np sl pl bl : Addr} {A : Ads} : (trF np sl pl bl A).lookup ("broken_ports" : Str) = some (.ref bl) := rfl
theorem tg5 {np sl pl bl : Addr} {A : Ads} : (trF np sl pl bl A).lookup ("deliveries" : Str) = some (.ref A.dl) := rfl
theorem tg6 {np sl pl bl : Addr} {A : Ads} : (trF np sl pl bl A).lookup ("free_from" : Str) = some (.ref A.ff) := rfl
theorem tg7 {np sl pl bl : Addr} {A : Ads} : (trF np sl pl bl A).lookup ("queues" : Str) = some (.ref A.qd) := rfl
theorem tg8 {np sl pl bl : Addr} {A : Ads} : (trF np sl pl bl A).lookup ("coming" : Str) = some (.ref A.cd) := rfl
theorem tg9 {np sl pl bl : Addr} {A : Ads} : (trF np sl pl bl A).lookup ("lost" : Str) = some (.ref A.ld) := rfl
theorem tm_pass_tick {np sl pl bl : Addr} {A : Ads} : (trF np sl pl bl A).lookup ("pass_tick" : Str) = none := rfl
theorem tm_port_of {np sl pl bl : Addr} {A : Ads} : (trF np sl pl bl A).lookup ("port_of" : Str) = none := rfl
theorem tm_is_occupied {np sl pl bl : Addr} {A : Ads} : (trF np sl pl bl A).lookup ("is_occupied" : Str) = none := rfl
theorem tm_is_first {np sl pl bl : Addr} {A : Ads} : (trF np sl pl bl A).lookup ("is_first" : Str) = none := rfl
theorem tm_is_lost {np sl pl bl : Addr} {A : Ads} : (trF np sl pl bl A).lookup ("is_lost" : Str) = none := rfl
theorem tm_send {np sl pl bl : Addr} {A : Ads} : (trF np sl pl bl A).lookup ("send" : Str) = none := rfl
structure TrC (K : PySem.W.Frag) (C : Addr) : Prop where
  cl : Cls K C
  n1 : NoAttr K C "net"
  n2 : NoAttr K C "streams"
  n3 : NoAttr K C "ports"
  n4 : NoAttr K C "broken_ports"
  n5 : NoAttr K C "deliveries"
  n6 : NoAttr K C "free_from"
  n7 : NoAttr K C "queues"
  n8 : NoAttr K C "coming"
  n9 : NoAttr K C "lost"
abbrev Tups (H : Hp) (ts : List Addr) (ps : List (Nat × Nat)) : Prop := Paired (fun (t : Addr) (p : Nat × Nat) => H t = some (.tup [.int (p.1 : Int), .int (p.2 : Int)])) ts ps
theorem zip_tups {H : Hp} : ∀ {a b : List Nat} {ts : List Addr}, Paired (fun (t : Addr) (z : V × V) => H t = some (.tup [z.1, z.2])) ts ((natsV a).zip (natsV b)) → Tups H ts (a.zip b)
  | [], _, _, h => by
    cases h
    exact .nil
  | x :: a, [], _, h => by
    cases h
    exact .nil
  | x :: a, y :: b, _, h => by
    cases h with
    | cons r t => exact .cons r (zip_tups t)
/-- what stands still of a Traffic -/
def StatAt (K : PySem.W.Frag) (C C2 C4 : Addr) (H : Hp) (t : Addr) (A : Ads) (N : NetD) (es : List EntD) (bp : List (Nat × Nat)) : Prop := ∃ (dx np sl pl bl : Addr) (us pls bts : List Addr), H t = some (.ins C4 dx (trF np sl pl bl A)) ∧ NetAt K C H np N ∧
  (H sl = some (.lst (us.map V.ref)) ∧ Paired (fun u e => StreamAt C2 H u e.s) us es) ∧ (H pl = some (.lst (pls.map V.ref)) ∧ Paired (fun l e => ∃ ts, H l = some (.lst (ts.map V.ref)) ∧ Tups H ts (portsOf e.s.path)) pls es) ∧ (H bl = some (.lst (bts.map V.ref)) ∧ PairsAt K H bts bp)
theorem StatAt.same {K : PySem.W.Frag} {C C2 C4 : Addr} {H H' : Hp} {t : Addr} {A : Ads} {N : NetD} {es : List EntD} {bp : List (Nat × Nat)} (h : StatAt K C C2 C4 H t A N es bp) (e : Same H H') : StatAt K C C2 C4 H' t A N es bp := by
  obtain ⟨dx, np, sl, pl, bl, us, pls, bts, h1, h2, ⟨h3, h4⟩, ⟨h5, h6⟩, ⟨h7, h8⟩⟩ := h
  exact ⟨dx, np, sl, pl, bl, us, pls, bts, e _ _ h1, h2.same e, ⟨e _ _ h3, Paired.imp h4 fun _ _ z => z.same e⟩, ⟨e _ _ h5, Paired.imp h6 fun _ _ ⟨ts, a, b⟩ => ⟨ts, e _ _ a, Paired.imp b fun _ _ z => e _ _ z⟩⟩, ⟨e _ _ h7, h8.mono fun _ _ z => same_tup e z⟩⟩
/-- a window of an entry that is there -/
def WV (es : List EntD) (w : W3) : Prop := w.1 < es.length ∧ w.2.1 < (entW es w).os.length
structure EnvOk (N : NetD) (es : List EntD) : Prop where
  d : Dist N.ls
  nk : N.ks.length ≤ 16
  ok : ∀ e ∈ es, EOk N e
theorem entW_at {es : List EntD} {w : W3} (h : w.1 < es.length) : es[w.1]? = some (entW es w) := by
  unfold entW
  rw [List.getD_eq_getElem?_getD, List.getElem?_eq_getElem h]; rfl
theorem EnvOk.ent {N : NetD} {es : List EntD} (h : EnvOk N es) {w : W3} (hw : WV es w) : EOk N (entW es w) := h.ok _ (List.mem_of_getElem? (entW_at hw.1))
theorem atI_paired {β : Type} {F : Addr → β → Prop} {ts : List Addr} {xs : List β} (h : Paired F ts xs) {i : Nat} {x : β} (e : xs[i]? = some x) : ∃ t, ts[i]? = some t ∧ F t x ∧ atI (ts.map V.ref) (i : Int) = some (.ref t) := by
  have il : i < xs.length := (List.getElem?_eq_some_iff.mp e).1
  have it : i < ts.length := by rw [h.length]; exact il
  obtain ⟨y, ey, hy⟩ := Paired.at h (List.getElem?_eq_getElem it)
  rw [e] at ey
  cases Option.some.inj ey
  exact ⟨_, List.getElem?_eq_getElem it, hy, atI_nat (by rw [List.getElem?_map, List.getElem?_eq_getElem it]; rfl)⟩
section
variable {P : Program} {w : World} {K : PySem.W.Frag} {mg : Str → Option Value} {base : Heap}
/-! ### ports_of, its tuples new -/
def spPoT (K : PySem.W.Frag) : Sp := fun vs H Q _ => ∃ (l : Addr) (r : List Nat), vs = [.ref l] ∧ H l = some (.lst (natsV r)) ∧ ∀ (H' : Hp) (D : Addr) (ts : List Addr), Same H H' → H D = none → H' D = some (.lst (ts.map V.ref)) → Tups H' ts (portsOf r) → Q (.ref D) H'
theorem ok_portsT {f : Addr} {fd : FuncData} {k : Nat} (F : Fun K "ports_of" "ports_of" sPorts f fd) (T : Blt mg) (hzip : mg "zip" = none) : FnOk P w K mg base CX0 (k + 1) f fd ["path"] (spPoT K) := by
  refine F.ok scPo (fun vs H Q E h => ?_) (fun cdv A outer s H vs Q E hr h => ?_)
  · obtain ⟨l, r, rfl, _⟩ := h
    rfl
  · obtain ⟨l, r, rfl, hl, q⟩ := h
    have nd := scPo.nd
    refine ⟨_, pss_one (ps_ret (Zl.pe_listZip rfl (pa_cons (pv 0) (pa_cons (pe_slice sl_list (pv 0) (po_some pe_int) po_none) pa_nil)) (by rfl) T.list (by rfl) hzip)), ?_⟩
    refine ⟨_, rfl, _, rfl, _, rfl, l, _, rfl, SqL.of hl, fun y ny => ?_⟩
    have sy := same_new (o := .lst (cutV (natsV r) (some 1) none)) ny
    rw [cut1, natsV_drop] at *
    refine ⟨l, y, natsV r, natsV (r.drop 1), rfl, SqL.of (sy _ _ hl), SqL.of upd_same, fun H' p ts sm np hp hP => ?_⟩
    exact q H' p ts (sy.trans sm) (sy.free np) hp (zip_tups hP)
/-! ### port_of -/
theorem scPortOf : FnScope ["self", "window"] ["self", "window"] (defScope sPortOf) := ⟨rfl, rfl, rfl, by decide +kernel, rfl, by decide +kernel, by decide +kernel⟩
def spPortOf (K : PySem.W.Frag) (C C2 C4 : Addr) : Sp := fun vs H Q _ => ∃ (t wa : Addr) (A : Ads) (N : NetD) (es : List EntD) (bp : List (Nat × Nat)) (W : W3), vs = [.ref t, .ref wa] ∧ StatAt K C C2 C4 H t A N es bp ∧ EnvOk N es ∧ SqT K H wa (w3V W) ∧ WV es W ∧ ∀ tq, H tq = some (.tup (portV (portW es W))) → Q (.ref tq) H
theorem ok_portof {f C C2 C4 : Addr} {fd : FuncData} {k : Nat} (F : Fun K "port_of" "Traffic.port_of" sPortOf f fd) (c4 : TrC K C4) : FnOk P w K mg base CX0 (k + 1) f fd ["self", "window"] (spPortOf K C C2 C4) := by
  refine F.ok scPortOf (fun vs H Q E h => ?_) (fun cdv A0 outer s0 H vs Q E hr h => ?_)
  · obtain ⟨t, wa, A, N, es, bp, W, rfl, _⟩ := h
    rfl
  · obtain ⟨t, wa, A, N, es, bp, W, rfl, hS, en, hw, wv, q⟩ := h
    have nd := scPortOf.nd
    obtain ⟨dx, np, sl, pl, bl, us, pls, bts, h1, h2, ⟨h3, h4⟩, ⟨h5, h6⟩, ⟨h7, h8⟩⟩ := hS
    obtain ⟨l, el, ⟨ts, hl, hP⟩, al⟩ := atI_paired h6 (entW_at wv.1)
    have eo := en.ent wv
    have le := eo.len
    obtain ⟨tq, etq, htq, atq⟩ := atI_paired hP (ports_at (r := (entW es W).s.path) (k := W.2.1) (by have := wv.2; omega))
    refine ⟨_, pss_one (ps_ret (pe_ix ix_list (pe_ix ix_list (pe_fld (pv 0) rfl) (pe_ix ix_tup (pv 1) pe_int (fun _ _ => rfl)) (fun _ _ => rfl)) (pe_ix ix_tup (pv 1) pe_int (fun _ _ => rfl)) (fun _ _ => rfl))), ?_⟩
    exact ⟨_, rfl, t, C4, dx, _, _, rfl, h1, c4.cl, c4.n3, tg3, _, rfl, wa, _, _, _, rfl, rfl, hw, rfl, pl, _, _, _, rfl, rfl, SqL.of h5, al, _, rfl, wa, _, _, _, rfl, rfl, hw, rfl, l, _, _, _, rfl, rfl, SqL.of hl, atq, q tq htq⟩
/-! ### is_occupied -/
theorem scOcc : FnScope ["self", "window", "tick"] ["self", "window", "tick"] (defScope sOcc) := ⟨rfl, rfl, rfl, by decide +kernel, rfl, by decide +kernel, by decide +kernel⟩
def spOcc (K : PySem.W.Frag) (C C2 C4 : Addr) : Sp := fun vs H Q _ => ∃ (t wa : Addr) (τ : Int) (H0 : Hp) (A : Ads) (N : NetD) (es : List EntD) (bp : List (Nat × Nat)) (W : W3) (T : Tr) (M : Nat), vs = [.ref t, .ref wa, .int τ] ∧ StatAt K C C2 C4 H0 t A N es bp ∧ EnvOk N es ∧ MutAt K H0 H A T M ∧ SqT K H wa (w3V W) ∧ WV es W ∧ Q (.bl (occ es T W τ)) H
theorem ok_occ {f C C2 C4 fP : Addr} {fd fdP : FuncData} {k : Nat} (F : Fun K "is_occupied" "Traffic.is_occupied" sOcc f fd) (c4 : TrC K C4) (mP : Meth K C4 "port_of" fP) (GP : MethOf P w K mg base 1 ["self", "window"] (spPortOf K C C2 C4) fP fdP) : FnOk P w K mg base CX0 (k + 2) f fd ["self", "window", "tick"] (spOcc K C C2 C4) := by
  refine F.ok scOcc (fun vs H Q E h => ?_) (fun cdv A0 outer s0 H vs Q E hr h => ?_)
  · obtain ⟨t, wa, τ, H0, A, N, es, bp, W, T, M, rfl, _⟩ := h
    rfl
  · obtain ⟨t, wa, τ, H0, A, N, es, bp, W, T, M, rfl, hS, en, hM, hw, wv, q⟩ := h
    have nd := scOcc.nd
    have hu := hu_of hr
    have hr1 : Room 1 _ := hr.mono (by omega)
    have hSH := hS.same hM.st
    obtain ⟨dx, np, sl, pl, bl, us, pls, bts, h1, _⟩ := id hSH
    obtain ⟨own, dts, kf, kq, kl, kc, s, n, df, qk, _, ⟨b1, b2, b3⟩, _⟩ := hM
    refine ⟨_, pss_one (ps_ret (pe_cmpR op_gt (pe_dget2 hu (pe_fld (pv 0) rfl) (pe_meth (pv 0) c4.cl mP GP.ok hr1 GP.b .nil pass0 (pa_cons (pv 1) pa_nil)) (pv 2) ⟨rfl, rfl, rfl, rfl⟩) (pv 2) (nomark _))), ?_⟩
    refine ⟨_, rfl, t, C4, dx, _, _, rfl, h1, c4.cl, c4.n6, tg6, A.ff, rfl, .inr ⟨_, .inl b1⟩, _, rfl, t, dx, _, rfl, h1, tm_port_of, _, rfl, t, wa, A, N, es, bp, W, rfl, hSH, en, hw, wv, fun tq htq => ?_⟩
    refine ⟨_, rfl, valV kf (key2 (portW es W).1 (portW es W).2), DGet.t b1 (k := key2 (portW es W).1 (portW es W).2) htq, ?_⟩
    rw [b2 (portW es W)]
    have : ((T.fr (portW es W)).map V.int).getD (.int τ) = .int ((T.fr (portW es W)).getD τ) := by cases T.fr (portW es W) <;> rfl
    rw [this]
    exact ⟨_, rfl, _, _, rfl, rfl, q⟩
/-! ### is_first -/
def dW3 (w : W3) : PyData := .tuple [.int (w.1 : Int), .int (w.2.1 : Int), .int (w.2.2 : Int)]
def dWs (ws : List W3) : PyData := .list (ws.map dW3)
theorem shp_w3 (w : W3) : Shp 1 (dW3 w) := shp_tuple fun d hd => by
  simp only [List.mem_cons, List.not_mem_nil, or_false] at hd
  rcases hd with rfl | rfl | rfl <;> exact shp_int _
theorem eqv_w3 (p q : W3) : PyData.eqv (dW3 p) (dW3 q) = decide (p = q) := by
  obtain ⟨a, b, c⟩ := p
  obtain ⟨d, e, f⟩ := q
  unfold dW3
  rw [PyData.eqv, PyData.eqvAll, PyData.eqvAll, PyData.eqvAll, PyData.eqvAll, eqv_int, eqv_int, eqv_int, beq_dec, beq_dec, beq_dec, Bool.and_true, Bool.eq_iff_iff, Bool.and_eq_true, Bool.and_eq_true, decide_eq_true_eq, decide_eq_true_eq, decide_eq_true_eq, decide_eq_true_eq, Prod.mk.injEq, Prod.mk.injEq]
  show ((a : Int) = (d : Int) ∧ (b : Int) = (e : Int) ∧ (c : Int) = (f : Int)) ↔ _
  omega
theorem eqv_ws (a b : List W3) : PyData.eqv (dWs a) (dWs b) = decide (a = b) := by
  unfold dWs
  rw [PyData.eqv, eqv_map dW3 eqv_w3]
theorem dp_w3 {K : PySem.W.Frag} {H : Hp} {t : Addr} {w : W3} (h : SqT K H t (w3V w)) : Dp K H (.ref t) (dW3 w) := .tup h (.cons (.int _) (.cons (.int _) (.cons (.int _) .nil)))
theorem dp_ws {K : PySem.W.Frag} {H : Hp} {a : Addr} {ts : List Addr} {ws : List W3} (h : SqL K H a (ts.map V.ref)) (hw : WsAt K H ts ws) : Dp K H (.ref a) (dWs ws) := .lst h (dp_paired dW3 (fun _ _ q => dp_w3 (SqT.of q)) hw)
theorem Paired.take1 {α β : Type} {F : α → β → Prop} : ∀ {xs : List α} {ys : List β}, Paired F xs ys → Paired F (xs.take 1) (ys.take 1)
  | _, _, .nil => .nil
  | _, _, .cons r t => .cons r .nil
theorem cut_one {ts : List Addr} : cutV (ts.map V.ref) none (some 1) = (ts.take 1).map V.ref := by
  unfold cutV
  have e1 : HT.sIx (ts.map V.ref).length (ts.map V.ref).length (some 1) = min 1 (ts.map V.ref).length := HT.sIx_nat _ _ 1
  rw [e1, HT.sIx_none, List.drop_zero, Nat.sub_zero, ← List.map_take]
  cases ts with
  | nil => rfl
  | cons t r => rw [List.length_map, List.length_cons, Nat.min_eq_left (by omega)]
theorem scIsF : FnScope ["self", "window"] ["self", "window"] (defScope sIsF) := ⟨rfl, rfl, rfl, by decide +kernel, rfl, by decide +kernel, by decide +kernel⟩
def spIsF (K : PySem.W.Frag) (C C2 C4 : Addr) : Sp := fun vs H Q _ => ∃ (t wa : Addr) (H0 : Hp) (A : Ads) (N : NetD) (es : List EntD) (bp : List (Nat × Nat)) (W : W3) (T : Tr) (M : Nat), vs = [.ref t, .ref wa] ∧ StatAt K C C2 C4 H0 t A N es bp ∧ EnvOk N es ∧ MutAt K H0 H A T M ∧ SqT K H wa (w3V W) ∧ WV es W ∧ ∀ H', Same H H' → Q (.bl (isFst es T W)) H'
theorem ok_isf {f C C2 C4 fP : Addr} {fd fdP : FuncData} {k : Nat} (F : Fun K "is_first" "Traffic.is_first" sIsF f fd) (c4 : TrC K C4) (mP : Meth K C4 "port_of" fP) (GP : MethOf P w K mg base 1 ["self", "window"] (spPortOf K C C2 C4) fP fdP) : FnOk P w K mg base CX0 (k + 2) f fd ["self", "window"] (spIsF K C C2 C4) := by
  refine F.ok scIsF (fun vs H Q E h => ?_) (fun cdv A0 outer s0 H vs Q E hr h => ?_)
  · obtain ⟨t, wa, H0, A, N, es, bp, W, T, M, rfl, _⟩ := h
    rfl
  · obtain ⟨t, wa, H0, A, N, es, bp, W, T, M, rfl, hS, en, hM, hw, wv, q⟩ := h
    have nd := scIsF.nd
    have hu := hu_of hr
    have hr1 : Room 1 _ := hr.mono (by omega)
    have hSH := hS.same hM.st
    obtain ⟨dx, np, sl, pl, bl, us, pls, bts, h1, _⟩ := id hSH
    obtain ⟨own, dts, kf, kq, kl, kc, s, n, df, qk, _, _, ⟨c1, c2, c3⟩, _⟩ := hM
    refine ⟨_, pss_one (ps_ret (pe_cmpR (op_eqD hr.units) (pe_slice sl_list (pe_dget2 hu (pe_fld (pv 0) rfl) (pe_meth (pv 0) c4.cl mP GP.ok hr1 GP.b .nil pass0 (pa_cons (pv 1) pa_nil)) (pe_lst pa_nil) ⟨rfl, rfl, rfl, rfl⟩) po_none (po_some pe_int)) (pe_lst (pa_cons (pv 1) pa_nil)) (nomark _))), ?_⟩
    refine ⟨_, rfl, t, C4, dx, _, _, rfl, h1, c4.cl, c4.n7, tg7, A.qd, rfl, .inr ⟨_, .inl c1⟩, _, rfl, t, dx, _, rfl, h1, tm_port_of, _, rfl, t, wa, A, N, es, bp, W, rfl, hSH, en, hw, wv, fun tq htq => ?_⟩
    refine ⟨Nat.zero_le _, fun e0 ne0 => ?_⟩
    have se0 := same_new (o := .lst []) ne0
    refine ⟨valV kq (key2 (portW es W).1 (portW es W).2), DGet.t (se0 _ _ c1) (k := key2 (portW es W).1 (portW es W).2) (se0 _ _ htq), ?_⟩
    obtain ⟨l', us', eo, hl', hW'⟩ : ∃ l' us', (valV kq (key2 (portW es W).1 (portW es W).2)).getD (.ref e0) = .ref l' ∧ (upd H e0 (.lst [])) l' = some (.lst (us'.map V.ref)) ∧ WsAt K (upd H e0 (.lst [])) us' (T.qs (portW es W)) := by
      rcases c2 (portW es W) with ⟨f1, f2⟩ | ⟨l, ws, f1, f2, f3, f4, f5⟩
      · rw [f1, f2]
        exact ⟨e0, [], rfl, upd_same, .nil⟩
      · rw [f1]
        exact ⟨l, ws, rfl, se0 _ _ f4, f5.mono fun _ _ z => se0 _ _ z⟩
    rw [eo]
    refine ⟨_, rfl, l', _, rfl, SqL.of hl', fun y ny => ?_⟩
    have sy := same_new (o := .lst (cutV (us'.map V.ref) none (some 1))) ny
    refine ⟨_, rfl, by show 1 ≤ sizeLine; decide, fun z nz => ?_⟩
    have sz' := same_new (o := .lst [V.ref wa]) nz
    have hy : (upd (upd (upd H e0 (.lst [])) y (.lst (cutV (us'.map V.ref) none (some 1)))) z (.lst [V.ref wa])) y = some (.lst ((us'.take 1).map V.ref)) := sz' _ _ (by rw [upd_same, cut_one])
    have S3 := (se0.trans sy).trans sz'
    refine ⟨dWs ((T.qs (portW es W)).take 1), dWs [W], dp_ws (SqL.of hy) (Paired.take1 (hW'.mono fun _ _ q => (sy.trans sz') _ _ q)), .lst (SqL.of upd_same) (.cons (dp_w3 (same_tup S3 hw)) .nil), (shp_list (shp_map shp_w3)).shaped, (shp_list (shp_map shp_w3)).shaped, ?_⟩
    rw [eqv_ws]
    exact q _ S3
/-! ### is_lost -/
theorem scIsL : FnScope ["self", "window"] ["self", "window"] (defScope sIsL) := ⟨rfl, rfl, rfl, by decide +kernel, rfl, by decide +kernel, by decide +kernel⟩
def spIsL (K : PySem.W.Frag) (C C2 C4 : Addr) : Sp := fun vs H Q _ => ∃ (t wa : Addr) (H0 : Hp) (A : Ads) (N : NetD) (es : List EntD) (bp : List (Nat × Nat)) (W : W3) (T : Tr) (M : Nat), vs = [.ref t, .ref wa] ∧ StatAt K C C2 C4 H0 t A N es bp ∧ MutAt K H0 H A T M ∧ SqT K H wa (w3V W) ∧ ∀ H', Same H H' → Q (.bl (T.ls (W.1, W.2.2))) H'
theorem ok_isl {f C C2 C4 : Addr} {fd : FuncData} {k : Nat} (F : Fun K "is_lost" "Traffic.is_lost" sIsL f fd) (c4 : TrC K C4) : FnOk P w K mg base CX0 (k + 1) f fd ["self", "window"] (spIsL K C C2 C4) := by
  refine F.ok scIsL (fun vs H Q E h => ?_) (fun cdv A0 outer s0 H vs Q E hr h => ?_)
  · obtain ⟨t, wa, H0, A, N, es, bp, W, T, M, rfl, _⟩ := h
    rfl
  · obtain ⟨t, wa, H0, A, N, es, bp, W, T, M, rfl, hS, hM, hw, q⟩ := h
    have nd := scIsL.nd
    have hu := hu_of hr
    have hSH := hS.same hM.st
    obtain ⟨dx, np, sl, pl, bl, us, pls, bts, h1, _⟩ := id hSH
    obtain ⟨own, dts, kf, kq, kl, kc, s, n, df, qk, _, _, _, _, ⟨e1, e2, e3⟩⟩ := hM
    refine ⟨_, pss_one (ps_ret (pe_cmp (pc_din hu (pe_tup (pa_cons (pe_ix ix_tup (pv 1) pe_int (fun _ _ => rfl)) (pa_cons (pe_ix ix_tup (pv 1) pe_int (fun _ _ => rfl)) pa_nil))) (pe_fld (pv 0) rfl)) rfl)), ?_⟩
    refine ⟨_, rfl, wa, _, _, _, rfl, rfl, hw, rfl, _, rfl, wa, _, _, _, rfl, rfl, hw, rfl, by show 2 ≤ sizeLine; decide, fun y ny => ?_⟩
    have sy := same_new (o := .tup [V.int (W.1 : Int), V.int (W.2.2 : Int)]) ny
    refine ⟨_, rfl, t, C4, dx, _, _, rfl, sy _ _ h1, c4.cl, c4.n9, tg9, A.ld, _, rfl, DGet.t (sy _ _ e1) (k := key2 W.1 W.2.2) upd_same, ?_⟩
    rw [e2]
    exact q _ sy
end
end My
namespace My
open PySem PySem.Spec PyProof.Rows L2
theorem ne_own {own : Addr → Option Tag} {a b : Addr} {x y : Tag} (h : own a = some x) (h' : own b = some y) (n : x ≠ y) : a ≠ b := fun z => n (by rw [z, h'] at h; exact (Option.some.inj h).symm)
theorem Paired.tail {α β : Type} {F : α → β → Prop} {x : α} {xs : List α} {ys : List β} (h : Paired F (x :: xs) ys) : ∃ y r, ys = y :: r ∧ F x y ∧ Paired F xs r := by
  cases h with
  | cons r t => exact ⟨_, _, rfl, r, t⟩
section
variable {K : PySem.W.Frag} {H0 H : Hp} {A : Ads} {T : Tr} {M : Nat}
/-- what a frame that leaves a queue changes -/
theorem MutAt.pop {p : Nat × Nat} (h : MutAt K H0 H A T M) (hq : T.qs p ≠ []) : ∃ (kq : List (List Key × V)) (l : Addr) (t : Addr) (ws : List Addr), H A.qd = some (.dT kq) ∧ valV kq (key2 p.1 p.2) = some (.ref l) ∧ H l = some (.lst ((t :: ws).map V.ref)) ∧
    MutAt K H0 (upd H l (.lst (ws.map V.ref))) A { T with qs := setF T.qs p (T.qs p).tail } M := by
  obtain ⟨own, dts, kf, kq, kl, kc, s, n, df, qk, ⟨a1, a2, a3, a4⟩, ⟨b1, b2, b3⟩, ⟨c1, c2, c3⟩, ⟨d1, d2, d3, d4⟩, ⟨e1, e2, e3⟩⟩ := h
  rcases c2 p with ⟨_, h⟩ | ⟨l, ws, g1, g2, g3, g4, g5⟩
  · exact absurd h hq
  · cases ws with
    | nil =>
      cases z : T.qs p with
      | nil => exact absurd z hq
      | cons y r => rw [z] at g5; cases g5
    | cons t ws =>
      obtain ⟨y, r, eq, gy, gr⟩ := Paired.tail g5
      refine ⟨kq, l, t, ws, c1, g1, g4, own, dts, kf, kq, kl, kc, same_but s g3 but_self, n, df, qk, ⟨a1, ?_, ?_, a4⟩, ⟨?_, b2, b3⟩, ⟨?_, fun p' => ?_, c3⟩, ⟨?_, fun τ => ?_, d3, d4⟩, ⟨?_, e2, e3⟩⟩
      · rw [upd_ne (ne_own a1 g2 (by intro z; cases z))]; exact a2
      · exact a3.mono fun a xs z => by rw [upd_ne (ne_of z g4 (by intro y; cases y))]; exact z
      · rw [upd_ne (ne_of b1 g4 (by intro y; cases y))]; exact b1
      · rw [upd_ne (ne_of c1 g4 (by intro y; cases y))]; exact c1
      · have tp : ∀ a xs, H a = some (.tup xs) → (upd H l (.lst (ws.map V.ref))) a = some (.tup xs) := fun a xs z => by rw [upd_ne (ne_of z g4 (by intro y; cases y))]; exact z
        by_cases e : p' = p
        · subst e
          refine .inr ⟨l, ws, g1, g2, g3, upd_same, ?_⟩
          show WsAt K _ ws (setF T.qs p' (T.qs p').tail p')
          rw [setF_same, eq]
          show WsAt K _ ws r
          exact WsAt.mono (K := K) gr tp
        · rcases c2 p' with ⟨f1, f2⟩ | ⟨l', ws', f1, f2, f3, f4, f5⟩
          · refine .inl ⟨f1, ?_⟩
            show setF T.qs p (T.qs p).tail p' = []
            rw [setF_ne e]; exact f2
          · refine .inr ⟨l', ws', f1, f2, f3, ?_, ?_⟩
            · rw [upd_ne (ne_own f2 g2 (by intro z; injection z with z; exact e z))]; exact f4
            · show WsAt K _ ws' (setF T.qs p (T.qs p).tail p')
              rw [setF_ne e]; exact f5.mono tp
      · rw [upd_ne (ne_of d1 g4 (by intro y; cases y))]; exact d1
      · rcases d2 τ with f | ⟨l', ws', f1, f2, f3, f4, f5⟩
        · exact .inl f
        · exact .inr ⟨l', ws', f1, f2, f3, by rw [upd_ne (ne_own f2 g2 (by intro z; cases z))]; exact f4, f5.mono fun a xs z => by rw [upd_ne (ne_of z g4 (by intro y; cases y))]; exact z⟩
      · rw [upd_ne (ne_of e1 g4 (by intro y; cases y))]; exact e1
/-- a dict of it is written -/
theorem MutAt.free {p : Nat × Nat} {x : Int} (h : MutAt K H0 H A T M) : ∃ kf, H A.ff = some (.dT kf) ∧ kf.length ≤ M ∧ MutAt K H0 (upd H A.ff (.dT (putK kf (key2 p.1 p.2) (.int x)))) A { T with fr := setF T.fr p (some x) } (M + 1) := by
  obtain ⟨own, dts, kf, kq, kl, kc, s, n, df, qk, ⟨a1, a2, a3, a4⟩, ⟨b1, b2, b3⟩, ⟨c1, c2, c3⟩, ⟨d1, d2, d3, d4⟩, ⟨e1, e2, e3⟩⟩ := h
  have lp := length_putK kf (key2 p.1 p.2) (V.int x)
  have tp : ∀ a xs, H a = some (.tup xs) → (upd H A.ff (.dT (putK kf (key2 p.1 p.2) (.int x)))) a = some (.tup xs) := fun a xs z => by rw [upd_ne (ne_of z b1 (by intro y; cases y))]; exact z
  refine ⟨kf, b1, b3, own, dts, _, kq, kl, kc, same_but s n.2.1 but_self, n, df, qk, ⟨a1, ?_, a3.mono tp, by show T.dl.length ≤ M + 1; omega⟩, ⟨upd_same, fun p' => ?_, by omega⟩, ⟨?_, fun p' => ?_, by omega⟩, ⟨?_, fun τ => ?_, by omega, fun τ => by have := d4 τ; show (T.cm τ).length ≤ M + 1; omega⟩, ⟨?_, e2, by omega⟩⟩
  · rw [upd_ne (ne_of a2 b1 (by intro y; cases y))]; exact a2
  · rw [valV_put]
    by_cases e : p' = p
    · subst e
      rw [if_pos rfl]
      show _ = (setF T.fr p' (some x) p').map V.int
      rw [setF_same]; rfl
    · rw [if_neg (fun z => e (by obtain ⟨a, b⟩ := key2_inj z; exact Prod.ext a b)), b2]
      show _ = (setF T.fr p (some x) p').map V.int
      rw [setF_ne e]
  · rw [upd_ne df.1.symm]; exact c1
  · rcases c2 p' with f | ⟨l', ws', f1, f2, f3, f4, f5⟩
    · exact .inl f
    · exact .inr ⟨l', ws', f1, f2, f3, by rw [upd_ne (ne_of f4 b1 (by intro y; cases y))]; exact f4, f5.mono tp⟩
  · rw [upd_ne (ne_of d1 b1 (by intro y; cases y))]; exact d1
  · rcases d2 τ with f | ⟨l', ws', f1, f2, f3, f4, f5⟩
    · exact .inl f
    · exact .inr ⟨l', ws', f1, f2, f3, by rw [upd_ne (ne_of f4 b1 (by intro y; cases y))]; exact f4, f5.mono tp⟩
  · rw [upd_ne df.2.1.symm]; exact e1
theorem MutAt.lose {i k : Nat} {v : V} (h : MutAt K H0 H A T M) : ∃ kl, H A.ld = some (.dT kl) ∧ kl.length ≤ M ∧ MutAt K H0 (upd H A.ld (.dT (putK kl (key2 i k) v))) A { T with ls := setF T.ls (i, k) true } (M + 1) := by
  obtain ⟨own, dts, kf, kq, kl, kc, s, n, df, qk, ⟨a1, a2, a3, a4⟩, ⟨b1, b2, b3⟩, ⟨c1, c2, c3⟩, ⟨d1, d2, d3, d4⟩, ⟨e1, e2, e3⟩⟩ := h
  have lp := length_putK kl (key2 i k) v
  have tp : ∀ a xs, H a = some (.tup xs) → (upd H A.ld (.dT (putK kl (key2 i k) v))) a = some (.tup xs) := fun a xs z => by rw [upd_ne (ne_of z e1 (by intro y; cases y))]; exact z
  refine ⟨kl, e1, e3, own, dts, kf, kq, _, kc, same_but s n.2.2.2.2 but_self, n, df, qk, ⟨a1, ?_, a3.mono tp, by show T.dl.length ≤ M + 1; omega⟩, ⟨?_, b2, by omega⟩, ⟨?_, fun p' => ?_, by omega⟩, ⟨?_, fun τ => ?_, by omega, fun τ => by have := d4 τ; show (T.cm τ).length ≤ M + 1; omega⟩, ⟨upd_same, fun i' k' => ?_, by omega⟩⟩
  · rw [upd_ne (ne_of a2 e1 (by intro y; cases y))]; exact a2
  · rw [upd_ne df.2.1]; exact b1
  · rw [upd_ne df.2.2]; exact c1
  · rcases c2 p' with f | ⟨l', ws', f1, f2, f3, f4, f5⟩
    · exact .inl f
    · exact .inr ⟨l', ws', f1, f2, f3, by rw [upd_ne (ne_of f4 e1 (by intro y; cases y))]; exact f4, f5.mono tp⟩
  · rw [upd_ne (ne_of d1 e1 (by intro y; cases y))]; exact d1
  · rcases d2 τ with f | ⟨l', ws', f1, f2, f3, f4, f5⟩
    · exact .inl f
    · exact .inr ⟨l', ws', f1, f2, f3, by rw [upd_ne (ne_of f4 e1 (by intro y; cases y))]; exact f4, f5.mono tp⟩
  · rw [valV_put]
    by_cases e : (i', k') = (i, k)
    · cases e
      rw [if_pos rfl]
      show _ = setF T.ls (i, k) true (i, k)
      rw [setF_same]; rfl
    · rw [if_neg (fun z => e (by obtain ⟨a, b⟩ := key2_inj z; rw [a, b])), e2]
      show _ = setF T.ls (i, k) true (i', k')
      rw [setF_ne e]
theorem MutAt.deliver {d : Int × Nat × Nat} {y : Addr} (h : MutAt K H0 H A T M) (ny : H y = some (.tup (dlV d))) : ∃ dts : List Addr, H A.dl = some (.lst (dts.map V.ref)) ∧ dts.length ≤ M ∧ MutAt K H0 (upd H A.dl (.lst (dts.map V.ref ++ [V.ref y]))) A { T with dl := T.dl ++ [d] } (M + 1) := by
  obtain ⟨own, dts, kf, kq, kl, kc, s, n, df, qk, ⟨a1, a2, a3, a4⟩, ⟨b1, b2, b3⟩, ⟨c1, c2, c3⟩, ⟨d1, d2, d3, d4⟩, ⟨e1, e2, e3⟩⟩ := h
  have tp : ∀ a xs, H a = some (.tup xs) → (upd H A.dl (.lst (dts.map V.ref ++ [V.ref y]))) a = some (.tup xs) := fun a xs z => by rw [upd_ne (ne_of z a2 (by intro y; cases y))]; exact z
  have la := a3.length
  refine ⟨dts, a2, by omega, own, dts ++ [y], kf, kq, kl, kc, same_but s n.1 but_self, n, df, qk, ⟨a1, ?_, ?_, ?_⟩, ⟨?_, b2, by omega⟩, ⟨?_, fun p' => ?_, by omega⟩, ⟨?_, fun τ => ?_, by omega, fun τ => by have := d4 τ; show (T.cm τ).length ≤ M + 1; omega⟩, ⟨?_, e2, by omega⟩⟩
  · rw [upd_same, List.map_append]; rfl
  · exact Paired.snoc (F := fun (t : Addr) (d : Int × Nat × Nat) => (upd H A.dl (.lst (dts.map V.ref ++ [V.ref y]))) t = some (HO.tup (dlV d))) (tp _ _ ny) (DlsAt.mono (K := K) a3 tp)
  · show (T.dl ++ [d]).length ≤ M + 1
    rw [List.length_append]; show T.dl.length + 1 ≤ M + 1; omega
  · rw [upd_ne (ne_of b1 a2 (by intro y; cases y))]; exact b1
  · rw [upd_ne (ne_of c1 a2 (by intro y; cases y))]; exact c1
  · rcases c2 p' with f | ⟨l', ws', f1, f2, f3, f4, f5⟩
    · exact .inl f
    · exact .inr ⟨l', ws', f1, f2, f3, by rw [upd_ne (ne_own f2 a1 (by intro z; cases z))]; exact f4, f5.mono tp⟩
  · rw [upd_ne (ne_of d1 a2 (by intro y; cases y))]; exact d1
  · rcases d2 τ with f | ⟨l', ws', f1, f2, f3, f4, f5⟩
    · exact .inl f
    · exact .inr ⟨l', ws', f1, f2, f3, by rw [upd_ne (ne_own f2 a1 (by intro z; cases z))]; exact f4, f5.mono tp⟩
  · rw [upd_ne (ne_of e1 a2 (by intro y; cases y))]; exact e1
/-- a frame comes to a tick's list that is there -/
theorem MutAt.come {r : Int} {W : W3} {kc : List (Key × V)} {v : V} (h : MutAt K H0 H A T M) (hk : H A.cd = some (.dK kc)) (hv : valV kc (Sum.inl r) = some v) : ∃ (l : Addr) (ws : List Addr), v = .ref l ∧ H l = some (.lst (ws.map V.ref)) ∧ ws.length ≤ M ∧ ∀ H' y, Same H H' → H' y = some (.tup (w3V W)) → MutAt K H0 (upd H' l (.lst (ws.map V.ref ++ [V.ref y]))) A { T with cm := setF T.cm r (T.cm r ++ [W]) } (M + 1) := by
  obtain ⟨own, dts, kf, kq, kl, kc', s, n, df, qk, ⟨a1, a2, a3, a4⟩, ⟨b1, b2, b3⟩, ⟨c1, c2, c3⟩, ⟨d1, d2, d3, d4⟩, ⟨e1, e2, e3⟩⟩ := h
  rw [hk] at d1
  cases d1
  rcases d2 r with ⟨f, _⟩ | ⟨l, ws, g1, g2, g3, g4, g5⟩
  · rw [f] at hv; cases hv
  · rw [g1] at hv
    cases hv
    refine ⟨l, ws, rfl, g4, by rw [g5.length]; exact d4 r, fun H' y e hy => ?_⟩
    have g4' := e _ _ g4
    have tp : ∀ a xs, H a = some (.tup xs) → (upd H' l (.lst (ws.map V.ref ++ [V.ref y]))) a = some (.tup xs) := fun a xs z => by rw [upd_ne (ne_of (e _ _ z) g4' (by intro y; cases y))]; exact e _ _ z
    refine ⟨own, dts, kf, kq, kl, kc, same_but (s.trans e) g3 but_self, n, df, qk, ⟨a1, ?_, a3.mono tp, by show T.dl.length ≤ M + 1; omega⟩, ⟨?_, b2, by omega⟩, ⟨?_, fun p' => ?_, by omega⟩, ⟨?_, fun τ => ?_, by omega, fun τ => ?_⟩, ⟨?_, e2, by omega⟩⟩
    · rw [upd_ne (ne_own a1 g2 (by intro z; cases z))]; exact e _ _ a2
    · rw [upd_ne (ne_of (e _ _ b1) g4' (by intro y; cases y))]; exact e _ _ b1
    · rw [upd_ne (ne_of (e _ _ c1) g4' (by intro y; cases y))]; exact e _ _ c1
    · rcases c2 p' with f | ⟨l', ws', f1, f2, f3, f4, f5⟩
      · exact .inl f
      · exact .inr ⟨l', ws', f1, f2, f3, by rw [upd_ne (ne_own f2 g2 (by intro z; cases z))]; exact e _ _ f4, f5.mono tp⟩
    · rw [upd_ne (ne_of (e _ _ hk) g4' (by intro y; cases y))]; exact e _ _ hk
    · by_cases z : τ = r
      · subst z
        refine .inr ⟨l, ws ++ [y], g1, g2, g3, by rw [upd_same, List.map_append]; rfl, ?_⟩
        show WsAt K _ _ (setF T.cm τ (T.cm τ ++ [W]) τ)
        rw [setF_same]
        refine Paired.snoc (F := fun (t : Addr) (w : W3) => _ = some (HO.tup (w3V w))) ?_ (g5.mono tp)
        rw [upd_ne (ne_of hy g4' (by intro y; cases y))]; exact hy
      · rcases d2 τ with ⟨f1, f2⟩ | ⟨l', ws', f1, f2, f3, f4, f5⟩
        · refine .inl ⟨f1, ?_⟩
          show setF T.cm r (T.cm r ++ [W]) τ = []
          rw [setF_ne z]; exact f2
        · refine .inr ⟨l', ws', f1, f2, f3, by rw [upd_ne (ne_own f2 g2 (by intro y; injection y with y; exact z y))]; exact e _ _ f4, ?_⟩
          show WsAt K _ _ (setF T.cm r (T.cm r ++ [W]) τ)
          rw [setF_ne z]; exact f5.mono tp
    · show (setF T.cm r (T.cm r ++ [W]) τ).length ≤ M + 1
      by_cases z : τ = r
      · subst z
        rw [setF_same, List.length_append]
        have := d4 τ
        show (T.cm τ).length + 1 ≤ M + 1; omega
      · rw [setF_ne z]
        have := d4 τ
        omega
    · rw [upd_ne (ne_of (e _ _ e1) g4' (by intro y; cases y))]; exact e _ _ e1
/-- .. to one that is not there -/
theorem MutAt.comeNew {r : Int} {W : W3} {kc : List (Key × V)} (h : MutAt K H0 H A T M) (hk : H A.cd = some (.dK kc)) (hv : valV kc (Sum.inl r) = none) (l : Addr) (nl : H l = none) : kc.length ≤ M ∧ ∀ H' y, (∀ b o, (upd (upd H l (.lst [])) A.cd (.dK (putK kc (Sum.inl r) (.ref l)))) b = some o → H' b = some o) → H' y = some (.tup (w3V W)) → MutAt K H0 (upd H' l (.lst ([] ++ [V.ref y]))) A { T with cm := setF T.cm r (T.cm r ++ [W]) } (M + 1) := by
  obtain ⟨own, dts, kf, kq, kl, kc', s, n, df, qk, ⟨a1, a2, a3, a4⟩, ⟨b1, b2, b3⟩, ⟨c1, c2, c3⟩, ⟨d1, d2, d3, d4⟩, ⟨e1, e2, e3⟩⟩ := h
  rw [hk] at d1
  cases d1
  have lp := length_putK kc (Sum.inl r) (V.ref l)
  refine ⟨d3, fun H' y e hy => ?_⟩
  have ncl : A.cd ≠ l := ne_of_none hk nl
  have hl' : H' l = some (.lst []) := e _ _ (by rw [upd_ne ncl.symm, upd_same])
  have hc' : H' A.cd = some (.dK (putK kc (Sum.inl r) (.ref l))) := e _ _ upd_same
  have keep : ∀ b o, H b = some o → b ≠ A.cd → (upd H' l (.lst ([] ++ [V.ref y]))) b = some o := fun b o z nb => by
    have nb2 : b ≠ l := ne_of_none z nl
    rw [upd_ne nb2]
    exact e _ _ (by rw [upd_ne nb, upd_ne nb2]; exact z)
  have tp : ∀ a xs, H a = some (.tup xs) → (upd H' l (.lst ([] ++ [V.ref y]))) a = some (.tup xs) := fun a xs z => keep _ _ z (ne_of z hk (by intro y; cases y))
  have empty : T.cm r = [] := by
    rcases d2 r with ⟨_, f⟩ | ⟨l', ws, g1, _⟩
    · exact f
    · rw [hv] at g1; cases g1
  refine ⟨fun a => if a = l then some (.c r) else own a, dts, kf, kq, kl, putK kc (Sum.inl r) (V.ref l), fun b o z => keep b o (s _ _ z) (ne_of_none z n.2.2.2.1), n, df, qk, ⟨?_, keep _ _ a2 (ne_of a2 hk (by intro y; cases y)), a3.mono tp, by show T.dl.length ≤ M + 1; omega⟩, ⟨keep _ _ b1 (ne_of b1 hk (by intro y; cases y)), b2, by omega⟩, ⟨keep _ _ c1 (ne_of c1 hk (by intro y; cases y)), fun p' => ?_, by omega⟩, ⟨?_, fun τ => ?_, by omega, fun τ => ?_⟩, ⟨keep _ _ e1 (ne_of e1 hk (by intro y; cases y)), e2, by omega⟩⟩
  · show (if A.dl = l then some (Tag.c r) else own A.dl) = _
    rw [if_neg (ne_of_none a2 nl)]; exact a1
  · rcases c2 p' with f | ⟨l', ws', f1, f2, f3, f4, f5⟩
    · exact .inl f
    · exact .inr ⟨l', ws', f1, by show (if l' = l then some (Tag.c r) else own l') = _; rw [if_neg (ne_of_none f4 nl)]; exact f2, f3, keep _ _ f4 (ne_of f4 hk (by intro y; cases y)), f5.mono tp⟩
  · rw [upd_ne ncl]; exact hc'
  · rw [valV_put]
    by_cases z : τ = r
    · subst z
      rw [if_pos rfl]
      refine .inr ⟨l, [y], rfl, if_pos rfl, ?_, upd_same, ?_⟩
      · cases z : H0 l with
        | none => rfl
        | some o => rw [s _ _ z] at nl; cases nl
      · show WsAt K _ _ (setF T.cm τ (T.cm τ ++ [W]) τ)
        rw [setF_same, empty]
        refine .cons ?_ .nil
        rw [upd_ne (ne_of hy hl' (by intro y; cases y))]; exact hy
    · rw [if_neg (fun y => z (by injection y))]
      rcases d2 τ with ⟨f1, f2⟩ | ⟨l', ws', f1, f2, f3, f4, f5⟩
      · refine .inl ⟨f1, ?_⟩
        show setF T.cm r (T.cm r ++ [W]) τ = []
        rw [setF_ne z]; exact f2
      · refine .inr ⟨l', ws', f1, by show (if l' = l then some (Tag.c r) else own l') = _; rw [if_neg (ne_of_none f4 nl)]; exact f2, f3, keep _ _ f4 (ne_of f4 hk (by intro y; cases y)), ?_⟩
        show WsAt K _ _ (setF T.cm r (T.cm r ++ [W]) τ)
        rw [setF_ne z]; exact f5.mono tp
  · show (setF T.cm r (T.cm r ++ [W]) τ).length ≤ M + 1
    by_cases z : τ = r
    · subst z
      rw [setF_same, empty]
      show 1 ≤ M + 1; omega
    · rw [setF_ne z]
      have := d4 τ
      omega
end
end My
namespace My
open PySem PySem.Spec PyProof.Rows L2
abbrev sSend : Stmt := inClass sTraffic 6 /-Traffic.send-/
theorem any_port2 (p : Nat × Nat) (ps : List (Nat × Nat)) : ((ps.map dPort).any fun z => PyData.eqv z (dPort p)) = ps.contains p := by
  rw [List.any_map, List.contains_eq_any_beq]
  congr 1
  funext q
  show PyData.eqv (dPort q) (dPort p) = (p == q)
  rw [eqv_port, Bool.eq_iff_iff, decide_eq_true_eq, beq_iff_eq]
  exact eq_comm
/-- less stands still -/
theorem MutAt.weak {K : PySem.W.Frag} {H0 H1 H : Hp} {A : Ads} {T : Tr} {M : Nat} (h : MutAt K H1 H A T M) (e : Same H0 H1) : MutAt K H0 H A T M := by
  obtain ⟨own, dts, kf, kq, kl, kc, s, ⟨n1, n2, n3, n4, n5⟩, df, qk, a, b, ⟨c1, c2, c3⟩, ⟨d1, d2, d3, d4⟩, ee⟩ := h
  have nn : ∀ {x : Addr}, H1 x = none → H0 x = none := fun {x} z => by
    cases y : H0 x with
    | none => rfl
    | some o => rw [e _ _ y] at z; cases z
  refine ⟨own, dts, kf, kq, kl, kc, e.trans s, ⟨nn n1, nn n2, nn n3, nn n4, nn n5⟩, df, qk, a, b, ⟨c1, fun p => ?_, c3⟩, ⟨d1, fun τ => ?_, d3, d4⟩, ee⟩
  · rcases c2 p with h | ⟨l, ws, g1, g2, g3, g4⟩
    · exact .inl h
    · exact .inr ⟨l, ws, g1, g2, nn g3, g4⟩
  · rcases d2 τ with h | ⟨l, ws, g1, g2, g3, g4⟩
    · exact .inl h
    · exact .inr ⟨l, ws, g1, g2, nn g3, g4⟩
theorem same_upd {H : Hp} {a : Addr} {o : HO} (h : H a = none ∨ H a = some o) : Same H (upd H a o) := by
  rcases h with h | h
  · exact same_new h
  · intro x u e
    by_cases z : x = a
    · subst z
      rw [h] at e
      cases e
      exact upd_same
    · rw [upd_ne z]; exact e
theorem MutAt.dlAt {K : PySem.W.Frag} {H0 H : Hp} {A : Ads} {T : Tr} {M : Nat} (h : MutAt K H0 H A T M) : ∃ dts : List Addr, H A.dl = some (.lst (dts.map V.ref)) ∧ dts.length ≤ M ∧ DlsAt K H dts T.dl := by
  obtain ⟨own, dts, kf, kq, kl, kc, s, n, df, qk, ⟨a1, a2, a3, a4⟩, _⟩ := h
  exact ⟨dts, a2, by rw [a3.length]; exact a4, a3⟩
theorem MutAt.cdAt {K : PySem.W.Frag} {H0 H : Hp} {A : Ads} {T : Tr} {M : Nat} (h : MutAt K H0 H A T M) : ∃ kc : List (Key × V), H A.cd = some (.dK kc) ∧ kc.length ≤ M := by
  obtain ⟨own, dts, kf, kq, kl, kc, s, n, df, qk, _, _, _, ⟨d1, d2, d3, d4⟩, _⟩ := h
  exact ⟨kc, d1, d3⟩
section
variable {P : Program} {w : World} {K : PySem.W.Frag} {mg : Str → Option Value} {base : Heap}
theorem scSend : FnScope ["self", "window", "tick", "index", "hop", "number", "port", "reached"] ["self", "window", "tick"] (defScope sSend) := ⟨rfl, rfl, rfl, by decide +kernel, rfl, by decide +kernel, by decide +kernel⟩
def spSend (K : PySem.W.Frag) (C C2 C4 : Addr) : Sp := fun vs H Q _ => ∃ (t wa : Addr) (τ : Int) (H0 : Hp) (A : Ads) (N : NetD) (es : List EntD) (bp : List (Nat × Nat)) (W : W3) (T : Tr) (M : Nat), vs = [.ref t, .ref wa, .int τ] ∧ StatAt K C C2 C4 H0 t A N es bp ∧ EnvOk N es ∧ MutAt K H0 H A T M ∧ SqT K H0 wa (w3V W) ∧ WV es W ∧ (W.2.1 > 0 → T.qs (portW es W) ≠ []) ∧ M ≤ 10000 ∧ ∀ H', MutAt K H0 H' A (sendT N es bp T W τ) (M + 2) → Q .non H'
theorem ok_send {f C C2 C4 fP fT : Addr} {fd fdP fdT : FuncData} {k : Nat} (F : Fun K "send" "Traffic.send" sSend f fd) (c2 : StrC K C2) (c4 : TrC K C4) (mP : Meth K C4 "port_of" fP) (GP : MethOf P w K mg base 1 ["self", "window"] (spPortOf K C C2 C4) fP fdP) (GT : Callee P w K mg base 2 "travel_of" ["net", "stream", "hop"] (spTravel K C C2) fT fdT) (hlen : mg "len" = none) : FnOk P w K mg base CX0 (k + 3) f fd ["self", "window", "tick"] (spSend K C C2 C4) := by
  refine F.ok scSend (fun vs H Q E h => ?_) (fun cdv A0 outer s0 H vs Q E hr h => ?_)
  · obtain ⟨t, wa, τ, H0, A, N, es, bp, W, T, M, rfl, _⟩ := h
    rfl
  · obtain ⟨t, wa, τ, H0, A, N, es, bp, W, T, M, rfl, hS, en, hM, hw, wv, hq, hm, q⟩ := h
    have nd := scSend.nd
    have hu := hu_of hr
    have hu65 := u65 hr
    have hr1 : Room 1 _ := hr.mono (by omega)
    have hr2 : Room 2 _ := hr.mono (by omega)
    have hSH := hS.same hM.st
    obtain ⟨dx, np, sl, pl, bl, us, pls, bts, h1, _⟩ := id hS
    refine ⟨_, pss_cons (ps_asg (pv 1) (pg_tup rfl (pgs_cons (pg_name (i := 3) nd rfl (.inl rfl)) (pgs_cons (pg_name (i := 4) nd rfl (.inl rfl)) (pgs_cons (pg_name (i := 5) nd rfl (.inl rfl)) pgs_nil))))) <| pss_cons (ps_set (i := 6) nd rfl (.inl rfl) (pe_meth (pv 0) c4.cl mP GP.ok hr1 GP.b .nil pass0 (pa_cons (pv 1) pa_nil))) <| C8.pss_cut (ps_if (pt_cmpR op_gt (pv 4) pe_int (nomark _)) (pss_one (ps_delL (pe_dget hu (pe_fld (pv 0) rfl) (pv 6) (fun _ _ => rfl)) pe_int)) (pss_nil)) <| pss_cons (ps_dput hu (pe_fld (pv 0) rfl) (pv 6) (pe_op op_add (pv 2) (pe_fld (pe_ix ix_list (pe_fld (pv 0) rfl) (pv 3) (fun _ _ => rfl)) rfl)) rfl) <| pss_cons (ps_if (pt_cmpR (op_inD hu65) (pv 6) (pe_fld (pv 0) rfl) rfl) (pss_cons (ps_dput hu (pe_fld (pv 0) rfl) (pe_tup (pa_cons (pv 3) (pa_cons (pv 5) pa_nil))) pe_bl rfl) <| pss_one (ps_retN)) (pss_nil)) <| pss_cons (ps_set (i := 7) nd rfl (.inl rfl) (pe_op op_add (pv 2) (pe_call GT.ok hr2 (by rfl) GT.mg GT.kp GT.b .nil pass0 (pa_cons (pe_fld (pv 0) rfl) (pa_cons (pe_ix ix_list (pe_fld (pv 0) rfl) (pv 3) (fun _ _ => rfl)) (pa_cons (pv 4) pa_nil)))))) <| pss_one (ps_if (pt_cmpR op_eq (pv 4) (pe_op op_sub (pe_callB call_len_seq (by rfl) hlen PySem.boot_len (pa_cons (pe_ix ix_list (pe_fld (pv 0) rfl) (pv 3) (fun _ _ => rfl)) pa_nil)) pe_int) (nomark _)) (pss_one (ps_expr (pe_bm PySem.F.plainAttrs_list PySem.F.slot_list_append PySem.F.type_list_append mt_append (pe_fld (pv 0) rfl) (pa_cons (pe_tup (pa_cons (pv 7) (pa_cons (pv 3) (pa_cons (pv 5) pa_nil)))) pa_nil)))) (pss_one (ps_expr (pe_bm PySem.F.plainAttrs_list PySem.F.slot_list_append PySem.F.type_list_append mt_append (pe_dsetd (pe_fld (pv 0) rfl) (pv 7) (pe_lst pa_nil) ⟨rfl, rfl, rfl, rfl⟩) (pa_cons (pe_tup (pa_cons (pv 3) (pa_cons (pe_op op_add (pv 4) pe_int) (pa_cons (pv 5) pa_nil)))) pa_nil))))), ?_⟩
    have hwH := same_tup hM.st hw
    refine ⟨_, rfl, wa, _, rfl, hwH, rfl, _, _, rfl, _, _, rfl, _, _, rfl, rfl, ?_⟩
    refine ⟨_, rfl, t, dx, _, rfl, hM.st _ _ h1, tm_port_of, _, rfl, t, wa, A, N, es, bp, W, rfl, hSH, en, hwH, wv, fun tq htq => ?_⟩
    have ex : Same H0 (upd H0 tq (.tup (portV (portW es W)))) := same_upd (by
      cases z : H0 tq with
      | none => exact .inl rfl
      | some o => rw [hM.st _ _ z] at htq; exact .inr htq)
    have hM1 := hM.tup htq
    generalize eH1 : upd H0 tq (.tup (portV (portW es W))) = H1 at ex hM1
    have htq1 : H1 tq = some (.tup (portV (portW es W))) := by rw [← eH1, upd_same]
    have hS1 := hS.same ex
    have hw1 := same_tup ex hw
    have q1 : ∀ H', MutAt K H1 H' A (sendT N es bp T W τ) (M + 2) → Q .non H' := fun H' z => q H' (z.weak ex)
    clear q hM hS hw hSH hwH eH1 htq
    refine ⟨fun σ H' => σ = [some (.ref t), some (.ref wa), some (.int τ), some (.int (W.1 : Int)), some (.int (W.2.1 : Int)), some (.int (W.2.2 : Int)), some (.ref tq), none] ∧ MutAt K H1 H' A { T with qs := if W.2.1 > 0 then setF T.qs (portW es W) (T.qs (portW es W)).tail else T.qs } M, ?_, ?_⟩
    · have hk := hM1.st _ _ htq1
      refine ⟨_, rfl, _, _, rfl, rfl, _, rfl, ?_⟩
      refine ite2 (fun z => ?_) (fun z => ?_)
      · have z' : W.2.1 > 0 := by have := of_decide_eq_true z; omega
        obtain ⟨kq, l, t0, ws, g1, g2, g3, g4⟩ := hM1.pop (hq z')
        refine ⟨_, rfl, t, C4, dx, _, _, rfl, hM1.st _ _ (ex _ _ h1), c4.cl, c4.n7, tg7, _, rfl, A.qd, .ref l, rfl, (by rw [← g2]; exact DGet.t g1 hk), l, _, 0, 0, rfl, rfl, g3, by decide, by decide, (by rw [List.length_map, List.length_cons]; unfold seqIndex?; simp), ?_⟩
        rw [if_pos z']
        exact ⟨rfl, g4⟩
      · have z' : ¬ W.2.1 > 0 := fun y => z (decide_eq_true (by omega))
        refine ⟨rfl, ?_⟩
        rw [if_neg z']
        exact hM1
    · rintro σ H2 ⟨rfl, hM2⟩
      have hS2 := hS1.same hM2.st
      obtain ⟨dx', np', sl', pl', bl', us', pls', bts', i1, i2, ⟨i3, i4⟩, ⟨i5, i6⟩, ⟨i7, i8⟩⟩ := id hS1
      rw [ex _ _ h1] at i1
      cases i1
      obtain ⟨u, eu, hu1, au⟩ := atI_paired i4 (entW_at wv.1)
      obtain ⟨l, el, ⟨ts, hl, hP⟩, al⟩ := atI_paired i6 (entW_at wv.1)
      obtain ⟨dxu, lpu, hu2, hu3⟩ := id hu1
      have eo := en.ent wv
      obtain ⟨kf, f1, f2, f3⟩ := hM2.free (p := portW es W) (x := τ + (entW es W).s.ln)
      refine ⟨_, rfl, _, rfl, t, C4, dx, _, _, rfl, hM2.st _ _ (ex _ _ h1), c4.cl, c4.n2, tg2, _, rfl, sl, _, _, _, rfl, rfl, SqL.of (hM2.st _ _ i3), au, u, C2, dxu, _, _, rfl, hM2.st _ _ hu2, c2.cl, c2.n2, sg2, _, _, rfl, rfl, ?_⟩
      have hk2 := hM2.st _ _ htq1
      refine ⟨_, rfl, t, C4, dx, _, _, rfl, hM2.st _ _ (ex _ _ h1), c4.cl, c4.n6, tg6, _, rfl, A.ff, _, rfl, .inr ⟨_, key2 (portW es W).1 (portW es W).2, _, f1, rfl, hk2, szl (by omega), rfl⟩, ?_⟩
      revert f3
      generalize (upd H2 A.ff _) = H3
      intro hM3
      have hk3 := hM3.st _ _ htq1
      refine ⟨_, rfl, _, rfl, t, C4, dx, _, _, rfl, hM3.st _ _ (ex _ _ h1), c4.cl, c4.n4, tg4, dPort (portW es W), bp.map dPort, dp_port (SqT.of hk3), dp_ports (SqL.of (hM3.st _ _ i7)) (i8.mono fun _ _ z => same_tup hM3.st z), (shp_port _).shaped, (shp_ports _).shaped, _, rfl, ?_⟩
      rw [any_port2]
      refine ite2 (fun zb => ?_) (fun zb => ?_)
      · have es1 : sendT N es bp T W τ = ⟨T.dl, setF T.fr (portW es W) (some (τ + (entW es W).s.ln)), if W.2.1 > 0 then setF T.qs (portW es W) (T.qs (portW es W)).tail else T.qs, T.cm, setF T.ls (W.1, W.2.2) true⟩ := by
          unfold sendT
          rw [if_pos zb]
        rw [es1] at q1
        refine ⟨_, rfl, t, C4, dx, _, _, rfl, hM3.st _ _ (ex _ _ h1), c4.cl, c4.n9, tg9, _, rfl, _, rfl, by show 2 ≤ sizeLine; decide, fun y ny => ?_⟩
        have hM4 := hM3.grow (same_new (o := .tup [V.int (W.1 : Int), V.int (W.2.2 : Int)]) ny)
        obtain ⟨kl, l1, l2, l3⟩ := hM4.lose (i := W.1) (k := W.2.2) (v := .bl true)
        exact ⟨A.ld, _, rfl, .inr ⟨_, key2 W.1 W.2.2, y, l1, rfl, upd_same, szl (by omega), rfl⟩, q1 _ l3⟩
      · have es1 : sendT N es bp T W τ = if W.2.1 + 1 = (entW es W).os.length then ⟨T.dl ++ [(τ + travel N (entW es W).s W.2.1, W.1, W.2.2)], setF T.fr (portW es W) (some (τ + (entW es W).s.ln)), if W.2.1 > 0 then setF T.qs (portW es W) (T.qs (portW es W)).tail else T.qs, T.cm, T.ls⟩ else ⟨T.dl, setF T.fr (portW es W) (some (τ + (entW es W).s.ln)), if W.2.1 > 0 then setF T.qs (portW es W) (T.qs (portW es W)).tail else T.qs, setF T.cm (τ + travel N (entW es W).s W.2.1) (T.cm (τ + travel N (entW es W).s W.2.1) ++ [(W.1, W.2.1 + 1, W.2.2)]), T.ls⟩ := by
          unfold sendT
          rw [if_neg zb]
        rw [es1] at q1
        have hS3 := hM3.st
        refine ⟨_, rfl, _, rfl, t, C4, dx, _, _, rfl, hS3 _ _ (ex _ _ h1), c4.cl, c4.n1, tg1, _, rfl, t, C4, dx, _, _, rfl, hS3 _ _ (ex _ _ h1), c4.cl, c4.n2, tg2, _, rfl, sl, _, _, _, rfl, rfl, SqL.of (hS3 _ _ i3), au, _, rfl, np, u, N, (entW es W).s, W.2.1, rfl, i2.same hS3, en.d, hu1.same hS3, eo.po, by have := wv.2; have := eo.len; omega, fun H4 s4 => ?_⟩
        have hM4 := hM3.grow s4
        have hS4 := hM4.st
        refine ⟨_, _, rfl, rfl, _, rfl, _, rfl, t, C4, dx, _, _, rfl, hS4 _ _ (ex _ _ h1), c4.cl, c4.n3, tg3, _, rfl, pl, _, _, _, rfl, rfl, SqL.of (hS4 _ _ i5), al, l, _, rfl, .inl (SqL.of (hS4 _ _ hl)), ?_⟩
        refine ⟨_, _, rfl, rfl, rfl, _, rfl, ?_⟩
        have elen : decide (V.int (W.2.1 : Int) = V.int (((ts.map V.ref).length : Nat) - 1 : Int)) = decide (W.2.1 + 1 = (entW es W).os.length) := by
          rw [dec_int, decide_eq_decide, List.length_map, hP.length]
          have h1 := wv.2
          have h2 := eo.len
          have h3 : (portsOf (entW es W).s.path).length = (entW es W).s.path.length - 1 := by
            unfold portsOf
            rw [List.length_zip, List.length_drop]
            omega
          rw [h3]
          omega
        show if decide (V.int (W.2.1 : Int) = V.int (((ts.map V.ref).length : Nat) - 1 : Int)) = true then _ else _
        rw [elen]
        refine ite2 (fun zl => ?_) (fun zl => ?_)
        · rw [if_pos (of_decide_eq_true zl)] at q1
          obtain ⟨dts, d1, d2, _⟩ := hM4.dlAt
          refine ⟨_, rfl, t, C4, dx, _, _, rfl, hS4 _ _ (ex _ _ h1), c4.cl, c4.n5, tg5, .inl ⟨rfl, _, SqL.of d1⟩, _, rfl, _, rfl, _, rfl, by show 3 ≤ sizeLine; decide, fun y ny => ?_⟩
          have sy := same_new (o := .tup (dlV (τ + travel N (entW es W).s W.2.1, W.1, W.2.2))) ny
          obtain ⟨dts', d1', d2', d3'⟩ := (hM4.grow sy).deliver (d := (τ + travel N (entW es W).s W.2.1, W.1, W.2.2)) upd_same
          exact ⟨A.dl, _, _, rfl, rfl, d1', szl (by rw [List.length_map]; omega), q1 _ d3'⟩
        · rw [if_neg (fun y => zl (decide_eq_true y))] at q1
          obtain ⟨kc, e1, e2⟩ := hM4.cdAt
          refine ⟨_, rfl, t, C4, dx, _, _, rfl, hS4 _ _ (ex _ _ h1), c4.cl, c4.n8, tg8, A.cd, rfl, .inl ⟨_, .inl e1⟩, _, rfl, Nat.zero_le _, fun l' nl' => ?_⟩
          have sl' := same_new (o := .lst []) nl'
          refine ⟨kc, .inl (τ + travel N (entW es W).s W.2.1), sl' _ _ e1, rfl, szl (by omega), fun v hv => ?_, fun hv => ?_⟩
          · obtain ⟨l2, ws, rfl, g1, g2, g3⟩ := (hM4.grow sl').come (W := (W.1, W.2.1 + 1, W.2.2)) (sl' _ _ e1) hv
            refine ⟨.inl ⟨rfl, _, SqL.of g1⟩, _, rfl, _, rfl, _, _, rfl, rfl, _, rfl, by show 3 ≤ sizeLine; decide, fun y ny => ?_⟩
            have sy := same_new (o := .tup (w3V (W.1, W.2.1 + 1, W.2.2))) ny
            exact ⟨l2, _, _, rfl, rfl, sy _ _ g1, szl (by rw [List.length_map]; omega), q1 _ (g3 _ y sy upd_same)⟩
          · obtain ⟨g2, g3⟩ := hM4.comeNew (W := (W.1, W.2.1 + 1, W.2.2)) e1 hv l' nl'
            have gl : (upd (upd H4 l' (.lst [])) A.cd (.dK (putK kc (.inl (τ + travel N (entW es W).s W.2.1)) (.ref l')))) l' = some (.lst []) := by rw [upd_ne (ne_of_none e1 nl').symm, upd_same]
            refine ⟨.inl ⟨rfl, _, SqL.of gl⟩, _, rfl, _, rfl, _, _, rfl, rfl, _, rfl, by show 3 ≤ sizeLine; decide, fun y ny => ?_⟩
            have sy := same_new (o := .tup (w3V (W.1, W.2.1 + 1, W.2.2))) ny
            exact ⟨l', _, _, rfl, rfl, sy _ _ gl, szl (by decide), q1 _ (g3 _ y sy upd_same)⟩
end
end My
/-! {k: v}, k a tuple. No row. -/
namespace My
open PySem PySem.Spec PyProof.Rows L2
def tDispT (tk tv : TE) : TE := fun σ H Q => ∀ p, H p = none → tk σ (upd H p (.dT [])) fun x H1 => tv σ H1 fun y H2 => H2 p = some (.dT []) ∧ ∃ (b : Addr) (key : List Key), x = .ref b ∧ H2 b = some (.tup (key.map kV)) ∧ Q (.ref p) (upd H2 p (.dT (putK [] key y)))
theorem pe_dispT {X : Cx} {k v : Expr} {tk tv : TE} {pos : Pos} (hu : X.A.units + 1 < cLine) (hk : PE X k tk) (hv : PE X v tv) : PE X (.Dict [some k] [v] pos) (tDispT tk tv) := by
  refine ⟨fun pins s σ H Q I q => ?_⟩
  have hn := I.hok.fresh (Nat.le_refl s.heap.objs.size)
  have I1 := I.laid (a := s.heap.objs.size) (o := .dT []) (h' := s.heap.push { cls := .type "dict", data := .dict #[] }) (t' := s.toks) (fun _ _ q => Heap.get?_push_of_some _ q) (Nat.le_refl _) (dt_empty s.heap I.big)
  refine wpAny_Dict_any rfl rfl (by simp) (by show 1 ≤ 15; decide) (thn ((pps_cons (pos := pos) hk hv pps_nil).run pins _ σ _ (fun ps H2 => match ps with
    | [(x, y)] => H2 s.heap.objs.size = some (.dT []) ∧ ∃ (b : Addr) (key : List Key), x = .ref b ∧ H2 b = some (.tup (key.map kV)) ∧ Q (.ref s.heap.objs.size) (upd H2 s.heap.objs.size (.dT (putK [] key y)))
    | _ => False) I1 (q _ hn)) fun ws s2 ⟨ps, H2, I2, rel, e⟩ => ?_)
  match ps, rel, e with
  | [(x, y)], rel, ⟨e, b, key, ex, eb, q2⟩ =>
    subst ex
    cases rel with
    | @cons a c as cs h t =>
      cases t
      obtain ⟨c1, c2⟩ := c
      obtain ⟨h1, h2⟩ := h
      cases (show c1 = Value.ref b from h1)
      obtain ⟨z, hd, xs, rel, dd⟩ := dt_of I2.hok e
      cases rel
      unfold storeAll
      rw [List.forIn_cons]
      have hroom : (tupleKind (mixKind X.prog X.w)).room X.A := by
        show X.A.units < cLine
        omega
      refine wpAny_bind (wpAny_bind (wpAny_dictSet_heap (hsz := by decide) hroom (key_of I2.hok eb) dd fun h' dd' hs => wpAny_pure ?_))
      dsimp only
      rw [List.forIn_nil]
      refine wpAny_pure ?_
      obtain ⟨o, es, ep, hq, g2, g3, g4, _, g5⟩ := dd'
      refine ⟨.ref s.heap.objs.size, _, d_write (ob := .dT (putK [] key y)) I2 (by rw [e]; exact True.intro) hs ⟨o, hq⟩ ⟨(by show 1 ≤ sizeLine; decide), hd, _, ((KT.put (kvs := []) (xs := []) .nil key eb h2)).keeps fun c ys ec => ?_, o, es, ep, hq, g2, g3, g4, g5⟩, rfl, q2⟩
      rw [upd_ne (ne_of ec e (fun z => nomatch z))]
      exact ec
end My
/-! for k, v in d.items(), d with tuples as keys, locked. No row. -/
namespace My
open PySem PySem.Spec PyProof.Rows L2
section
variable {X : Cx} {pins : List (Addr × Obj)} {σ : L2.St} {H : Hp} {s : Shared} {d : Addr} {o : Obj}
theorem frz_ent {kvs : List (List Key × V)} (I : L2.Inv X pins σ H s) (h : H d = some (.frz o (.dT kvs))) :
    (d == sysModules) = false ∧ s.heap.get? d = some o ∧ o.ExactDict ∧ ∃ (es : Array DictEntry) (ep : Nat), o.data = .dict es ep ∧ es.size = kvs.length ∧
      ∀ (i : Nat) (k : List Key) (v : V), kvs[i]? = some (k, v) → ∃ (hi : i < es.size) (q : Addr), es[i].key = .ref q ∧ H q = some (.tup (k.map kV)) ∧ RelV v es[i].val := by
  obtain ⟨hd, z, hs, xs, pr, o', es, ep, ho, hx, hdt, he, _⟩ := I.hok d _ h
  rw [hd] at ho
  cases ho
  have l1 : es.size = xs.length := by rw [← Array.length_toList, he, List.length_map]
  have l2 : kvs.length = xs.length := Paired.length pr
  refine ⟨hs, hd, hx, es, ep, hdt, by omega, fun i k v e => ?_⟩
  obtain ⟨b, hb, e1, e2, e3⟩ := Paired.at pr e
  obtain ⟨hi, _⟩ := List.getElem?_eq_some_iff.mp hb
  have q : es.toList[i]? = some (⟨(tupleKind (mixKind X.prog X.w)).hash b.1, .ref b.2.1, b.2.2⟩ : DictEntry) := by
    rw [he, List.getElem?_map, hb]
    rfl
  have hi' : i < es.size := by omega
  have q2 : es[i] = (⟨(tupleKind (mixKind X.prog X.w)).hash b.1, .ref b.2.1, b.2.2⟩ : DictEntry) := by
    rw [Array.getElem?_toList, Array.getElem?_eq_getElem hi'] at q
    exact Option.some.inj q
  exact ⟨hi', b.2.1, by rw [q2], e2, by rw [q2]; exact e3⟩
end
/-- the pairs, each a new tuple of the key's own tuple and the value -/
def Itit (d : Addr) (o : Obj) (kvs : List (List Key × V)) : It :=
  ⟨fun i H => H d = some (.frz o (.dT kvs)) ∧ i < kvs.length, fun i H x H' => ∃ (T q : Addr) (k : List Key) (v : V), kvs[i]? = some (k, v) ∧ H q = some (.tup (k.map kV)) ∧ x = .ref T ∧ H T = none ∧ H' = upd H T (.tup [.ref q, v]), fun i H => H d = some (.frz o (.dT kvs)) ∧ kvs.length ≤ i⟩
theorem data_one {o : Obj} {es es' : Array DictEntry} {ep ep' : Nat} (h : o.data = .dict es ep) (h' : o.data = .dict es' ep') : es' = es ∧ ep' = ep := by
  rw [h] at h'
  cases h'
  exact ⟨rfl, rfl⟩
theorem turn_itemsT {P : Program} {w : World} {K : PySem.W.Frag} {d : Addr} {o : Obj} {es : Array DictEntry} {ep : Nat} {kvs : List (List Key × V)} {elts : List Expr} {kk : Nat} {tpos : Pos} (it : Addr) (hod : o.data = .dict es ep) :
    Turn P w K (.Tuple elts kk tpos) (Itit d o kvs) [it] it (fun i h => ∃ ok ov, IsItemIter h it d i kvs.length ep ok ov) where
  mem := by simp
  obj := fun i h st b hb => by
    obtain rfl : b = it := by simpa using hb
    obtain ⟨ok, ov, e⟩ := st
    exact ⟨_, e, fun v z => nomatch z⟩
  keep := fun i h h' st k => by
    obtain ⟨ok, ov, e⟩ := st
    exact ⟨ok, ov, k it (by simp) _ e⟩
  item := by
    intro X hP hw hK hc i pins s σ H E I hf st hg
    subst hP hw hK
    obtain ⟨hd, hi⟩ := hg
    obtain ⟨hs, hgd, hx, es', ep', hdt, hsz, ent⟩ := frz_ent I hd
    obtain ⟨rfl, rfl⟩ := data_one hod hdt
    obtain ⟨⟨k, v⟩, hkv⟩ : ∃ p, kvs[i]? = some p := ⟨kvs[i], List.getElem?_eq_getElem hi⟩
    obtain ⟨hie, q, hkey, hq, hv⟩ := ent i k v hkv
    obtain ⟨ok, ov, he⟩ := st
    have hlt : it < s.heap.objs.size := Heap.lt_size he
    rw [← hsz] at he
    refine DT.nextI he ⟨o, hgd, hx, hdt⟩ hie fun h' ho hT hz hk => ⟨_, rfl, wpAny_letOwnedTupleGo_items (s := { s with heap := h' }) ho fun h'' he' sb => ?_⟩
    have hT2 : h''.get? s.heap.objs.size = some { cls := .type "tuple", data := .seq #[es'[i].key, es'[i].val] } := (sb.2 _ (Nat.ne_of_gt hlt)).trans hT
    have new : ObjOk X.prog X.w (upd H s.heap.objs.size (.tup [.ref q, v])) h'' s.heap.objs.size (.tup [.ref q, v]) :=
      ⟨by show 2 ≤ sizeLine; decide, [es'[i].key, es'[i].val], .cons hkey (.cons hv .nil), ⟨_, hT2, rfl, _, rfl⟩⟩
    have I1 : L2.Inv X pins σ (upd H s.heap.objs.size (.tup [.ref q, v])) { s with heap := h'' } :=
      I.turnedNew (t' := s.toks) (ch := [it]) (fun b ob hb e => (sb.2 b (by simpa using hb)).trans (hk b ob (by simpa using hb) e)) hf (Nat.le_refl _) new
    refine ⟨.ref s.heap.objs.size, _, I1, rfl, ⟨_, q, k, v, hkv, hq, rfl, I.hok.fresh (Nat.le_refl _), rfl⟩, ⟨es'[i].key, es'[i].val, ?_⟩, fun b hb => ?_⟩
    · rw [← hsz]; exact he'
    · obtain rfl : b = it := by simpa using hb
      rw [upd_ne (Nat.ne_of_lt hlt)]
      exact (hf b (by simp)).1
  done := by
    intro X hP hw hK hc i pins s σ H E I hf st hg
    subst hP hw hK
    obtain ⟨hd, hi⟩ := hg
    obtain ⟨f0, f1, f2, f3, f4, f5⟩ := hf it (by simp)
    obtain ⟨hs, hgd, hx, es', ep', hdt, hsz, ent⟩ := frz_ent I hd
    obtain ⟨rfl, rfl⟩ := data_one hod hdt
    obtain ⟨ok, ov, he⟩ := st
    rw [← hsz] at he
    exact DT.endI (I.ok.hd hc) he ⟨o, hgd, hx, hdt⟩ (by omega) fun h' eb => ⟨rfl, I.turned (t' := s.toks) (fun b ob hb e => eb b ob hb e) f0 f1 f3 f4 f5⟩
  self := fun A i s Q E st h => by
    obtain ⟨_, _, e⟩ := st
    exact PySem.W.kcp_self e h
def iItemsT (td : TE) : TI := fun σ H R => td σ H fun x H1 => ∃ d o kvs, x = .ref d ∧ H1 d = some (.frz o (.dT kvs)) ∧ R (Itit d o kvs) H1
theorem pi_itemsT {X : Cx} {e : Expr} {td : TE} {apos cpos : Pos} {elts : List Expr} {kk : Nat} {tpos : Pos} (he : PE X e td) (hbase : attributeBase e "items" X.env (eval e X.env) = eval e X.env := by rfl) (hline : (apos.endLine == cpos.line) = true := by rfl) :
    PI X (.Tuple elts kk tpos) (.Call (.Attribute e "items" apos) [] [] cpos) (iItemsT td) := by
  refine ⟨fun pins s σ H R I h => ?_⟩
  refine wpAny_Call_method (T := "dict") (id := "dict.items") hbase rfl hline F.plainAttrs_dict F.slot_dict_items F.type_dict_items (thn (he.run pins s σ H _ I h) fun u s1 ⟨x, H1, I1, rx, d, o, kvs, ex, hd, q⟩ => ?_)
  subst ex
  obtain rfl : u = Value.ref d := rx
  obtain ⟨hs, hgd, hx, es, ep, hdt, hsz, ent⟩ := frz_ent I1 hd
  have raw : DT.Raw s1.heap d es ep := ⟨o, hgd, hx, hdt⟩
  have nod : ∀ b, Value.ref d = .ref b → ∃ ob, s1.heap.get? b = some ob ∧ ob.dict = none := fun b e => by
    injection e with e
    subst e
    exact ⟨o, hgd, hx.2.1⟩
  refine ⟨raw.typeIs, nod, ?_⟩
  have I2 : L2.Inv X pins σ H1 { s1 with heap := s1.heap.push { cls := .type "dict_items", data := .fields #[.ref d] } } := I1.kept (t' := s1.toks) fun b ob q => Heap.get?_push_of_some _ q
  have fin : wpAny (model X.prog X.w) X.A (pyIter (.ref s1.heap.objs.size)) (PIE X pins σ (.Tuple elts kk tpos) R) X.xe { s1 with heap := s1.heap.push { cls := .type "dict_items", data := .fields #[.ref d] } } := by
    refine DT.iterI (d := d) (es := es) (ep := ep) ⟨_, Heap.get?_push_size _ rfl, rfl, rfl⟩ (raw.push _) (pi_one (tk := s1.toks) I2 _ (turn_itemsT _ hdt) ⟨.none, .none, ?_⟩ q)
    rw [← hsz]
    exact Heap.get?_push_size _ rfl
  show wpAny _ _ (callWith cpos (.builtin "dict.items") [.ref d] [] []) _ X.xe s1
  exact method_meetsIn F.slot_dict_items F.entry_dict_items rfl (PySem.evalArgs_none ⟨rfl, raw.typeIs, F.args_dict_items_1 _, _, DT.meetsItems (es := es) (ep := ep) hs, ⟨raw, fin⟩⟩)
end My
namespace My
open PySem PySem.Spec PyProof.Rows L2
theorem QOk.nil : QOk [] := ⟨fun x h => (List.not_mem_nil h).elim, List.Pairwise.nil⟩
theorem valV_nodup {κ : Type} [DecidableEq κ] : ∀ {kq : List (κ × V)} {i : Nat} {k : κ} {v : V}, (kq.map (·.1)).Nodup → kq[i]? = some (k, v) → valV kq k = some v
  | [], i, k, v, _, h => by simp at h
  | (a, b) :: r, 0, k, v, _, h => by
    simp at h
    obtain ⟨rfl, rfl⟩ := h
    exact valV_pos rfl
  | (a, b) :: r, i + 1, k, v, hn, h => by
    rw [List.getElem?_cons_succ] at h
    rw [List.map_cons, List.nodup_cons] at hn
    rw [valV_neg (fun z => hn.1 (List.mem_map.mpr ⟨(k, v), List.mem_of_getElem? h, by show k = a; exact z.symm⟩))]
    exact valV_nodup hn.2 h
theorem sub_len {κ : Type} [DecidableEq κ] : ∀ {l m : List κ}, l.Nodup → (∀ x ∈ l, x ∈ m) → l.length ≤ m.length
  | [], _, _, _ => Nat.zero_le _
  | a :: l, m, hn, h => by
    have ha := h a List.mem_cons_self
    rw [List.nodup_cons] at hn
    have := sub_len (l := l) (m := m.erase a) hn.2 fun x hx => (List.mem_erase_of_ne (fun z => hn.1 (by rw [← z]; exact hx))).mpr (h x (List.mem_cons_of_mem _ hx))
    rw [List.length_erase_of_mem ha] at this
    have := List.length_pos_of_mem ha
    rw [List.length_cons]
    omega
theorem QOk.le {kq : List (List Key × V)} (h : QOk kq) : kq.length ≤ 256 := by
  have := sub_len (l := kq.map (·.1)) (m := (List.range 256).map fun n => key2 (n / 16) (n % 16)) h.2 fun x hx => by
    obtain ⟨y, hy, rfl⟩ := List.mem_map.mp hx
    obtain ⟨p, e, h1, h2⟩ := h.1 y hy
    refine List.mem_map.mpr ⟨p.1 * 16 + p.2, List.mem_range.mpr (by omega), ?_⟩
    show key2 _ _ = y.1
    rw [e, show (p.1 * 16 + p.2) / 16 = p.1 by omega, show (p.1 * 16 + p.2) % 16 = p.2 by omega]
  rw [List.length_map, List.length_map, List.length_range] at this
  exact this
theorem QOk.put {kq : List (List Key × V)} {a b : Nat} {v : V} (h : QOk kq) (ha : a < 16) (hb : b < 16) : QOk (putK kq (key2 a b) v) := by
  unfold putK
  by_cases e : (kq.any fun kv => decide (kv.1 = key2 a b)) = true
  · rw [if_pos e]
    refine ⟨fun x hx => ?_, ?_⟩
    · obtain ⟨y, hy, rfl⟩ := List.mem_map.mp hx
      obtain ⟨p, hp⟩ := h.1 y hy
      by_cases z : y.1 = key2 a b
      · rw [if_pos z]; exact ⟨p, hp⟩
      · rw [if_neg z]; exact ⟨p, hp⟩
    · rw [List.map_map]
      have : ((fun x : List Key × V => x.1) ∘ fun kv : List Key × V => if kv.1 = key2 a b then (kv.1, v) else kv) = fun x => x.1 := by
        funext y
        by_cases z : y.1 = key2 a b
        · show (if y.1 = key2 a b then (y.1, v) else y).1 = y.1
          rw [if_pos z]
        · show (if y.1 = key2 a b then (y.1, v) else y).1 = y.1
          rw [if_neg z]
      rw [this]
      exact h.2
  · rw [if_neg e]
    refine ⟨fun x hx => ?_, ?_⟩
    · rcases List.mem_append.mp hx with hx | hx
      · exact h.1 x hx
      · cases List.mem_singleton.mp hx
        exact ⟨(a, b), rfl, ha, hb⟩
    · rw [List.map_append, List.nodup_append]
      refine ⟨h.2, by simp, fun x hx y hy => ?_⟩
      cases List.mem_singleton.mp hy
      rintro rfl
      obtain ⟨kv, m, hkv⟩ := List.mem_map.mp hx
      exact e (List.any_eq_true.mpr ⟨kv, m, decide_eq_true hkv⟩)
section
variable {K : PySem.W.Frag} {H0 H : Hp} {A : Ads} {T : Tr} {M : Nat}
theorem MutAt.qdAt (h : MutAt K H0 H A T M) : ∃ kq : List (List Key × V), H A.qd = some (.dT kq) ∧ kq.length ≤ M ∧ QOk kq ∧ ∀ p : Nat × Nat, (valV kq (key2 p.1 p.2) = none ∧ T.qs p = []) ∨ ∃ l ws, valV kq (key2 p.1 p.2) = some (.ref l) ∧ H l = some (.lst (ws.map V.ref)) ∧ WsAt K H ws (T.qs p) := by
  obtain ⟨own, dts, kf, kq, kl, kc, s, n, df, qk, _, _, ⟨c1, c2, c3⟩, _⟩ := h
  refine ⟨kq, c1, c3, qk, fun p => ?_⟩
  rcases c2 p with f | ⟨l, ws, f1, f2, f3, f4, f5⟩
  · exact .inl f
  · exact .inr ⟨l, ws, f1, f4, f5⟩
theorem MutAt.cmAt (h : MutAt K H0 H A T M) (τ : Int) : ∃ kc : List (Key × V), H A.cd = some (.dK kc) ∧ ((valV kc (Sum.inl τ) = none ∧ T.cm τ = []) ∨ ∃ l ws, valV kc (Sum.inl τ) = some (.ref l) ∧ H l = some (.lst (ws.map V.ref)) ∧ WsAt K H ws (T.cm τ)) ∧ (T.cm τ).length ≤ M := by
  obtain ⟨own, dts, kf, kq, kl, kc, s, n, df, qk, _, _, _, ⟨d1, d2, d3, d4⟩, _⟩ := h
  refine ⟨kc, d1, ?_, d4 τ⟩
  rcases d2 τ with f | ⟨l, ws, f1, f2, f3, f4, f5⟩
  · exact .inl f
  · exact .inr ⟨l, ws, f1, f4, f5⟩
/-- a frame joins a queue that is there -/
theorem MutAt.push {p : Nat × Nat} {W : W3} {kq : List (List Key × V)} {v : V} (h : MutAt K H0 H A T M) (hk : H A.qd = some (.dT kq)) (hv : valV kq (key2 p.1 p.2) = some v) : ∃ (l : Addr) (ws : List Addr), v = .ref l ∧ H l = some (.lst (ws.map V.ref)) ∧ ws.length = (T.qs p).length ∧ ∀ H' y, Same H H' → H' y = some (.tup (w3V W)) → MutAt K H0 (upd H' l (.lst (ws.map V.ref ++ [V.ref y]))) A { T with qs := setF T.qs p (T.qs p ++ [W]) } M := by
  obtain ⟨own, dts, kf, kq', kl, kc, s, n, df, qk, ⟨a1, a2, a3, a4⟩, ⟨b1, b2, b3⟩, ⟨c1, c2, c3⟩, ⟨d1, d2, d3, d4⟩, ⟨e1, e2, e3⟩⟩ := h
  rw [hk] at c1
  cases c1
  rcases c2 p with ⟨f, _⟩ | ⟨l, ws, g1, g2, g3, g4, g5⟩
  · rw [f] at hv; cases hv
  · rw [g1] at hv
    cases hv
    refine ⟨l, ws, rfl, g4, g5.length, fun H' y e hy => ?_⟩
    have g4' := e _ _ g4
    have tp : ∀ a xs, H a = some (.tup xs) → (upd H' l (.lst (ws.map V.ref ++ [V.ref y]))) a = some (.tup xs) := fun a xs z => by rw [upd_ne (ne_of (e _ _ z) g4' (by intro y; cases y))]; exact e _ _ z
    refine ⟨own, dts, kf, kq, kl, kc, same_but (s.trans e) g3 but_self, n, df, qk, ⟨a1, ?_, a3.mono tp, a4⟩, ⟨?_, b2, b3⟩, ⟨?_, fun p' => ?_, c3⟩, ⟨?_, fun τ => ?_, d3, d4⟩, ⟨?_, e2, e3⟩⟩
    · rw [upd_ne (ne_own a1 g2 (by intro z; cases z))]; exact e _ _ a2
    · rw [upd_ne (ne_of (e _ _ b1) g4' (by intro y; cases y))]; exact e _ _ b1
    · rw [upd_ne (ne_of (e _ _ hk) g4' (by intro y; cases y))]; exact e _ _ hk
    · by_cases z : p' = p
      · subst z
        refine .inr ⟨l, ws ++ [y], g1, g2, g3, by rw [upd_same, List.map_append]; rfl, ?_⟩
        show WsAt K _ _ (setF T.qs p' (T.qs p' ++ [W]) p')
        rw [setF_same]
        refine Paired.snoc (F := fun (t : Addr) (w : W3) => _ = some (HO.tup (w3V w))) ?_ (g5.mono tp)
        rw [upd_ne (ne_of hy g4' (by intro y; cases y))]; exact hy
      · rcases c2 p' with ⟨f1, f2⟩ | ⟨l', ws', f1, f2, f3, f4, f5⟩
        · refine .inl ⟨f1, ?_⟩
          show setF T.qs p (T.qs p ++ [W]) p' = []
          rw [setF_ne z]; exact f2
        · refine .inr ⟨l', ws', f1, f2, f3, by rw [upd_ne (ne_own f2 g2 (by intro y; injection y with y; exact z y))]; exact e _ _ f4, ?_⟩
          show WsAt K _ _ (setF T.qs p (T.qs p ++ [W]) p')
          rw [setF_ne z]; exact f5.mono tp
    · rw [upd_ne (ne_of (e _ _ d1) g4' (by intro y; cases y))]; exact e _ _ d1
    · rcases d2 τ with f | ⟨l', ws', f1, f2, f3, f4, f5⟩
      · exact .inl f
      · exact .inr ⟨l', ws', f1, f2, f3, by rw [upd_ne (ne_own f2 g2 (by intro z; cases z))]; exact e _ _ f4, f5.mono tp⟩
    · rw [upd_ne (ne_of (e _ _ e1) g4' (by intro y; cases y))]; exact e _ _ e1
/-- .. that is not there -/
theorem MutAt.pushNew {p : Nat × Nat} {W : W3} {kq : List (List Key × V)} (h : MutAt K H0 H A T M) (hp1 : p.1 < 16) (hp2 : p.2 < 16) (hM : 256 ≤ M) (hk : H A.qd = some (.dT kq)) (hv : valV kq (key2 p.1 p.2) = none) (l : Addr) (nl : H l = none) : kq.length ≤ M ∧ ∀ H' y, (∀ b o, (upd (upd H l (.lst [])) A.qd (.dT (putK kq (key2 p.1 p.2) (.ref l)))) b = some o → H' b = some o) → H' y = some (.tup (w3V W)) → MutAt K H0 (upd H' l (.lst ([] ++ [V.ref y]))) A { T with qs := setF T.qs p (T.qs p ++ [W]) } M := by
  obtain ⟨own, dts, kf, kq', kl, kc, s, n, df, qk, ⟨a1, a2, a3, a4⟩, ⟨b1, b2, b3⟩, ⟨c1, c2, c3⟩, ⟨d1, d2, d3, d4⟩, ⟨e1, e2, e3⟩⟩ := h
  rw [hk] at c1
  cases c1
  have lp := length_putK kq (key2 p.1 p.2) (V.ref l)
  refine ⟨c3, fun H' y e hy => ?_⟩
  have ncl : A.qd ≠ l := ne_of_none hk nl
  have hl' : H' l = some (.lst []) := e _ _ (by rw [upd_ne ncl.symm, upd_same])
  have hc' : H' A.qd = some (.dT (putK kq (key2 p.1 p.2) (.ref l))) := e _ _ upd_same
  have keep : ∀ b o, H b = some o → b ≠ A.qd → (upd H' l (.lst ([] ++ [V.ref y]))) b = some o := fun b o z nb => by
    have nb2 : b ≠ l := ne_of_none z nl
    rw [upd_ne nb2]
    exact e _ _ (by rw [upd_ne nb, upd_ne nb2]; exact z)
  have tp : ∀ a xs, H a = some (.tup xs) → (upd H' l (.lst ([] ++ [V.ref y]))) a = some (.tup xs) := fun a xs z => keep _ _ z (ne_of z hk (by intro y; cases y))
  have empty : T.qs p = [] := by
    rcases c2 p with ⟨_, f⟩ | ⟨l', ws, g1, _⟩
    · exact f
    · rw [hv] at g1; cases g1
  refine ⟨fun a => if a = l then some (.q p) else own a, dts, kf, putK kq (key2 p.1 p.2) (.ref l), kl, kc, fun b o z => keep b o (s _ _ z) (ne_of_none z n.2.2.1), n, df, qk.put hp1 hp2, ⟨?_, keep _ _ a2 (ne_of a2 hk (by intro y; cases y)), a3.mono tp, a4⟩, ⟨keep _ _ b1 df.1, b2, b3⟩, ⟨?_, fun p' => ?_, by have := (qk.put (v := V.ref l) hp1 hp2).le; omega⟩, ⟨keep _ _ d1 (ne_of d1 hk (by intro y; cases y)), fun τ => ?_, d3, d4⟩, ⟨keep _ _ e1 df.2.2.symm, e2, e3⟩⟩
  · show (if A.dl = l then some (Tag.q p) else own A.dl) = _
    rw [if_neg (ne_of_none a2 nl)]; exact a1
  · rw [upd_ne ncl]; exact hc'
  · rw [valV_put]
    by_cases z : p' = p
    · subst z
      rw [if_pos rfl]
      refine .inr ⟨l, [y], rfl, if_pos rfl, ?_, upd_same, ?_⟩
      · cases z : H0 l with
        | none => rfl
        | some o => rw [s _ _ z] at nl; cases nl
      · show WsAt K _ _ (setF T.qs p' (T.qs p' ++ [W]) p')
        rw [setF_same, empty]
        refine .cons ?_ .nil
        rw [upd_ne (ne_of hy hl' (by intro y; cases y))]; exact hy
    · rw [if_neg (fun y => z (by obtain ⟨a, b⟩ := key2_inj y; exact Prod.ext a b))]
      rcases c2 p' with ⟨f1, f2⟩ | ⟨l', ws', f1, f2, f3, f4, f5⟩
      · refine .inl ⟨f1, ?_⟩
        show setF T.qs p (T.qs p ++ [W]) p' = []
        rw [setF_ne z]; exact f2
      · refine .inr ⟨l', ws', f1, by show (if l' = l then some (Tag.q p) else own l') = _; rw [if_neg (ne_of_none f4 nl)]; exact f2, f3, keep _ _ f4 (ne_of f4 hk (by intro y; cases y)), ?_⟩
        show WsAt K _ _ (setF T.qs p (T.qs p ++ [W]) p')
        rw [setF_ne z]; exact f5.mono tp
  · rcases d2 τ with f | ⟨l', ws', f1, f2, f3, f4, f5⟩
    · exact .inl f
    · exact .inr ⟨l', ws', f1, by show (if l' = l then some (Tag.q p) else own l') = _; rw [if_neg (ne_of_none f4 nl)]; exact f2, f3, keep _ _ f4 (ne_of f4 hk (by intro y; cases y)), f5.mono tp⟩
end
/-- a comprehension over the items of a locked dict with tuple keys -/
theorem lc_itemsT {d : Addr} {o : Obj} {kvs : List (List Key × V)} {g : TG} {tt : TT} {te : TE} {vs : List Nat} {σ : L2.St} {H1 : Hp} {D : Addr} {Qd : Hp → Prop} (Pv : Nat → Hp → Prop) (h0 : Pv 0 (upd H1 D (.lst []))) (hl : ∀ i H, i ≤ kvs.length → Pv i H → H d = some (.frz o (.dT kvs)))
    (hs : ∀ i k v q Tt H, kvs[i]? = some (k, v) → Pv i H → H q = some (.tup (k.map kV)) → H Tt = none → g (.ref Tt) (wipe σ vs) (upd H Tt (.tup [.ref q, v])) fun σ2 H2 => wipe σ2 vs = wipe σ vs ∧ tt σ2 H2 fun b H3 =>
      if b = true then te σ2 H3 fun y H4 => ∃ acc, H4 D = some (.lst acc) ∧ acc.length < sizeLine ∧ Pv (i + 1) (upd H4 D (.lst (acc ++ [y]))) else Pv (i + 1) H3) (hd : ∀ H, Pv kvs.length H → Qd H) :
    ∃ W : Nat → Nat → Hp → Prop, (∃ m, W 0 m (upd H1 D (.lst []))) ∧ ∀ i m H, W i m H →
      ((Itit d o kvs).stop i H ∧ Qd H) ∨ ((Itit d o kvs).go i H ∧ ∃ Nx : Hp → Prop, (∀ H', Nx H' → ∃ m', m' < m ∧ W (i + 1) m' H') ∧ ∀ x H', (Itit d o kvs).yld i H x H' → g x (wipe σ vs) H' fun σ2 H2 => wipe σ2 vs = wipe σ vs ∧ tt σ2 H2 fun b H3 =>
        if b = true then te σ2 H3 fun y H4 => ∃ acc, H4 D = some (.lst acc) ∧ acc.length < sizeLine ∧ Nx (upd H4 D (.lst (acc ++ [y]))) else Nx H3) := by
  refine ⟨fun i m H => m = kvs.length - i ∧ i ≤ kvs.length ∧ Pv i H, ⟨kvs.length, by simp, Nat.zero_le _, h0⟩, ?_⟩
  rintro i m H ⟨rfl, hi, p⟩
  have q := hl i H hi p
  by_cases hlt : i < kvs.length
  · refine .inr ⟨⟨q, hlt⟩, Pv (i + 1), fun H' p' => ⟨kvs.length - (i + 1), by omega, rfl, hlt, p'⟩, fun x H' y => ?_⟩
    obtain ⟨Tt, qq, k, v, e1, e2, rfl, e3, rfl⟩ := y
    exact hs i k v qq Tt H e1 p e2 e3
  · have e : i = kvs.length := by omega
    subst e
    exact .inl ⟨⟨q, Nat.le_refl _⟩, hd H p⟩
end My
namespace My
open PySem PySem.Spec PyProof.Rows L2
abbrev sPass : Stmt := inClass sTraffic 1 /-Traffic.pass_tick-/
section
variable (N : NetD) (es : List EntD) (bp : List (Nat × Nat))
def Pass (T : Tr) (τ : Int) (ops : List W3) (T' : Tr) : Prop := ∃ (T1 : Tr) (wt zs : List W3), ph1 N es bp τ ops T [] = some (T1, wt) ∧ zs.Perm (T1.cm τ) ∧ (∀ p, ((zs.foldl (pushT es) T1).qs p).length ≤ 1) ∧ ph4 N es bp τ wt (zs.foldl (pushT es) T1) = some T'
def Broke (T : Tr) (τ : Int) (ops : List W3) : Prop := ph1 N es bp τ ops T [] = none ∨ ∃ (T1 : Tr) (wt zs : List W3), ph1 N es bp τ ops T [] = some (T1, wt) ∧ zs.Perm (T1.cm τ) ∧ ((∃ p, 1 < ((zs.foldl (pushT es) T1).qs p).length) ∨ ph4 N es bp τ wt (zs.foldl (pushT es) T1) = none)
end
structure TrOk (es : List EntD) (T : Tr) : Prop where
  cm : ∀ σ, ∀ w ∈ T.cm σ, WV es w
  qs : ∀ p, (T.qs p).length ≤ 1
theorem sendT_cm {N : NetD} {es : List EntD} {bp : List (Nat × Nat)} {T : Tr} {w : W3} {τ : Int} (h : ∀ σ, ∀ w ∈ T.cm σ, WV es w) (hw : WV es w) : ∀ σ, ∀ x ∈ (sendT N es bp T w τ).cm σ, WV es x := by
  intro σ x hx
  unfold sendT at hx
  by_cases hb : bp.contains (portW es w) = true
  · rw [if_pos hb] at hx
    exact h _ _ hx
  · rw [if_neg hb] at hx
    by_cases hl : w.2.1 + 1 = (entW es w).os.length
    · rw [if_pos hl] at hx
      exact h _ _ hx
    · rw [if_neg hl] at hx
      have hx : x ∈ setF T.cm (τ + travel N (entW es w).s w.2.1) (T.cm (τ + travel N (entW es w).s w.2.1) ++ [(w.1, w.2.1 + 1, w.2.2)]) σ := hx
      by_cases z : σ = τ + travel N (entW es w).s w.2.1
      · rw [z, setF_same] at hx
        rcases List.mem_append.mp hx with hx | hx
        · exact h _ _ hx
        · cases List.mem_singleton.mp hx
          refine ⟨hw.1, ?_⟩
          have := hw.2
          show w.2.1 + 1 < (entW es w).os.length
          omega
      · rw [setF_ne z] at hx
        exact h _ _ hx
theorem sendT_qs {N : NetD} {es : List EntD} {bp : List (Nat × Nat)} {T : Tr} {w : W3} {τ : Int} : (sendT N es bp T w τ).qs = if w.2.1 > 0 then setF T.qs (portW es w) (T.qs (portW es w)).tail else T.qs := by
  unfold sendT
  by_cases hb : bp.contains (portW es w) = true
  · rw [if_pos hb]
  · rw [if_neg hb]
    by_cases hl : w.2.1 + 1 = (entW es w).os.length
    · rw [if_pos hl]
    · rw [if_neg hl]
theorem TrOk.send {N : NetD} {es : List EntD} {bp : List (Nat × Nat)} {T : Tr} {w : W3} {τ : Int} (h : TrOk es T) (hw : WV es w) : TrOk es (sendT N es bp T w τ) := by
  refine ⟨sendT_cm h.cm hw, fun p => ?_⟩
  rw [sendT_qs]
  by_cases z : w.2.1 > 0
  · rw [if_pos z]
    by_cases e : p = portW es w
    · rw [e, setF_same, List.length_tail]
      have := h.qs (portW es w)
      omega
    · rw [setF_ne e]
      exact h.qs p
  · rw [if_neg z]
    exact h.qs p
theorem isFst_ne {es : List EntD} {T : Tr} {w : W3} (h : isFst es T w = true) : T.qs (portW es w) ≠ [] := by
  intro z
  unfold isFst at h
  rw [z] at h
  have := of_decide_eq_true h
  cases this
theorem drop_at {α : Type} {l : List α} {i : Nat} {x : α} (h : l[i]? = some x) : l.drop i = x :: l.drop (i + 1) := by
  obtain ⟨hi, rfl⟩ := List.getElem?_eq_some_iff.mp h
  exact List.drop_eq_getElem_cons hi
theorem portW_lt {N : NetD} {es : List EntD} (en : EnvOk N es) {w : W3} (hw : WV es w) : (portW es w).1 < 16 ∧ (portW es w).2 < 16 := by
  have eo := en.ent hw
  have le := eo.len
  have h1 := hw.2
  have a := eo.po.ltk (k := w.2.1) (by omega)
  have b := eo.po.ltk (k := w.2.1 + 1) (by omega)
  have := en.nk
  exact ⟨by show (entW es w).s.path.getD w.2.1 0 < 16; omega, by show (entW es w).s.path.getD (w.2.1 + 1) 0 < 16; omega⟩
theorem Paired.perm {α β : Type} {F : α → β → Prop} {xs xs' : List α} (h : xs'.Perm xs) : ∀ {ys : List β}, Paired F xs ys → ∃ ys', ys'.Perm ys ∧ Paired F xs' ys' := by
  induction h with
  | nil => intro ys p; cases p; exact ⟨[], .nil, .nil⟩
  | cons x _ ih =>
    intro ys p
    cases p with
    | cons r t =>
      obtain ⟨zs, hz, hp⟩ := ih t
      exact ⟨_ :: zs, hz.cons _, .cons r hp⟩
  | swap x y l =>
    intro ys p
    cases p with
    | cons r t =>
      cases t with
      | cons r2 t => exact ⟨_, List.Perm.swap _ _ _, .cons r2 (.cons r t)⟩
  | trans _ _ ih1 ih2 =>
    intro ys p
    obtain ⟨zs, hz, hp⟩ := ih2 p
    obtain ⟨ws, hw, hq⟩ := ih1 hp
    exact ⟨ws, hw.trans hz, hq⟩
def unref : V → Addr
  | .ref a => a
  | _ => 0
theorem perm_refs {ys : List V} {us : List Addr} (h : ys.Perm (us.map V.ref)) : ∃ zs : List Addr, ys = zs.map V.ref ∧ zs.Perm us := by
  refine ⟨ys.map unref, ?_, ?_⟩
  · rw [List.map_map]
    have : ∀ y ∈ ys, (V.ref ∘ unref) y = y := fun y hy => by
      obtain ⟨a, _, rfl⟩ := List.mem_map.mp (h.mem_iff.mp hy)
      rfl
    rw [List.map_congr_left this, List.map_id']
  · have := h.map unref
    rw [List.map_map] at this
    have e : us.map (unref ∘ V.ref) = us := by
      have : (unref ∘ V.ref) = id := rfl
      rw [this, List.map_id]
    rw [e] at this
    exact this
def tripOf (H : Hp) : V → SrtO.I3
  | .ref t => match H t with
    | some (.tup [.int a, .int b, .int c]) => (a, b, c)
    | _ => (0, 0, 0)
  | _ => (0, 0, 0)
theorem tripOf_at {H : Hp} {t : Addr} {w : W3} (h : H t = some (.tup (w3V w))) : tripOf H (.ref t) = ((w.1 : Int), (w.2.1 : Int), (w.2.2 : Int)) := by
  have h' : H t = some (.tup [.int (w.1 : Int), .int (w.2.1 : Int), .int (w.2.2 : Int)]) := h
  simp only [tripOf, h']
theorem push_len {es : List EntD} : ∀ (zs : List W3) (T : Tr) (n : Nat), (∀ p, (T.qs p).length ≤ n) → ∀ p, ((zs.foldl (pushT es) T).qs p).length ≤ n + zs.length
  | [], T, n, h, p => h p
  | w :: r, T, n, h, p => by
    have := push_len (es := es) r (pushT es T w) (n + 1) (fun q => by
      show (setF T.qs (portW es w) (T.qs (portW es w) ++ [w]) q).length ≤ n + 1
      by_cases z : q = portW es w
      · rw [z, setF_same, List.length_append]
        have := h (portW es w)
        show (T.qs (portW es w)).length + 1 ≤ n + 1
        omega
      · rw [setF_ne z]
        have := h q
        omega) p
    rw [List.length_cons]
    show ((r.foldl (pushT es) (pushT es T w)).qs p).length ≤ _
    omega
theorem push_cm {es : List EntD} : ∀ (zs : List W3) (T : Tr), (zs.foldl (pushT es) T).cm = T.cm
  | [], T => rfl
  | w :: r, T => push_cm r (pushT es T w)
theorem valV_mem {κ : Type} [DecidableEq κ] : ∀ {kq : List (κ × V)} {k : κ} {v : V}, valV kq k = some v → ∃ j : Nat, kq[j]? = some (k, v)
  | [], k, v, h => by cases h
  | (a, b) :: r, k, v, h => by
    by_cases e : a = k
    · subst e
      rw [valV_pos rfl] at h
      cases h
      exact ⟨0, rfl⟩
    · rw [valV_neg e] at h
      obtain ⟨j, hj⟩ := valV_mem h
      exact ⟨j + 1, by rw [List.getElem?_cons_succ]; exact hj⟩
theorem updTwo {H : Hp} {a : Addr} {x y : HO} : upd (upd H a x) a y = upd H a y := by
  funext b
  by_cases z : b = a
  · subst z
    rw [upd_same, upd_same]
  · rw [upd_ne z, upd_ne z, upd_ne z]
section
variable {P : Program} {w : World} {K : PySem.W.Frag} {mg : Str → Option Value} {base : Heap}
theorem scPass : FnScope ["self", "tick", "opening", "waiting", "window", "crowded", "port", "queue"] ["self", "tick", "opening"] (defScope sPass) := ⟨rfl, rfl, rfl, by decide +kernel, rfl, by decide +kernel, by decide +kernel⟩
def spPass (K : PySem.W.Frag) (C C2 C4 : Addr) : Sp := fun vs H Q _ => ∃ (t ol : Addr) (τ : Int) (H0 : Hp) (A : Ads) (N : NetD) (es : List EntD) (bp : List (Nat × Nat)) (ots : List Addr) (ops : List W3) (T : Tr) (M : Nat), vs = [.ref t, .int τ, .ref ol] ∧ StatAt K C C2 C4 H0 t A N es bp ∧ EnvOk N es ∧ MutAt K H0 H A T M ∧ H0 ol = some (.lst (ots.map V.ref)) ∧ WsAt K H0 ots ops ∧ (∀ w ∈ ops, WV es w) ∧ TrOk es T ∧ 256 ≤ M ∧ M + 4 * ops.length ≤ 9000 ∧
  (∀ H' T', Pass N es bp T τ ops T' → MutAt K H0 H' A T' (M + 4 * ops.length) → Q .non H') ∧ (∀ r H' T', Broke N es bp T τ ops → MutAt K H0 H' A T' (M + 4 * ops.length) → Q (.ref r) H')
theorem ok_pass {f C C2 C4 fP fO fF fL fS : Addr} {fd fdP fdO fdF fdL fdS : FuncData} {k : Nat} (F : Fun K "pass_tick" "Traffic.pass_tick" sPass f fd) (c4 : TrC K C4) (mP : Meth K C4 "port_of" fP) (GP : MethOf P w K mg base 1 ["self", "window"] (spPortOf K C C2 C4) fP fdP) (mO : Meth K C4 "is_occupied" fO) (GO : MethOf P w K mg base 2 ["self", "window", "tick"] (spOcc K C C2 C4) fO fdO) (mF : Meth K C4 "is_first" fF) (GF : MethOf P w K mg base 2 ["self", "window"] (spIsF K C C2 C4) fF fdF) (mL : Meth K C4 "is_lost" fL) (GL : MethOf P w K mg base 1 ["self", "window"] (spIsL K C C2 C4) fL fdL) (mS : Meth K C4 "send" fS) (GS : MethOf P w K mg base 3 ["self", "window", "tick"] (spSend K C C2 C4) fS fdS) (hsorted : mg "sorted" = none) (hmin : mg "min" = none) (hlen : mg "len" = none) : FnOk P w K mg base CX0 (k + 4) f fd ["self", "tick", "opening"] (spPass K C C2 C4) := by
  refine F.ok scPass (fun vs H Q E h => ?_) (fun cdv A0 outer s0 H vs Q E hr h => ?_)
  · obtain ⟨t, ol, τ, H0, A, N, es, bp, ots, ops, T, M, rfl, _⟩ := h
    rfl
  · obtain ⟨t, ol, τ, H0, A, N, es, bp, ots, ops, T, M, rfl, hS, en, hM, hol, hops, hwv, hT, hm, hm2, q1, q2⟩ := h
    have nd := scPass.nd
    have hu := hu_of hr
    have hu65 := u65 hr
    have hu64 : (A0.deeper (envOfC (Str.ofString "Traffic.pass_tick") (defScope sPass) s0.heap.objs.size f cdv)).units + 64 < cLine := by omega
    have hr1 : Room 1 _ := hr.mono (by omega)
    have hr2 : Room 2 _ := hr.mono (by omega)
    have hr3 : Room 3 _ := hr.mono (by omega)
    obtain ⟨dx, np, sl, pl, bl, us, pls, bts, h1, _⟩ := id hS
    refine ⟨_, pss_cons (ps_set (i := 3) nd rfl (.inl rfl) (pe_lst pa_nil)) <| pss_cons (ps_for PassesOwn.never rfl (pi_list (pv 2)) (pg_name (i := 4) nd rfl (.inl rfl)) (pss_cons (ps_if (pt_val (pe_meth (pv 0) c4.cl mO GO.ok hr2 GO.b .nil pass0 (pa_cons (pv 4) (pa_cons (pv 1) pa_nil)))) (pss_one (ps_ret (pe_tup (pa_cons pe_str (pa_cons (pv 1) (pa_cons (pe_meth (pv 0) c4.cl mP GP.ok hr1 GP.b .nil pass0 (pa_cons (pv 4) pa_nil)) pa_nil)))))) (pss_nil)) <| pss_one (ps_if (PW.pt (pw_or (pt_cmpR op_eq (pe_ix ix_tup (pv 4) pe_int (fun _ _ => rfl)) pe_int (nomark _)) (pw_or1 (pt_val (pe_meth (pv 0) c4.cl mF GF.ok hr2 GF.b .nil pass0 (pa_cons (pv 4) pa_nil)))))) (pss_one (ps_expr (pe_meth (pv 0) c4.cl mS GS.ok hr3 GS.b .nil pass0 (pa_cons (pv 4) (pa_cons (pv 1) pa_nil))))) (pss_one (ps_if (pt_not (pt_val (pe_meth (pv 0) c4.cl mL GL.ok hr1 GL.b .nil pass0 (pa_cons (pv 4) pa_nil)))) (pss_one (ps_expr (pe_bm PySem.F.plainAttrs_list PySem.F.slot_list_append PySem.F.type_list_append mt_append (pv 3) (pa_cons (pv 4) pa_nil)))) (pss_nil)))))) <| pss_cons (ps_for PassesOwn.never rfl (pi_list (pe_callB cr_sortedT3 (by rfl) hsorted (by decide +kernel) (pa_cons (pe_dget2 hu (pe_fld (pv 0) rfl) (pv 1) (pe_lst pa_nil) ⟨rfl, rfl, rfl, rfl⟩) pa_nil))) (pg_name (i := 4) nd rfl (.inl rfl)) (pss_one (ps_expr (pe_bm PySem.F.plainAttrs_list PySem.F.slot_list_append PySem.F.type_list_append mt_append (pe_dsetdT hu (pe_fld (pv 0) rfl) (pe_meth (pv 0) c4.cl mP GP.ok hr1 GP.b .nil pass0 (pa_cons (pv 4) pa_nil)) (pe_lst pa_nil) ⟨rfl, rfl, rfl, rfl⟩) (pa_cons (pv 4) pa_nil))))) <| pss_cons (ps_lock <| ps_setLc (i := 5) (own := [("port", 6), ("queue", 7)]) (g := (gTup K 2 (gCons (gName 6) (gCons (gName 7) gNil)))) rfl nd rfl rfl (sw_true rfl rfl rfl (by decide +kernel)) (pi_itemsT (pe_fld (pv 0) rfl)) (blkOk_by (own := [("port", 6), ("queue", 7)]) (N := ["self", "tick", "opening", "waiting", "window", "crowded", "port", "queue"]) (sc := defScope sPass) (by decide +kernel)) (fun _ _ _ _ _ => pg_tupK (K := K) rfl (pgs_cons (pg_name (i := 6) nd rfl (Or.inl rfl)) (pgs_cons (pg_name (i := 7) nd rfl (Or.inl rfl)) pgs_nil))) (fun _ _ _ _ _ => pts_one (pt_cmpR op_gt (pe_callB (call_lenK (K := K)) (by rfl) hlen PySem.boot_len (pa_cons (pv 7) pa_nil)) pe_int (nomark _))) (fun _ _ _ _ _ => (pv 6))) <| pss_cons (ps_if (pt_truth (pv 5) (by intro _; rfl)) (pss_one (ps_ret (pe_tup (pa_cons pe_str (pa_cons (pv 1) (pa_cons (pe_callB (cr_minPorts rfl hu64) (by rfl) hmin (by decide +kernel) (pa_cons (pv 5) pa_nil)) pa_nil)))))) (pss_nil)) <| pss_cons (ps_for PassesOwn.never rfl (pi_list (pv 3)) (pg_name (i := 4) nd rfl (.inl rfl)) (pss_cons (ps_if (PW.pt (pw_or (pt_val (pe_meth (pv 0) c4.cl mO GO.ok hr2 GO.b .nil pass0 (pa_cons (pv 4) (pa_cons (pv 1) pa_nil)))) (pw_or1 (pt_not (pt_val (pe_meth (pv 0) c4.cl mF GF.ok hr2 GF.b .nil pass0 (pa_cons (pv 4) pa_nil))))))) (pss_one (ps_ret (pe_tup (pa_cons pe_str (pa_cons (pv 1) (pa_cons (pe_meth (pv 0) c4.cl mP GP.ok hr1 GP.b .nil pass0 (pa_cons (pv 4) pa_nil)) pa_nil)))))) (pss_nil)) <| pss_one (ps_expr (pe_meth (pv 0) c4.cl mS GS.ok hr3 GS.b .nil pass0 (pa_cons (pv 4) (pa_cons (pv 1) pa_nil)))))) <| pss_one (ps_ret pe_non), ?_⟩
    refine ⟨Nat.zero_le _, fun wl nwl => ?_⟩
    have nw0 : H0 wl = none := by
      cases z : H0 wl with
      | none => rfl
      | some o => rw [hM.st _ _ z] at nwl; cases nwl
    have sS : ∀ ts : List Addr, Same H0 (upd H0 wl (.lst (ts.map V.ref))) := fun ts => same_new nw0
    have hMw := hM.new (o := .lst (([] : List Addr).map V.ref)) nwl
    have lo : ots.length = ops.length := hops.length
    refine ⟨_, rfl, ol, rfl, ⟨_, SqL.of (hMw.st _ _ (sS [] _ _ hol))⟩, for_list (K := K) (a := ol) (xs := ots.map V.ref) (fun i σ H' => ∃ (T1 : Tr) (wt : List W3) (wts : List Addr) (v4 : Option V), σ = [some (.ref t), some (.int τ), some (.ref ol), some (.ref wl), v4, none, none, none] ∧ MutAt K (upd H0 wl (.lst (wts.map V.ref))) H' A T1 (M + 2 * i) ∧ WsAt K H0 wts wt ∧ TrOk es T1 ∧ (∀ x ∈ wt, WV es x) ∧ wt.length ≤ i ∧ ph1 N es bp τ (ops.drop i) T1 wt = ph1 N es bp τ ops T []) ⟨T, [], [], none, rfl, hMw, .nil, hT, fun x h => (List.not_mem_nil h).elim, Nat.le_refl _, rfl⟩ (fun i σ H' _ ⟨_, _, wts, _, _, m, _⟩ => SqL.of (m.st _ _ (sS wts _ _ hol))) ?_ ?_⟩
    · rintro i x σ H1 hi ⟨T1, wt, wts, v4, rfl, hM1, hwt, hT1, hwv1, lwt, hph⟩
      obtain ⟨t1, et, rfl⟩ := refs_at hi
      obtain ⟨W, eW, hW0⟩ := Paired.at hops et
      have wv := hwv W (List.mem_of_getElem? eW)
      have il : i < ops.length := (List.getElem?_eq_some_iff.mp eW).1
      have hSw := hS.same (sS wts)
      have hWw : SqT K (upd H0 wl (.lst (wts.map V.ref))) t1 (w3V W) := SqT.of (sS wts _ _ hW0)
      have lk : ∀ {H2 : Hp}, Same (upd H0 wl (.lst (wts.map V.ref))) H2 → H2 t = some (.ins C4 dx (trF np sl pl bl A)) := fun z => z _ _ (sS wts _ _ h1)
      rw [drop_at eW] at hph
      have hph : (if occ es T1 W τ then none else if W.2.1 = 0 ∨ isFst es T1 W = true then ph1 N es bp τ (ops.drop (i + 1)) (sendT N es bp T1 W τ) wt else if T1.ls (W.1, W.2.2) then ph1 N es bp τ (ops.drop (i + 1)) T1 wt else ph1 N es bp τ (ops.drop (i + 1)) T1 (wt ++ [W])) = ph1 N es bp τ ops T [] := hph
      refine ⟨_, rfl, t, dx, _, rfl, lk hM1.st, tm_is_occupied, _, rfl, _, rfl, t, t1, τ, _, A, N, es, bp, W, T1, _, rfl, hSw, en, hM1, same_tup hM1.st hWw, wv, _, rfl, ?_⟩
      refine ite2 (fun zo => ?_) (fun zo => ?_)
      · rw [if_pos zo] at hph
        refine ⟨_, rfl, _, rfl, t, dx, _, rfl, lk hM1.st, tm_port_of, _, rfl, t, t1, A, N, es, bp, W, rfl, hSw.same hM1.st, en, same_tup hM1.st hWw, wv, fun tq htq => ?_⟩
        refine ⟨by show 3 ≤ sizeLine; decide, fun y ny => ?_⟩
        exact q2 y _ T1 (.inl hph.symm) (((hM1.grow (same_new ny)).weak (sS wts)).more (by omega))
      · rw [if_neg zo] at hph
        dsimp only [tNext, tIfS]
        refine or_read2 (a := decide (W.2.1 = 0)) (b := isFst es T1 W) (fun Q h => ?_) (fun H2 s2 Q h => ?_) (fun H2 s2 => ?_)
        · refine ⟨_, rfl, t1, _, _, _, rfl, rfl, same_tup hM1.st hWw, rfl, rfl, _, rfl, ?_⟩
          show Q (decide (V.int (W.2.1 : Int) = V.int 0)) _
          rw [dec_int, show decide ((W.2.1 : Int) = 0) = decide (W.2.1 = 0) by rw [decide_eq_decide]; omega]
          exact h _ (Same.refl _)
        · have hM2 := hM1.grow s2
          exact ⟨_, rfl, t, dx, _, rfl, lk hM2.st, tm_is_first, _, rfl, t, t1, _, A, N, es, bp, W, T1, _, rfl, hSw, en, hM2, same_tup hM2.st hWw, wv, fun H3 s3 => ⟨_, rfl, h _ s3⟩⟩
        · have hM2 := hM1.grow s2
          refine ite2 (fun zs => ?_) (fun zs => ?_)
          · have zs' : W.2.1 = 0 ∨ isFst es T1 W = true := by
              rcases Bool.or_eq_true_iff.mp zs with h | h
              · exact .inl (of_decide_eq_true h)
              · exact .inr h
            rw [if_pos zs'] at hph
            refine ⟨_, rfl, t, dx, _, rfl, lk hM2.st, tm_send, _, rfl, _, rfl, t, t1, τ, _, A, N, es, bp, W, T1, _, rfl, hSw, en, hM2, hWw, wv, fun z => ?_, by omega, fun H3 hM3 => ?_⟩
            · rcases zs' with h | h
              · omega
              · exact isFst_ne h
            · exact ⟨_, wt, wts, _, rfl, hM3.more (by omega), hwt, hT1.send wv, hwv1, by omega, hph⟩
          · have zs' : ¬ (W.2.1 = 0 ∨ isFst es T1 W = true) := fun h => zs (Bool.or_eq_true_iff.mpr (h.imp decide_eq_true id))
            rw [if_neg zs'] at hph
            refine ⟨_, rfl, t, dx, _, rfl, lk hM2.st, tm_is_lost, _, rfl, t, t1, _, A, N, es, bp, W, T1, _, rfl, hSw, hM2, same_tup hM2.st hWw, fun H3 s3 => ⟨_, rfl, ?_⟩⟩
            have hM3 := hM2.grow s3
            cases zl : T1.ls (W.1, W.2.2) with
            | true =>
              rw [zl, if_pos rfl] at hph
              exact ⟨T1, wt, wts, _, rfl, hM3.more (by omega), hwt, hT1, hwv1, by omega, hph⟩
            | false =>
              rw [zl, if_neg (by decide)] at hph
              have hwl : H3 wl = some (.lst (wts.map V.ref)) := hM3.st _ _ upd_same
              have lw := hwt.length
              refine ⟨_, rfl, .inl ⟨rfl, _, SqL.of hwl⟩, _, rfl, wl, _, _, rfl, rfl, hwl, szl (by rw [List.length_map]; omega), ?_⟩
              have hM4 := hM3.wr (ys := (wts ++ [t1]).map V.ref) upd_same
              rw [updTwo] at hM4
              refine ⟨T1, wt ++ [W], wts ++ [t1], _, rfl, ?_, Paired.snoc (F := fun (t : Addr) (w : W3) => H0 t = some (HO.tup (w3V w))) hW0 hwt, hT1, ?_, by rw [List.length_append]; show wt.length + 1 ≤ i + 1; omega, hph⟩
              · rw [List.map_append] at hM4 ⊢
                exact hM4.more (by omega)
              · intro x hx
                rcases List.mem_append.mp hx with hx | hx
                · exact hwv1 x hx
                · cases List.mem_singleton.mp hx
                  exact wv
    · rintro σ H1 ⟨T1, wt, wts, v4, rfl, hM1, hwt, hT1, hwv1, lwt, hph⟩
      rw [List.length_map, lo] at hM1 lwt hph
      rw [List.drop_length] at hph
      have hph : some (T1, wt) = ph1 N es bp τ ops T [] := hph
      have sH0 := sS wts
      have hwl : (upd H0 wl (.lst (wts.map V.ref))) wl = some (.lst (wts.map V.ref)) := upd_same
      generalize (upd H0 wl (.lst (wts.map V.ref))) = Hs at hM1 sH0 hwl
      clear sS hMw nw0 nwl
      obtain ⟨kc, d1, d2, d3⟩ := hM1.cmAt τ
      have lk1 := hM1.st _ _ (sH0 _ _ h1)
      refine ⟨_, rfl, t, C4, dx, _, _, rfl, lk1, c4.cl, c4.n8, tg8, A.cd, rfl, .inl ⟨_, .inl d1⟩, _, rfl, Nat.zero_le _, fun e0 ne0 => ⟨valV kc (.inl τ), DGet.k (k := .inl τ) (same_new ne0 _ _ d1), ?_⟩⟩
      have se0 := same_new (o := .lst []) ne0
      obtain ⟨l', us', eo, hl', hW'⟩ : ∃ l' us', (valV kc (.inl τ)).getD (.ref e0) = .ref l' ∧ (upd H1 e0 (.lst [])) l' = some (.lst (us'.map V.ref)) ∧ WsAt K (upd H1 e0 (.lst [])) us' (T1.cm τ) := by
        rcases d2 with ⟨f1, f2⟩ | ⟨l, ws, f1, f4, f5⟩
        · rw [f1, f2]
          exact ⟨e0, [], rfl, upd_same, .nil⟩
        · rw [f1]
          exact ⟨l, ws, rfl, se0 _ _ f4, WsAt.mono (K := K) f5 fun _ _ z => se0 _ _ z⟩
      rw [eo]
      have hM2 := hM1.grow se0
      generalize (upd H1 e0 (.lst [])) = H2 at hM2 hl' hW' se0
      refine ⟨l', _, tripOf H2, rfl, SqL.of hl', fun x hx => ?_, fun ys p hsrt hperm npp => ?_⟩
      · obtain ⟨u, hu', rfl⟩ := List.mem_map.mp hx
        obtain ⟨j, hj⟩ := List.mem_iff_getElem?.mp hu'
        obtain ⟨w0, _, hw0⟩ := Paired.at hW' hj
        exact ⟨u, rfl, by rw [tripOf_at hw0]; exact hw0⟩
      · clear hsrt
        obtain ⟨zts, rfl, hzp⟩ := perm_refs hperm
        obtain ⟨zs, hzs, hZ⟩ := Paired.perm hzp hW'
        have hM3 := hM2.new (o := .lst (zts.map V.ref)) npp
        have hpp : (upd Hs p (.lst (zts.map V.ref))) p = some (.lst (zts.map V.ref)) := upd_same
        have np0 : Hs p = none := by
          cases z : Hs p with
          | none => rfl
          | some o => rw [hM2.st _ _ z] at npp; cases npp
        have sHs : Same Hs (upd Hs p (.lst (zts.map V.ref))) := same_new np0
        have sH2 : Same H2 (upd H2 p (.lst (zts.map V.ref))) := same_new npp
        have hZ3 : WsAt K (upd H2 p (.lst (zts.map V.ref))) zts zs := WsAt.mono (K := K) hZ fun _ _ z => sH2 _ _ z
        generalize (upd H2 p (.lst (zts.map V.ref))) = H3 at hM3 sH2 hZ3
        have sH03 := sH0.trans sHs
        have hwl3 := sHs _ _ hwl
        generalize (upd Hs p (.lst (zts.map V.ref))) = Hp3 at hM3 hpp sHs sH03 hwl3
        have hS3 := hS.same sH03
        have lz : zs.length ≤ M + 2 * ops.length := by rw [hzs.length_eq]; exact d3
        refine ⟨p, rfl, ⟨_, SqL.of (hM3.st _ _ hpp)⟩, for_list (K := K) (a := p) (xs := zts.map V.ref) (fun i σ H' => ∃ (v4 : Option V), σ = [some (.ref t), some (.int τ), some (.ref ol), some (.ref wl), v4, none, none, none] ∧ MutAt K Hp3 H' A ((zs.take i).foldl (pushT es) T1) (M + 2 * ops.length) ∧ ∀ a xs, H3 a = some (.tup xs) → H' a = some (.tup xs)) ⟨_, rfl, hM3, fun _ _ z => z⟩ (fun i σ H' _ ⟨_, _, m, _⟩ => SqL.of (m.st _ _ hpp)) ?_ ?_⟩
        · rintro i x σ H4 hi ⟨v4', rfl, hM4, tp4⟩
          obtain ⟨t1, et, rfl⟩ := refs_at hi
          obtain ⟨W, eW, hW0⟩ := Paired.at hZ3 et
          have wv := hT1.cm τ W (hzs.mem_iff.mp (List.mem_of_getElem? eW))
          have il : i < zs.length := (List.getElem?_eq_some_iff.mp eW).1
          obtain ⟨kq, c1, c2, c3, c5⟩ := hM4.qdAt
          have hW4 := tp4 _ _ hW0
          have lk4 := hM4.st _ _ (sH03 _ _ h1)
          have pl := portW_lt en wv
          refine ⟨_, rfl, t, C4, dx, _, _, rfl, lk4, c4.cl, c4.n7, tg7, A.qd, rfl, .inr ⟨_, .inl c1⟩, _, rfl, t, dx, _, rfl, lk4, tm_port_of, _, rfl, t, t1, A, N, es, bp, W, rfl, hS3.same hM4.st, en, SqT.of hW4, wv, fun tq htq => ?_⟩
          refine ⟨Nat.zero_le _, fun l2 nl2 => ?_⟩
          have sl2 := same_new (o := .lst []) nl2
          have step : (zs.take (i + 1)).foldl (pushT es) T1 = pushT es ((zs.take i).foldl (pushT es) T1) W := by
            rw [take_snoc eW, List.foldl_append]
            rfl
          refine ⟨kq, key2 (portW es W).1 (portW es W).2, tq, sl2 _ _ c1, rfl, sl2 _ _ htq, szl (by omega), fun v hv => ?_, fun hv => ?_⟩
          · obtain ⟨l3, ws, rfl, g1, g2, g3⟩ := (hM4.grow sl2).push (p := portW es W) (W := W) (sl2 _ _ c1) hv
            have ql := push_len (es := es) (zs.take i) T1 1 hT1.qs (portW es W)
            rw [List.length_take] at ql
            refine ⟨.inl ⟨rfl, _, SqL.of g1⟩, _, rfl, l3, _, _, rfl, rfl, g1, szl (by rw [List.length_map]; omega), _, rfl, ?_, fun a xs z => ?_⟩
            · rw [step]
              exact g3 _ t1 (Same.refl _) (sl2 _ _ hW4)
            · rw [upd_ne (ne_of (sl2 _ _ (tp4 _ _ z)) g1 (by intro y; cases y))]
              exact sl2 _ _ (tp4 _ _ z)
          · obtain ⟨g2, g3⟩ := hM4.pushNew (p := portW es W) (W := W) pl.1 pl.2 (by omega) c1 hv l2 nl2
            have gl : (upd (upd H4 l2 (.lst [])) A.qd (.dT (putK kq (key2 (portW es W).1 (portW es W).2) (.ref l2)))) l2 = some (.lst []) := by rw [upd_ne (ne_of_none c1 nl2).symm, upd_same]
            have tpx : ∀ a xs, H4 a = some (.tup xs) → (upd (upd H4 l2 (.lst [])) A.qd (.dT (putK kq (key2 (portW es W).1 (portW es W).2) (.ref l2)))) a = some (.tup xs) := fun a xs z => by
              rw [upd_ne (ne_of z c1 (by intro y; cases y)), upd_ne (ne_of_none z nl2)]
              exact z
            refine ⟨.inl ⟨rfl, _, SqL.of gl⟩, _, rfl, l2, _, _, rfl, rfl, gl, szl (by decide), _, rfl, ?_, fun a xs z => ?_⟩
            · rw [step]
              exact g3 _ t1 (fun _ _ z => z) (tpx _ _ hW4)
            · rw [upd_ne (ne_of (tpx _ _ (tp4 _ _ z)) gl (by intro y; cases y))]
              exact tpx _ _ (tp4 _ _ z)
        · rintro σ H4 ⟨v4', rfl, hM4, tp4⟩
          rw [List.length_map, hZ3.length, List.take_length] at hM4
          obtain ⟨kq, c1, c2, c3, c5⟩ := hM4.qdAt
          have lk4 := hM4.st _ _ (sH03 _ _ h1)
          refine ⟨A.qd, .dT kq, c1, True.intro, fun od => ?_⟩
          have bl4 : But A.qd H4 (upd H4 A.qd (.frz od (.dT kq))) := but_self
          have hq5 : (upd H4 A.qd (.frz od (.dT kq))) A.qd = some (.frz od (.dT kq)) := upd_same
          generalize (upd H4 A.qd (.frz od (.dT kq))) = H5 at bl4 hq5
          have lk5 := bl4 _ _ lk4 (ne_of lk4 c1 (by intro y; cases y))
          refine ⟨_, rfl, t, C4, dx, _, _, rfl, lk5, c4.cl, c4.n7, tg7, A.qd, od, kq, rfl, hq5, fun D nD => ?_⟩
          refine lc_itemsT (fun i H' => Same H5 H' ∧ ∃ (us : List Addr) (ps : List (Nat × Nat)), H' D = some (.lst (us.map V.ref)) ∧ PairsAt K H' us ps ∧ us.length ≤ i ∧ (ps = [] → ∀ j, j < i → ∀ v (p : Nat × Nat), kq[j]? = some (key2 p.1 p.2, v) → (((zs.foldl (pushT es) T1).qs p)).length ≤ 1) ∧ (ps ≠ [] → ∃ p, 1 < ((zs.foldl (pushT es) T1).qs p).length)) ⟨same_new nD, [], [], upd_same, .nil, Nat.le_refl _, fun _ j h => by omega, fun h => absurd rfl h⟩ (fun i H' _ z => z.1 _ _ hq5) ?_ ?_
          · rintro i k v q Tt H6 hi ⟨s6, us, ps, hD6, hP6, lu, no, ye⟩ hq nT
            have il : i < kq.length := (List.getElem?_eq_some_iff.mp hi).1
            obtain ⟨p0, rfl, hp1, hp2⟩ : ∃ p : Nat × Nat, k = key2 p.1 p.2 ∧ p.1 < 16 ∧ p.2 < 16 := c3.1 _ (List.mem_of_getElem? hi)
            have hv := valV_nodup c3.2 hi
            rcases c5 p0 with ⟨f, _⟩ | ⟨l, ws, f1, f2, f3⟩
            · rw [f] at hv; cases hv
            · rw [f1] at hv
              cases hv
              have sT := same_new (o := .tup [.ref q, .ref l]) nT
              have hl6 := sT _ _ (s6 _ _ (bl4 _ _ f2 (ne_of f2 c1 (by intro y; cases y))))
              refine ⟨Tt, _, rfl, SqT.of upd_same, rfl, _, _, rfl, _, _, rfl, rfl, rfl, _, rfl, l, _, rfl, .inl (SqL.of hl6), ?_⟩
              have lw := f3.length
              refine ⟨_, _, rfl, rfl, _, rfl, ?_⟩
              have hD7 := sT _ _ hD6
              have hq7 := sT _ _ hq
              refine ite2 (fun z => ?_) (fun z => ?_)
              · have z := of_decide_eq_true z
                rw [List.length_map] at z
                refine ⟨_, rfl, _, hD7, szl (by rw [List.length_map]; omega), same_but (s6.trans sT) nD but_self, us ++ [q], ps ++ [p0], by rw [upd_same, List.map_append]; rfl, ?_, by rw [List.length_append]; show us.length + 1 ≤ i + 1; omega, fun h => ?_, fun _ => ⟨p0, by omega⟩⟩
                · refine Paired.snoc (F := fun (t : Addr) (p : Nat × Nat) => SqT K _ t [.int (p.1 : Int), .int (p.2 : Int)]) ?_ ?_
                  · exact But.tupL but_self hD7 (SqT.of hq7)
                  · exact PairsAt.mono hP6 fun a ys z => But.tupL but_self hD7 (same_tup sT z)
                · simp at h
              · have z : ¬ ws.length > 1 := fun y => z (decide_eq_true (by rw [List.length_map]; omega))
                refine ⟨s6.trans sT, us, ps, hD7, PairsAt.mono hP6 fun a ys z => same_tup sT z, by omega, fun h j hj v p hjv => ?_, ye⟩
                by_cases e : j = i
                · rw [e, hi] at hjv
                  obtain ⟨e1, _⟩ := Prod.mk.inj (Option.some.inj hjv)
                  obtain ⟨a, b⟩ := key2_inj e1
                  rw [show p = p0 from Prod.ext a.symm b.symm]
                  omega
                · exact no h j (by omega) v p hjv
          · rintro H6 ⟨s6, us, ps, hD6, hP6, lu, no, ye⟩
            refine ⟨s6 _ _ hq5, ?_⟩
            have s4 : Same H4 (upd H6 A.qd (.dT kq)) := fun b o z => by
              by_cases e : b = A.qd
              · subst e
                rw [c1] at z
                cases z
                exact upd_same
              · rw [upd_ne e]
                exact s6 _ _ (bl4 _ _ z e)
            have nDq : D ≠ A.qd := (ne_of_none hq5 nD).symm
            have hD7 : (upd H6 A.qd (.dT kq)) D = some (.lst (us.map V.ref)) := by rw [upd_ne nDq]; exact hD6
            have hP7 : PairsAt K (upd H6 A.qd (.dT kq)) us ps := PairsAt.mono hP6 fun a ys z => by
              have hq6 := s6 _ _ hq5
              rcases z with (z | ⟨o, z⟩) | z
              · exact .inl (.inl (by rw [upd_ne (ne_of z hq6 (by intro y; cases y))]; exact z))
              · exact .inl (.inr ⟨o, by rw [upd_ne (ne_of z hq6 (by intro y; cases y))]; exact z⟩)
              · exact .inr z
            have hM5 := hM4.grow s4
            generalize (upd H6 A.qd (.dT kq)) = H7 at hD7 hP7 hM5
            have lk7 := hM5.st _ _ (sH03 _ _ h1)
            have wt5 : WsAt K Hp3 wts wt := WsAt.mono (K := K) hwt fun _ _ z => sH03 _ _ z
            have lu2 := hP7.length
            refine ⟨_, rfl, _, .inl ⟨_, SqL.of hD7, rfl⟩, ?_⟩
            refine ite2 (fun z => ?_) (fun z => ?_)
            · have zne : ps ≠ [] := fun y => by
                rw [y] at lu2
                rw [List.eq_nil_of_length_eq_zero lu2] at z
                cases z
              refine ⟨_, rfl, _, rfl, D, us, ps, rfl, SqL.of hD7, hP7, zne, fun tt htt => ?_⟩
              refine ⟨by show 3 ≤ sizeLine; decide, fun y ny => ?_⟩
              exact q2 y _ _ (.inr ⟨T1, wt, zs, hph.symm, hzs, .inl (ye zne)⟩) (((hM5.grow (same_new ny)).weak sH03).more (by omega))
            · have zps : ps = [] := by
                cases us with
                | nil => exact List.eq_nil_of_length_eq_zero lu2.symm
                | cons a r => exact absurd rfl z
              have le1 : ∀ p, ((zs.foldl (pushT es) T1).qs p).length ≤ 1 := fun p => by
                rcases c5 p with ⟨_, f⟩ | ⟨l, ws, f1, _, _⟩
                · rw [f]; exact Nat.zero_le _
                · obtain ⟨j, hj⟩ := valV_mem f1
                  exact no zps j (List.getElem?_eq_some_iff.mp hj).1 _ p hj
              have ok2 : TrOk es (zs.foldl (pushT es) T1) := ⟨by rw [push_cm]; exact hT1.cm, le1⟩
              have lw := wt5.length
              refine ⟨_, rfl, wl, rfl, ⟨_, SqL.of (hM5.st _ _ hwl3)⟩, for_list (K := K) (a := wl) (xs := wts.map V.ref) (fun i σ H' => ∃ (T3 : Tr) (v4 : Option V), σ = [some (.ref t), some (.int τ), some (.ref ol), some (.ref wl), v4, some (.ref D), none, none] ∧ MutAt K Hp3 H' A T3 (M + 2 * ops.length + 2 * i) ∧ TrOk es T3 ∧ ph4 N es bp τ (wt.drop i) T3 = ph4 N es bp τ wt (zs.foldl (pushT es) T1)) ⟨_, _, rfl, hM5, ok2, rfl⟩ (fun i σ H' _ ⟨_, _, _, m, _⟩ => SqL.of (m.st _ _ hwl3)) ?_ ?_⟩
              · rintro i x σ H8 hi ⟨T3, v4', rfl, hM8, ok3, hp4⟩
                obtain ⟨t1, et, rfl⟩ := refs_at hi
                obtain ⟨W, eW, hW0⟩ := Paired.at wt5 et
                have wv := hwv1 W (List.mem_of_getElem? eW)
                have il : i < wt.length := (List.getElem?_eq_some_iff.mp eW).1
                have hWw : SqT K Hp3 t1 (w3V W) := SqT.of hW0
                have lk8 : ∀ {H2 : Hp}, Same Hp3 H2 → H2 t = some (.ins C4 dx (trF np sl pl bl A)) := fun z => z _ _ (sH03 _ _ h1)
                rw [drop_at eW] at hp4
                have hp4 : (if occ es T3 W τ || !isFst es T3 W then none else ph4 N es bp τ (wt.drop (i + 1)) (sendT N es bp T3 W τ)) = ph4 N es bp τ wt (zs.foldl (pushT es) T1) := hp4
                refine or_read2 (a := occ es T3 W τ) (b := !isFst es T3 W) (fun Q h => ?_) (fun H9 s9 Q h => ?_) (fun H9 s9 => ?_)
                · exact ⟨_, rfl, t, dx, _, rfl, lk8 hM8.st, tm_is_occupied, _, rfl, _, rfl, t, t1, τ, _, A, N, es, bp, W, T3, _, rfl, hS3, en, hM8, same_tup hM8.st hWw, wv, _, rfl, h _ (Same.refl _)⟩
                · have hM9 := hM8.grow s9
                  exact ⟨_, rfl, t, dx, _, rfl, lk8 hM9.st, tm_is_first, _, rfl, t, t1, _, A, N, es, bp, W, T3, _, rfl, hS3, en, hM9, same_tup hM9.st hWw, wv, fun H3 s3 => ⟨_, rfl, h _ s3⟩⟩
                · have hM9 := hM8.grow s9
                  refine ite2 (fun z => ?_) (fun z => ?_)
                  · rw [if_pos z] at hp4
                    refine ⟨_, rfl, _, rfl, t, dx, _, rfl, lk8 hM9.st, tm_port_of, _, rfl, t, t1, A, N, es, bp, W, rfl, hS3.same hM9.st, en, same_tup hM9.st hWw, wv, fun tq htq => ?_⟩
                    refine ⟨by show 3 ≤ sizeLine; decide, fun y ny => ?_⟩
                    exact q2 y _ T3 (.inr ⟨T1, wt, zs, hph.symm, hzs, .inr hp4.symm⟩) (((hM9.grow (same_new ny)).weak sH03).more (by omega))
                  · rw [if_neg z] at hp4
                    have zf : isFst es T3 W = true := by
                      cases e : isFst es T3 W with
                      | true => rfl
                      | false => rw [e] at z; exact absurd (by rw [Bool.not_false, Bool.or_true]) z
                    refine ⟨_, rfl, t, dx, _, rfl, lk8 hM9.st, tm_send, _, rfl, _, rfl, t, t1, τ, _, A, N, es, bp, W, T3, _, rfl, hS3, en, hM9, hWw, wv, fun _ => isFst_ne zf, by omega, fun H3 hM3 => ?_⟩
                    exact ⟨_, _, rfl, hM3.more (by omega), ok3.send wv, hp4⟩
              · rintro σ H8 ⟨T3, v4', rfl, hM8, ok3, hp4⟩
                rw [List.length_map, lw] at hM8 hp4
                rw [List.drop_length] at hp4
                have hp4 : some T3 = ph4 N es bp τ wt (zs.foldl (pushT es) T1) := hp4
                exact q1 _ T3 ⟨T1, wt, zs, hph.symm, hzs, le1, hp4.symm⟩ ((hM8.weak sH03).more (by omega))
end
end My
namespace My
open PySem PySem.Spec PyProof.Rows L2
abbrev sTInit : Stmt := inClass sTraffic 0 /-Traffic.__init__-/
def bpOf : Option (Nat × Nat) → List (Nat × Nat)
  | none => []
  | some (x, y) => [(x, y), (y, x)]
def BrkAt (K : PySem.W.Frag) (H : Hp) (v : V) (bo : Option (Nat × Nat)) : Prop := (v = .non ∧ bo = none) ∨ ∃ (tb : Addr) (p : Nat × Nat), v = .ref tb ∧ bo = some p ∧ SqT K H tb (portV p)
theorem mut0 {K : PySem.W.Frag} {H0 H : Hp} {A : Ads} (s : Same H0 H) (n : H0 A.dl = none ∧ H0 A.ff = none ∧ H0 A.qd = none ∧ H0 A.cd = none ∧ H0 A.ld = none) (df : A.ff ≠ A.qd ∧ A.ff ≠ A.ld ∧ A.qd ≠ A.ld) (h1 : H A.dl = some (.lst [])) (h2 : H A.ff = some (.dT [])) (h3 : H A.qd = some (.dT [])) (h4 : H A.cd = some (.dK [])) (h5 : H A.ld = some (.dT [])) : MutAt K H0 H A tr0 256 :=
  ⟨fun _ => some .d, [], [], [], [], [], s, n, df, QOk.nil, ⟨rfl, h1, .nil, Nat.zero_le _⟩, ⟨h2, fun _ => rfl, Nat.zero_le _⟩, ⟨h3, fun _ => .inl ⟨rfl, rfl⟩, Nat.zero_le _⟩, ⟨h4, fun _ => .inl ⟨rfl, rfl⟩, Nat.zero_le _, fun _ => Nat.zero_le _⟩, ⟨h5, fun _ _ => rfl, Nat.zero_le _⟩⟩
theorem stepNew {H : Hp} {p a : Addr} {o v u : HO} (hp : H p = some v) (na : H a = none) : But p H (upd (upd H a o) p u) ∧ (upd (upd H a o) p u) p = some u ∧ (upd (upd H a o) p u) a = some o ∧ a ≠ p := by
  have n : a ≠ p := (ne_of_none hp na).symm
  exact ⟨but_new na, upd_same, by rw [upd_ne n, upd_same], n⟩
theorem But.none {H H' : Hp} {p a : Addr} (b : But p H H') (n : a ≠ p) (h : H' a = none) : H a = none := by
  cases z : H a with
  | none => rfl
  | some o => rw [b _ _ z n] at h; cases h
section
variable {P : Program} {w : World} {K : PySem.W.Frag} {mg : Str → Option Value} {base : Heap}
theorem scTInit : FnScope ["self", "net", "plan", "broken", "entry", "stream"] ["self", "net", "plan", "broken"] (defScope sTInit) := ⟨rfl, rfl, rfl, by decide +kernel, rfl, by decide +kernel, by decide +kernel⟩
def spTInit (K : PySem.W.Frag) (C C2 C4 : Addr) : Sp := fun vs H Q _ => ∃ (p dx np pl : Addr) (bv : V) (N : NetD) (ts : List Addr) (es : List EntD) (bo : Option (Nat × Nat)) (Hx : Hp), vs = [.ref p, .ref np, .ref pl, bv] ∧ H p = some (.ins C4 dx []) ∧ Same Hx H ∧ Hx p = none ∧ NetAt K C Hx np N ∧ SqL K Hx pl (ts.map V.ref) ∧ EntsAt K C2 Hx ts es ∧ BrkAt K Hx bv bo ∧ es.length ≤ 1000 ∧
  ∀ (H0 H' : Hp) (A : Ads), Same Hx H0 → StatAt K C C2 C4 H0 p A N es (bpOf bo) → MutAt K H0 H' A tr0 256 → Q .non H'
theorem ok_tinit {f C C2 C4 fP : Addr} {fd fdP : FuncData} {k : Nat} (F : Fun K "__init__" "Traffic.__init__" sTInit f fd) (c2 : StrC K C2) (c4 : TrC K C4) (GP : Callee P w K mg base 1 "ports_of" ["path"] (spPoT K) fP fdP) : FnOk P w K mg base CX0 (k + 2) f fd ["self", "net", "plan", "broken"] (spTInit K C C2 C4) := by
  refine F.ok scTInit (fun vs H Q E h => ?_) (fun cdv A0 outer s0 H vs Q E hr h => ?_)
  · obtain ⟨p, dx, np, pl, bv, N, ts, es, bo, Hx, rfl, _⟩ := h
    rfl
  · obtain ⟨p, dx, np, pl, bv, N, ts, es, bo, Hx, rfl, hp, sx, nx, hN, hpl, hE, hB, hl, q⟩ := h
    have nd := scTInit.nd
    have hr1 : Room 1 _ := hr.mono (by omega)
    refine ⟨_, PSs.nox (pss_cons (ps_fld (pv 0) (pv 1) rfl) <| pss_cons (ps_fld (pv 0) (pe_lc (own := [("entry", 4)]) (g := gName 4) (tt := tYes) rfl nd (pi_list (pv 2)) (blkOk_by (own := [("entry", 4)]) (N := ["self", "net", "plan", "broken", "entry", "stream"]) (sc := defScope sTInit) (by decide +kernel)) (fun _ _ _ _ _ => pg_name (i := 4) nd rfl (Or.inl rfl)) (fun _ _ _ _ _ => pts_nil) (fun _ _ _ _ _ => (pe_ix (ix_tupK (K := K)) (pv 4) pe_int (fun _ _ => rfl)))) rfl) <| pss_cons (ps_fld (pv 0) (pe_lc (own := [("stream", 5)]) (g := gName 5) (tt := tYes) rfl nd (pi_list (pe_fld (pv 0) rfl)) (blkOk_by (own := [("stream", 5)]) (N := ["self", "net", "plan", "broken", "entry", "stream"]) (sc := defScope sTInit) (by decide +kernel)) (fun _ _ _ _ _ => pg_name (i := 5) nd rfl (Or.inl rfl)) (fun _ _ _ _ _ => pts_nil) (fun _ _ _ _ _ => (pe_call GP.ok hr1 (by rfl) GP.mg GP.kp GP.b .nil pass0 (pa_cons (pe_fldK (K := K) (pv 5)) pa_nil)))) rfl) <| C8.pss_cut (ps_fld (pv 0) (pe_ifExp (pt_cmpR op_isN (pv 3) pe_non (nomark _)) (pe_lst pa_nil) (pe_lst (pa_cons (pv 3) (pa_cons (pe_tup (pa_cons (pe_ix ix_tup (pv 3) pe_int (fun _ _ => rfl)) (pa_cons (pe_ix ix_tup (pv 3) pe_int (fun _ _ => rfl)) pa_nil))) pa_nil)))) rfl) <| pss_cons (ps_fld (pv 0) (pe_lst pa_nil) rfl) <| pss_cons (ps_fld (pv 0) pe_dnewT rfl) <| pss_cons (ps_fld (pv 0) pe_dnewT rfl) <| pss_cons (ps_fld (pv 0) pe_dnewK rfl) <| pss_one (ps_fld (pv 0) pe_dnewT rfl)), ?_⟩
    have k0 : ∀ {H' : Hp}, But p H H' → Same Hx H' := fun b => same_but sx nx b
    refine ⟨_, rfl, _, rfl, p, C4, dx, [], rfl, hp, c4.cl, c4.n1, (by show 0 < 1000; decide), ?_⟩
    have b1 : But p H (upd H p (.ins C4 dx (putF "net" (.ref np) []))) := but_self
    have p1 : (upd H p (.ins C4 dx (putF "net" (.ref np) []))) p = some (.ins C4 dx [(("net" : Str), V.ref np)]) := upd_same
    generalize (upd H p (.ins C4 dx (putF "net" (.ref np) []))) = H1 at b1 p1
    have s1 := k0 b1
    refine ⟨_, rfl, pl, rfl, ⟨_, s1.seq hpl⟩, fun D nD => ?_⟩
    refine lc_list (K := K) (a := pl) (xs := ts.map V.ref) (fun i H' => Same H1 H' ∧ ∃ us : List Addr, H' D = some (.lst (us.map V.ref)) ∧ Paired (fun u e => StreamAt C2 Hx u e.s) us (es.take i)) ⟨same_new nD, [], upd_same, .nil⟩ (fun i H' _ z => z.1.seq (s1.seq hpl)) ?_ ?_
    · rintro i v H' hi ⟨sm, us, hD, hU⟩
      obtain ⟨t, et, rfl⟩ := refs_at hi
      obtain ⟨e, ee, hT⟩ := Paired.at hE et
      obtain ⟨u, lo, g1, g2, g3⟩ := hT
      refine ⟨rfl, _, rfl, t, _, _, _, rfl, rfl, same_tup (s1.trans sm) g1, rfl, ?_⟩
      have lu := hU.length
      rw [List.length_take] at lu
      refine ⟨_, hD, szl (by rw [List.length_map]; omega), same_but sm nD but_self, us ++ [u], by rw [upd_same, List.map_append]; rfl, ?_⟩
      rw [take_snoc ee]
      exact Paired.snoc (F := fun (u : Addr) (e : EntD) => StreamAt C2 Hx u e.s) g2 hU
    rintro H2 ⟨s2, us, hD2, hU⟩
    rw [List.length_map, hE.length, List.take_length] at hU
    refine ⟨_, rfl, p, C4, dx, _, rfl, s2 _ _ p1, c4.cl, c4.n2, (by show 1 < 1000; decide), ?_⟩
    rw [tf2 (pl := p) (bl := p) (A := ⟨p, p, p, p, p⟩)]
    have b3 : But p H (upd H2 p (.ins C4 dx [(("net" : Str), V.ref np), ("streams", V.ref D)])) := (b1.trans (fun _ _ z _ => s2 _ _ z)).trans but_self
    have p3 : (upd H2 p (.ins C4 dx [(("net" : Str), V.ref np), ("streams", V.ref D)])) p = some (.ins C4 dx [(("net" : Str), V.ref np), ("streams", V.ref D)]) := upd_same
    have nDp : D ≠ p := (ne_of_none p1 nD).symm
    have hD3 : (upd H2 p (.ins C4 dx [(("net" : Str), V.ref np), ("streams", V.ref D)])) D = some (.lst (us.map V.ref)) := by rw [upd_ne nDp]; exact hD2
    generalize (upd H2 p (.ins C4 dx [(("net" : Str), V.ref np), ("streams", V.ref D)])) = H3 at b3 p3 hD3
    have s3 := k0 b3
    have hU3 : Paired (fun u e => StreamAt C2 H3 u e.s) us es := Paired.imp hU fun _ _ z => z.same s3
    refine ⟨_, rfl, p, C4, dx, _, _, rfl, p3, c4.cl, c4.n2, rfl, D, rfl, ⟨_, SqL.of hD3⟩, fun D2 nD2 => ?_⟩
    refine lc_list (K := K) (a := D) (xs := us.map V.ref) (fun i H' => Same H3 H' ∧ ∃ pls : List Addr, H' D2 = some (.lst (pls.map V.ref)) ∧ Paired (fun l e => l ≠ D2 ∧ ∃ ts, H' l = some (.lst (ts.map V.ref)) ∧ Tups H' ts (portsOf e.s.path)) pls (es.take i)) ⟨same_new nD2, [], upd_same, .nil⟩ (fun i H' _ z => SqL.of (z.1 _ _ hD3)) ?_ ?_
    · rintro i v H' hi ⟨sm, pls, hD', hP⟩
      obtain ⟨u, et, rfl⟩ := refs_at hi
      obtain ⟨e, ee, hT⟩ := Paired.at hU3 et
      obtain ⟨dxu, lp, g1, g2⟩ := hT.same sm
      refine ⟨rfl, _, rfl, u, C2, dxu, _, _, rfl, g1, c2.cl, c2.n4, sg4, lp, e.s.path, rfl, g2, fun H4 l ts' s4 nl hl4 hT4 => ?_⟩
      have hD4 := s4 _ _ hD'
      have lu := hP.length
      rw [List.length_take] at lu
      have nlD : l ≠ D2 := (ne_of_none hD' nl).symm
      refine ⟨_, hD4, szl (by rw [List.length_map]; omega), same_but (sm.trans s4) nD2 but_self, pls ++ [l], by rw [upd_same, List.map_append]; rfl, ?_⟩
      rw [take_snoc ee]
      refine Paired.snoc (F := fun (l : Addr) (e : EntD) => l ≠ D2 ∧ ∃ ts : List Addr, _ = some (HO.lst (ts.map V.ref)) ∧ Tups _ ts (portsOf e.s.path)) ⟨nlD, ts', by rw [upd_ne nlD]; exact hl4, Paired.imp hT4 fun _ _ z => by rw [upd_ne (ne_of z hD4 (by intro y; cases y))]; exact z⟩ (Paired.imp hP fun a b ⟨n, ts, z1, z2⟩ => ⟨n, ts, by rw [upd_ne n]; exact s4 _ _ z1, Paired.imp z2 fun _ _ z => by rw [upd_ne (ne_of (s4 _ _ z) hD4 (by intro y; cases y))]; exact s4 _ _ z⟩)
    rintro H4 ⟨s4, pls, hD4, hP4⟩
    rw [List.length_map, hU3.length, List.take_length] at hP4
    refine ⟨_, rfl, p, C4, dx, _, rfl, s4 _ _ p3, c4.cl, c4.n3, (by show 2 < 1000; decide), ?_⟩
    rw [tf3 (bl := p) (A := ⟨p, p, p, p, p⟩)]
    have b5 : But p H (upd H4 p (.ins C4 dx [(("net" : Str), V.ref np), ("streams", V.ref D), ("ports", V.ref D2)])) := (b3.trans (fun _ _ z _ => s4 _ _ z)).trans but_self
    have p5 : (upd H4 p (.ins C4 dx [(("net" : Str), V.ref np), ("streams", V.ref D), ("ports", V.ref D2)])) p = some (.ins C4 dx [(("net" : Str), V.ref np), ("streams", V.ref D), ("ports", V.ref D2)]) := upd_same
    have nD2p : D2 ≠ p := (ne_of_none p3 nD2).symm
    have hp4 := s4 _ _ p3
    have hD5 : (upd H4 p (.ins C4 dx [(("net" : Str), V.ref np), ("streams", V.ref D), ("ports", V.ref D2)])) D = some (.lst (us.map V.ref)) := by rw [upd_ne nDp]; exact s4 _ _ hD3
    have hD25 : (upd H4 p (.ins C4 dx [(("net" : Str), V.ref np), ("streams", V.ref D), ("ports", V.ref D2)])) D2 = some (.lst (pls.map V.ref)) := by rw [upd_ne nD2p]; exact hD4
    have hP5 : Paired (fun l e => ∃ ts, (upd H4 p (.ins C4 dx [(("net" : Str), V.ref np), ("streams", V.ref D), ("ports", V.ref D2)])) l = some (.lst (ts.map V.ref)) ∧ Tups (upd H4 p (.ins C4 dx [(("net" : Str), V.ref np), ("streams", V.ref D), ("ports", V.ref D2)])) ts (portsOf e.s.path)) pls es := Paired.imp hP4 fun a b ⟨n, ts, z1, z2⟩ => ⟨ts, by rw [upd_ne (ne_of z1 hp4 (by intro y; cases y))]; exact z1, Paired.imp z2 fun _ _ z => by rw [upd_ne (ne_of z hp4 (by intro y; cases y))]; exact z⟩
    generalize (upd H4 p (.ins C4 dx [(("net" : Str), V.ref np), ("streams", V.ref D), ("ports", V.ref D2)])) = H5 at b5 p5 hD5 hD25 hP5
    have s5 := k0 b5
    refine ⟨fun σ H' => σ = [some (.ref p), some (.ref np), some (.ref pl), some bv, none, none] ∧ ∃ (bl : Addr) (bts : List Addr), H' p = some (.ins C4 dx [(("net" : Str), V.ref np), ("streams", V.ref D), ("ports", V.ref D2), ("broken_ports", V.ref bl)]) ∧ But p H5 H' ∧ H' bl = some (.lst (bts.map V.ref)) ∧ PairsAt K H' bts (bpOf bo), ?_, ?_⟩
    · rcases hB with ⟨rfl, rfl⟩ | ⟨tb, ⟨x, y⟩, rfl, rfl, htb⟩
      · refine ⟨_, rfl, rfl, _, rfl, ite2 (fun _ => ?_) (fun z => absurd (decide_eq_true rfl) z)⟩
        refine ⟨Nat.zero_le _, fun bl nbl => ?_⟩
        obtain ⟨b6, p6, a6, n6⟩ := stepNew (o := .lst []) (u := .ins C4 dx [(("net" : Str), V.ref np), ("streams", V.ref D), ("ports", V.ref D2), ("broken_ports", V.ref bl)]) p5 nbl
        refine ⟨_, rfl, p, C4, dx, _, rfl, (by rw [upd_ne n6.symm]; exact p5), c4.cl, c4.n4, (by show 3 < 1000; decide), ?_⟩
        rw [tf4 (A := ⟨p, p, p, p, p⟩)]
        exact ⟨rfl, bl, [], p6, b6, a6, .nil⟩
      · refine ⟨_, rfl, rfl, _, rfl, ite2 (fun z => absurd (of_decide_eq_true z) (by intro y; cases y)) (fun _ => ?_)⟩
        have htb5 := same_tup s5 htb
        refine ⟨_, rfl, _, rfl, tb, _, _, _, rfl, rfl, htb5, rfl, _, rfl, tb, _, _, _, rfl, rfl, htb5, rfl, by show 2 ≤ sizeLine; decide, fun y1 ny1 => ?_⟩
        refine ⟨by show 2 ≤ sizeLine; decide, fun bl nbl => ?_⟩
        have sy1 := same_new (o := .tup [V.int (y : Int), V.int (x : Int)]) ny1
        obtain ⟨b6, p6, a6, n6⟩ := stepNew (o := .lst [V.ref tb, V.ref y1]) (u := .ins C4 dx [(("net" : Str), V.ref np), ("streams", V.ref D), ("ports", V.ref D2), ("broken_ports", V.ref bl)]) (sy1 _ _ p5) nbl
        refine ⟨_, rfl, p, C4, dx, _, rfl, (by rw [upd_ne n6.symm]; exact sy1 _ _ p5), c4.cl, c4.n4, (by show 3 < 1000; decide), ?_⟩
        rw [tf4 (A := ⟨p, p, p, p, p⟩)]
        have b56 := (fun b o z n => b6 b o (sy1 _ _ z) n : But p H5 _)
        refine ⟨rfl, bl, [tb, y1], p6, b56, a6, .cons ?_ (.cons (SqT.of (b6 _ _ upd_same (ne_of_none p5 ny1).symm)) .nil)⟩
        exact same_tup (k0 (b5.trans b56)) htb
    · rintro σ H6 ⟨rfl, bl, bts, p6, b6, hb6, hB6⟩
      refine ⟨Nat.zero_le _, fun a1 n1 => ?_⟩
      obtain ⟨b7, p7, h7, z7⟩ := stepNew (o := .lst []) (u := .ins C4 dx [(("net" : Str), V.ref np), ("streams", V.ref D), ("ports", V.ref D2), ("broken_ports", V.ref bl), ("deliveries", V.ref a1)]) p6 n1
      refine ⟨_, rfl, p, C4, dx, _, rfl, (by rw [upd_ne z7.symm]; exact p6), c4.cl, c4.n5, (by show 4 < 1000; decide), ?_⟩
      rw [tf5 (A := ⟨a1, p, p, p, p⟩)]
      revert b7 p7 h7
      generalize (upd (upd H6 a1 (.lst [])) p (.ins C4 dx [(("net" : Str), V.ref np), ("streams", V.ref D), ("ports", V.ref D2), ("broken_ports", V.ref bl), ("deliveries", V.ref a1)])) = H7
      intro b7 p7 h7 a2 n2
      obtain ⟨b8, p8, h8, z8⟩ := stepNew (o := .dT []) (u := .ins C4 dx [(("net" : Str), V.ref np), ("streams", V.ref D), ("ports", V.ref D2), ("broken_ports", V.ref bl), ("deliveries", V.ref a1), ("free_from", V.ref a2)]) p7 n2
      refine ⟨_, rfl, p, C4, dx, _, rfl, (by rw [upd_ne z8.symm]; exact p7), c4.cl, c4.n6, (by show 5 < 1000; decide), ?_⟩
      rw [tf6 (A := ⟨a1, a2, p, p, p⟩)]
      revert b8 p8 h8
      generalize (upd (upd H7 a2 (.dT [])) p (.ins C4 dx [(("net" : Str), V.ref np), ("streams", V.ref D), ("ports", V.ref D2), ("broken_ports", V.ref bl), ("deliveries", V.ref a1), ("free_from", V.ref a2)])) = H8
      intro b8 p8 h8 a3 n3
      obtain ⟨b9, p9, h9, z9⟩ := stepNew (o := .dT []) (u := .ins C4 dx [(("net" : Str), V.ref np), ("streams", V.ref D), ("ports", V.ref D2), ("broken_ports", V.ref bl), ("deliveries", V.ref a1), ("free_from", V.ref a2), ("queues", V.ref a3)]) p8 n3
      refine ⟨_, rfl, p, C4, dx, _, rfl, (by rw [upd_ne z9.symm]; exact p8), c4.cl, c4.n7, (by show 6 < 1000; decide), ?_⟩
      rw [tf7 (A := ⟨a1, a2, a3, p, p⟩)]
      revert b9 p9 h9
      generalize (upd (upd H8 a3 (.dT [])) p (.ins C4 dx [(("net" : Str), V.ref np), ("streams", V.ref D), ("ports", V.ref D2), ("broken_ports", V.ref bl), ("deliveries", V.ref a1), ("free_from", V.ref a2), ("queues", V.ref a3)])) = H9
      intro b9 p9 h9 a4 n4
      obtain ⟨b10, p10, h10, z10⟩ := stepNew (o := .dK []) (u := .ins C4 dx [(("net" : Str), V.ref np), ("streams", V.ref D), ("ports", V.ref D2), ("broken_ports", V.ref bl), ("deliveries", V.ref a1), ("free_from", V.ref a2), ("queues", V.ref a3), ("coming", V.ref a4)]) p9 n4
      refine ⟨_, rfl, p, C4, dx, _, rfl, (by rw [upd_ne z10.symm]; exact p9), c4.cl, c4.n8, (by show 7 < 1000; decide), ?_⟩
      rw [tf8 (A := ⟨a1, a2, a3, a4, p⟩)]
      revert b10 p10 h10
      generalize (upd (upd H9 a4 (.dK [])) p (.ins C4 dx [(("net" : Str), V.ref np), ("streams", V.ref D), ("ports", V.ref D2), ("broken_ports", V.ref bl), ("deliveries", V.ref a1), ("free_from", V.ref a2), ("queues", V.ref a3), ("coming", V.ref a4)])) = H10
      intro b10 p10 h10 a5 n5
      obtain ⟨b11, p11, h11, z11⟩ := stepNew (o := .dT []) (u := .ins C4 dx (trF np D D2 bl ⟨a1, a2, a3, a4, a5⟩)) p10 n5
      refine ⟨_, rfl, p, C4, dx, _, rfl, (by rw [upd_ne z11.symm]; exact p10), c4.cl, c4.n9, (by show 8 < 1000; decide), ?_⟩
      rw [tf9 (A := ⟨a1, a2, a3, a4, a5⟩)]
      revert b11 p11 h11
      generalize (upd (upd H10 a5 (.dT [])) p (.ins C4 dx (trF np D D2 bl ⟨a1, a2, a3, a4, a5⟩))) = H11
      intro b11 p11 h11
      have k : But p H6 H11 := (((b7.trans b8).trans b9).trans b10).trans b11
      have m2 := b7.none z8 n2
      have m3 := b7.none z9 (b8.none z9 n3)
      have m4 := b7.none z10 (b8.none z10 (b9.none z10 n4))
      have m5 := b7.none z11 (b8.none z11 (b9.none z11 (b10.none z11 n5)))
      have g1 := b11 _ _ (b10 _ _ (b9 _ _ (b8 _ _ h7 z7) z7) z7) z7
      have g2 := b11 _ _ (b10 _ _ (b9 _ _ h8 z8) z8) z8
      have g3 := b11 _ _ (b10 _ _ h9 z9) z9
      have g4 := b11 _ _ h10 z10
      have e0 : But p H6 (upd H6 p (.ins C4 dx (trF np D D2 bl ⟨a1, a2, a3, a4, a5⟩))) := but_self
      have pe : (upd H6 p (.ins C4 dx (trF np D D2 bl ⟨a1, a2, a3, a4, a5⟩))) p = some (.ins C4 dx (trF np D D2 bl ⟨a1, a2, a3, a4, a5⟩)) := upd_same
      have eu : ∀ a, a ≠ p → (upd H6 p (.ins C4 dx (trF np D D2 bl ⟨a1, a2, a3, a4, a5⟩))) a = H6 a := fun a n => upd_ne n
      have ss : Same (upd H6 p (.ins C4 dx (trF np D D2 bl ⟨a1, a2, a3, a4, a5⟩))) H11 := fun b o z => by
        by_cases n : b = p
        · subst n
          rw [pe] at z
          cases z
          exact p11
        · rw [upd_ne n] at z
          exact k _ _ z n
      generalize (upd H6 p (.ins C4 dx (trF np D D2 bl ⟨a1, a2, a3, a4, a5⟩))) = HH at e0 pe eu ss
      have c56 := b6.trans e0
      have sHH := k0 (b5.trans c56)
      have nb : bl ≠ p := fun z => by rw [z, p6] at hb6; cases hb6
      have tupp : ∀ a ys, SqT K H6 a ys → SqT K HH a ys := fun a ys z => by
        rcases z with (z | ⟨o, z⟩) | z
        · exact .inl (.inl (e0 _ _ z (ne_of z p6 (by intro y; cases y))))
        · exact .inl (.inr ⟨o, e0 _ _ z (ne_of z p6 (by intro y; cases y))⟩)
        · exact .inr z
      refine q HH H11 ⟨a1, a2, a3, a4, a5⟩ sHH ⟨dx, np, D, D2, bl, us, pls, bts, pe, hN.same sHH, ⟨c56 _ _ hD5 nDp, Paired.imp hU fun _ _ z => z.same sHH⟩, ⟨c56 _ _ hD25 nD2p, Paired.imp hP5 fun a b ⟨ts, z1, z2⟩ => ⟨ts, c56 _ _ z1 (ne_of z1 p5 (by intro y; cases y)), Paired.imp z2 fun _ _ z => c56 _ _ z (ne_of z p5 (by intro y; cases y))⟩⟩, ⟨e0 _ _ hb6 nb, hB6.mono tupp⟩⟩ (mut0 ss ⟨(eu _ z7).trans n1, (eu _ z8).trans m2, (eu _ z9).trans m3, (eu _ z10).trans m4, (eu _ z11).trans m5⟩ ⟨ne_of_none h8 n3, ?_, ?_⟩ g1 g2 g3 g4 h11)
      · exact ne_of_none (b10 _ _ (b9 _ _ h8 z8) z8) n5
      · exact ne_of_none (b10 _ _ h9 z9) n5
end
end My
namespace My
open PySem PySem.Spec PyProof.Rows L2
abbrev sOpen : Stmt := top 25 /-openings_of-/
/-- the tick at which a window opens, by the clocks -/
def stW (es : List EntD) (er : List Int) (w : W3) : Int := (entW es w).os.getD w.2.1 0 + er.getD ((entW es w).s.path.getD w.2.1 0) 0 + (w.2.2 : Int) * (entW es w).s.pe
def winF (i h n : Nat) : List W3 := (List.range n).map fun k => (i, h, k)
def winH (n i m : Nat) : List W3 := (List.range m).flatMap fun h => winF i h n
def winE (es : List EntD) (n m : Nat) : List W3 := (List.range m).flatMap fun i => winH n i (es.getD i nilE).os.length
def wins (es : List EntD) (n : Nat) : List W3 := winE es n es.length
def opsT (es : List EntD) (er : List Int) (n : Nat) (τ : Int) : List W3 := (wins es n).filter fun w => decide (stW es er w = τ)
theorem range_snoc {α : Type} (f : Nat → α) (n : Nat) : (List.range (n + 1)).map f = (List.range n).map f ++ [f n] := by
  rw [List.range_succ, List.map_append]; rfl
theorem range_fsnoc {α : Type} (f : Nat → List α) (n : Nat) : (List.range (n + 1)).flatMap f = (List.range n).flatMap f ++ f n := by
  rw [List.range_succ, List.flatMap_append]
  simp
theorem winF_len (i h n : Nat) : (winF i h n).length = n := by unfold winF; rw [List.length_map, List.length_range]
theorem fm_len {α : Type} (f : Nat → List α) (b : Nat) : ∀ m, (∀ i, i < m → (f i).length ≤ b) → ((List.range m).flatMap f).length ≤ m * b
  | 0, _ => Nat.zero_le _
  | m + 1, h => by
    rw [range_fsnoc, List.length_append, Nat.add_mul]
    have := fm_len f b m fun i hi => h i (by omega)
    have := h m (by omega)
    omega
/-- the dict of openings: each list new -/
def OpAt (K : PySem.W.Frag) (Hx H : Hp) (d : Addr) (st : W3 → Int) (ws : List W3) : Prop := ∃ (own : Addr → Option Int) (kc : List (Key × V)), Same Hx H ∧ Hx d = none ∧ H d = some (.dK kc) ∧ kc.length ≤ ws.length ∧ (∀ x ∈ kc, ∃ w ∈ ws, x.1 = Sum.inl (st w)) ∧
  ∀ τ : Int, (valV kc (Sum.inl τ) = none ∧ ws.filter (fun w => decide (st w = τ)) = []) ∨ ∃ l us, valV kc (Sum.inl τ) = some (.ref l) ∧ own l = some τ ∧ Hx l = none ∧ H l = some (.lst (us.map V.ref)) ∧ WsAt K H us (ws.filter fun w => decide (st w = τ))
theorem filt_snoc {α : Type} (p : α → Bool) (ws : List α) (W : α) : (ws ++ [W]).filter p = if p W = true then ws.filter p ++ [W] else ws.filter p := by
  rw [List.filter_append]
  by_cases h : p W = true
  · rw [if_pos h, List.filter_cons, if_pos h]; rfl
  · rw [if_neg h, List.filter_cons, if_neg h]
    exact List.append_nil _
theorem ne_own2 {own : Addr → Option Int} {a b : Addr} {x y : Int} (h : own a = some x) (h' : own b = some y) (n : x ≠ y) : a ≠ b := fun z => n (by rw [z, h'] at h; exact (Option.some.inj h).symm)
section
variable {K : PySem.W.Frag} {Hx H : Hp} {d : Addr} {st : W3 → Int} {ws : List W3}
theorem OpAt.grow {H' : Hp} (h : OpAt K Hx H d st ws) (e : Same H H') : OpAt K Hx H' d st ws := by
  obtain ⟨own, kc, s, n, h1, h2, h3, h4⟩ := h
  refine ⟨own, kc, s.trans e, n, e _ _ h1, h2, h3, fun τ => ?_⟩
  rcases h4 τ with f | ⟨l, us, g1, g2, g3, g4, g5⟩
  · exact .inl f
  · exact .inr ⟨l, us, g1, g2, g3, e _ _ g4, WsAt.mono (K := K) g5 fun _ _ z => e _ _ z⟩
theorem OpAt.sm (h : OpAt K Hx H d st ws) : Same Hx H := by
  obtain ⟨own, kc, s, _⟩ := h
  exact s
theorem OpAt.dAt (h : OpAt K Hx H d st ws) : ∃ kc : List (Key × V), H d = some (.dK kc) ∧ kc.length ≤ ws.length := by
  obtain ⟨own, kc, s, n, h1, h2, _⟩ := h
  exact ⟨kc, h1, h2⟩
theorem OpAt.add {W : W3} {kc : List (Key × V)} {v : V} (h : OpAt K Hx H d st ws) (hk : H d = some (.dK kc)) (hv : valV kc (Sum.inl (st W)) = some v) : ∃ (l : Addr) (us : List Addr), v = .ref l ∧ H l = some (.lst (us.map V.ref)) ∧ us.length ≤ ws.length ∧ ∀ H' y, Same H H' → H' y = some (.tup (w3V W)) → OpAt K Hx (upd H' l (.lst (us.map V.ref ++ [V.ref y]))) d st (ws ++ [W]) := by
  obtain ⟨own, kc', s, n, h1, h2, h3, h4⟩ := h
  rw [hk] at h1
  cases h1
  rcases h4 (st W) with ⟨f, _⟩ | ⟨l, us, g1, g2, g3, g4, g5⟩
  · rw [f] at hv; cases hv
  · rw [g1] at hv
    cases hv
    refine ⟨l, us, rfl, g4, by rw [g5.length]; exact List.length_filter_le _ _, fun H' y e hy => ?_⟩
    have g4' := e _ _ g4
    have tp : ∀ a xs, H a = some (.tup xs) → (upd H' l (.lst (us.map V.ref ++ [V.ref y]))) a = some (.tup xs) := fun a xs z => by rw [upd_ne (ne_of (e _ _ z) g4' (by intro y; cases y))]; exact e _ _ z
    refine ⟨own, kc, same_but (s.trans e) g3 but_self, n, ?_, by rw [List.length_append]; omega, fun x hx => ?_, fun τ => ?_⟩
    · rw [upd_ne (ne_of (e _ _ hk) g4' (by intro y; cases y))]; exact e _ _ hk
    · obtain ⟨w, hw, e⟩ := h3 x hx
      exact ⟨w, List.mem_append.mpr (.inl hw), e⟩
    · rw [filt_snoc]
      by_cases z : st W = τ
      · subst z
        rw [if_pos (decide_eq_true rfl)]
        refine .inr ⟨l, us ++ [y], g1, g2, g3, by rw [upd_same, List.map_append]; rfl, ?_⟩
        refine Paired.snoc (F := fun (t : Addr) (w : W3) => _ = some (HO.tup (w3V w))) ?_ (WsAt.mono (K := K) g5 tp)
        rw [upd_ne (ne_of hy g4' (by intro y; cases y))]; exact hy
      · rw [if_neg (fun y => z (of_decide_eq_true y))]
        rcases h4 τ with f | ⟨l', us', f1, f2, f3, f4, f5⟩
        · exact .inl f
        · refine .inr ⟨l', us', f1, f2, f3, ?_, WsAt.mono (K := K) f5 tp⟩
          rw [upd_ne (ne_own2 f2 g2 (fun y => z y.symm))]; exact e _ _ f4
theorem OpAt.addNew {W : W3} {kc : List (Key × V)} (h : OpAt K Hx H d st ws) (hk : H d = some (.dK kc)) (hv : valV kc (Sum.inl (st W)) = none) (l : Addr) (nl : H l = none) : ∀ H' y, (∀ b o, (upd (upd H l (.lst [])) d (.dK (putK kc (Sum.inl (st W)) (.ref l)))) b = some o → H' b = some o) → H' y = some (.tup (w3V W)) → OpAt K Hx (upd H' l (.lst ([] ++ [V.ref y]))) d st (ws ++ [W]) := by
  obtain ⟨own, kc', s, n, h1, h2, h3, h4⟩ := h
  rw [hk] at h1
  cases h1
  have lp := length_putK kc (Sum.inl (st W)) (V.ref l)
  intro H' y e hy
  have ncl : d ≠ l := ne_of_none hk nl
  have hl' : H' l = some (.lst []) := e _ _ (by rw [upd_ne ncl.symm, upd_same])
  have hc' : H' d = some (.dK (putK kc (Sum.inl (st W)) (.ref l))) := e _ _ upd_same
  have keep : ∀ b o, H b = some o → b ≠ d → (upd H' l (.lst ([] ++ [V.ref y]))) b = some o := fun b o z nb => by
    have nb2 : b ≠ l := ne_of_none z nl
    rw [upd_ne nb2]
    exact e _ _ (by rw [upd_ne nb, upd_ne nb2]; exact z)
  have tp : ∀ a xs, H a = some (.tup xs) → (upd H' l (.lst ([] ++ [V.ref y]))) a = some (.tup xs) := fun a xs z => keep _ _ z (ne_of z hk (by intro y; cases y))
  have empty : ws.filter (fun w => decide (st w = st W)) = [] := by
    rcases h4 (st W) with ⟨_, f⟩ | ⟨l', us, g1, _⟩
    · exact f
    · rw [hv] at g1; cases g1
  refine ⟨fun a => if a = l then some (st W) else own a, putK kc (Sum.inl (st W)) (V.ref l), fun b o z => keep b o (s _ _ z) (ne_of_none z n), n, ?_, by rw [List.length_append]; show _ ≤ ws.length + 1; omega, fun x hx => ?_, fun τ => ?_⟩
  · rw [upd_ne ncl]; exact hc'
  · unfold putK at hx
    split at hx
    · obtain ⟨z, hz, rfl⟩ := List.mem_map.mp hx
      obtain ⟨w, hw, e2⟩ := h3 z hz
      refine ⟨w, List.mem_append.mpr (.inl hw), ?_⟩
      split <;> exact e2
    · rcases List.mem_append.mp hx with hx | hx
      · obtain ⟨w, hw, e2⟩ := h3 x hx
        exact ⟨w, List.mem_append.mpr (.inl hw), e2⟩
      · cases List.mem_singleton.mp hx
        exact ⟨W, List.mem_append.mpr (.inr List.mem_cons_self), rfl⟩
  · rw [valV_put, filt_snoc]
    by_cases z : st W = τ
    · subst z
      rw [if_pos rfl, if_pos (decide_eq_true rfl), empty]
      refine .inr ⟨l, [y], rfl, if_pos rfl, ?_, upd_same, .cons ?_ .nil⟩
      · cases z : Hx l with
        | none => rfl
        | some o => rw [s _ _ z] at nl; cases nl
      · rw [upd_ne (ne_of hy hl' (by intro y; cases y))]; exact hy
    · rw [if_neg (fun y => z (by injection y with y; exact y.symm)), if_neg (fun y => z (of_decide_eq_true y))]
      rcases h4 τ with f | ⟨l', us', f1, f2, f3, f4, f5⟩
      · exact .inl f
      · exact .inr ⟨l', us', f1, by show (if l' = l then some (st W) else own l') = _; rw [if_neg (ne_of_none f4 nl)]; exact f2, f3, keep _ _ f4 (ne_of f4 hk (by intro y; cases y)), WsAt.mono (K := K) f5 tp⟩
end
section
variable {P : Program} {w : World} {K : PySem.W.Frag} {mg : Str → Option Value} {base : Heap}
theorem scOpen : FnScope ["plan", "errors", "count", "openings", "index", "stream", "offsets", "hop", "offset", "start", "number"] ["plan", "errors", "count"] (defScope sOpen) := ⟨rfl, rfl, rfl, by decide +kernel, rfl, by decide +kernel, by decide +kernel⟩
def spOpen (K : PySem.W.Frag) (C2 : Addr) : Sp := fun vs H Q _ => ∃ (pl el : Addr) (c : Nat) (ts : List Addr) (es : List EntD) (er : List Int), vs = [.ref pl, .ref el, .int (c : Int)] ∧ SqL K H pl (ts.map V.ref) ∧ EntsAt K C2 H ts es ∧ SqL K H el (er.map V.int) ∧ (∀ e ∈ es, e.os.length ≤ e.s.path.length ∧ e.os.length ≤ 10 ∧ ∀ x ∈ e.s.path, x < er.length) ∧ es.length ≤ 10 ∧ c ≤ 40 ∧
  ∀ H' d, OpAt K H H' d (stW es er) (wins es c) → Q (.ref d) H'
theorem ok_open {f C2 : Addr} {fd : FuncData} {k : Nat} (F : Fun K "openings_of" "openings_of" sOpen f fd) (T : Blt mg) (c2 : StrC K C2) : FnOk P w K mg base CX0 (k + 1) f fd ["plan", "errors", "count"] (spOpen K C2) := by
  refine F.ok scOpen (fun vs H Q E h => ?_) (fun cdv A0 outer s0 H vs Q E hr h => ?_)
  · obtain ⟨pl, el, c, ts, es, er, rfl, _⟩ := h
    rfl
  · obtain ⟨pl, el, c, ts, es, er, rfl, hpl, hE, hel, hg, hl, hc, q⟩ := h
    have nd := scOpen.nd
    refine ⟨_, pss_cons (ps_set (i := 3) nd rfl (.inl rfl) pe_dnewK) <| pss_cons (ps_for PassesOwn.never rfl (pi_enum (by rfl) T.enum (pa_cons (pv 0) pa_nil)) (pg_tup rfl (pgs_cons (pg_name (i := 4) nd rfl (.inl rfl)) (pgs_cons (pg_tup rfl (pgs_cons (pg_name (i := 5) nd rfl (.inl rfl)) (pgs_cons (pg_name (i := 6) nd rfl (.inl rfl)) pgs_nil))) pgs_nil))) (pss_one (ps_for PassesOwn.never rfl (pi_enum (by rfl) T.enum (pa_cons (pv 6) pa_nil)) (pg_tup rfl (pgs_cons (pg_name (i := 7) nd rfl (.inl rfl)) (pgs_cons (pg_name (i := 8) nd rfl (.inl rfl)) pgs_nil))) (pss_cons (ps_set (i := 9) nd rfl (.inl rfl) (pe_op op_add (pv 8) (pe_ix ix_list (pv 1) (pe_ix ix_list (pe_fld (pv 5) rfl) (pv 7) (fun _ _ => rfl)) (fun _ _ => rfl)))) <| pss_one (ps_for PassesOwn.never rfl (pi_range1 (by rfl) T.range (pa_cons (pv 2) pa_nil)) (pg_name (i := 10) nd rfl (.inl rfl)) (pss_one (ps_expr (pe_bm PySem.F.plainAttrs_list PySem.F.slot_list_append PySem.F.type_list_append mt_append (pe_dsetd (pv 3) (pe_op op_add (pv 9) (pe_op op_mul (pv 10) (pe_fld (pv 5) rfl))) (pe_lst pa_nil) ⟨rfl, rfl, rfl, rfl⟩) (pa_cons (pe_tup (pa_cons (pv 4) (pa_cons (pv 7) (pa_cons (pv 10) pa_nil)))) pa_nil))))))))) <| pss_one (ps_ret (pv 3)), ?_⟩
    have lt : ts.length = es.length := hE.length
    have le3 : ∀ i, i ≤ es.length → (winE es c i).length ≤ 10 * (10 * 40) := fun i hi => by
      have := fm_len (fun i => winH c i (es.getD i nilE).os.length) (10 * 40) i fun j hj => by
        have h1 := hg (es.getD j nilE) (by rw [List.getD_eq_getElem?_getD, List.getElem?_eq_getElem (by omega : j < es.length)]; exact List.getElem_mem _)
        have := fm_len (fun h => winF j h c) 40 (es.getD j nilE).os.length fun h _ => by rw [winF_len]; exact hc
        have h2 := Nat.mul_le_mul_right 40 h1.2.1
        exact Nat.le_trans this h2
      have h2 := Nat.mul_le_mul_right (10 * 40) (show i ≤ 10 by omega)
      exact Nat.le_trans this h2
    intro d nd'
    have hO0 : OpAt K H (upd H d (.dK [])) d (stW es er) [] := ⟨fun _ => none, [], same_new nd', nd', upd_same, Nat.le_refl _, fun x h => (List.not_mem_nil h).elim, fun τ => .inl ⟨rfl, rfl⟩⟩
    refine ⟨_, rfl, pl, _, rfl, hO0.sm.seq hpl, for_it (walk_enum (K := K) (a := pl) (xs := ts.map V.ref)) (fun i σ H' => ∃ v4 v5 v6 v7 v8 v9 v10 : Option V, σ = [some (.ref pl), some (.ref el), some (.int (c : Int)), some (.ref d), v4, v5, v6, v7, v8, v9, v10] ∧ OpAt K H H' d (stW es er) (winE es c i)) ⟨none, none, none, none, none, none, none, rfl, hO0⟩ (fun i σ H' _ ⟨_, _, _, _, _, _, _, _, m⟩ => m.sm.seq hpl) ?_ ?_⟩
    · rintro i x σ H3 H3' hi ⟨v4, v5, v6, v7, v8, v9, v10, rfl, m3⟩ ⟨T, a', b', rfl, nT, rfl, ea, eb⟩
      cases Option.some.inj ea
      obtain ⟨t1, et, rfl⟩ := refs_at eb
      rw [List.length_map, lt] at hi
      obtain ⟨e, ee, hEt⟩ := Paired.at hE et
      obtain ⟨u, lo, g1, g2, g3⟩ := hEt
      have m4 := m3.grow (same_new (o := .tup [V.int (i : Int), V.ref t1]) nT)
      have hT4 : (upd H3 T (.tup [V.int (i : Int), V.ref t1])) T = some (.tup [V.int (i : Int), V.ref t1]) := upd_same
      generalize (upd H3 T (.tup [V.int (i : Int), V.ref t1])) = H4 at m4 hT4
      obtain ⟨hp1, hp2, hp3⟩ := hg e (List.mem_of_getElem? ee)
      have eget : es.getD i nilE = e := by rw [List.getD_eq_getElem?_getD, ee]; rfl
      refine ⟨T, _, rfl, SqT.of hT4, rfl, _, _, rfl, _, _, rfl, t1, _, rfl, same_tup m4.sm g1, rfl, _, _, rfl, _, _, rfl, rfl, rfl, ?_⟩
      refine ⟨_, rfl, lo, _, rfl, m4.sm.seq g3, for_it (walk_enum (K := K) (a := lo) (xs := e.os.map V.int)) (fun h σ H' => ∃ v7 v8 v9 v10 : Option V, σ = [some (.ref pl), some (.ref el), some (.int (c : Int)), some (.ref d), some (.int (i : Int)), some (.ref u), some (.ref lo), v7, v8, v9, v10] ∧ OpAt K H H' d (stW es er) (winE es c i ++ winH c i h)) ⟨_, _, _, _, rfl, by rw [show winH c i 0 = [] from rfl, List.append_nil]; exact m4⟩ (fun h σ H' _ ⟨_, _, _, _, _, m⟩ => m.sm.seq g3) ?_ ?_⟩
      · rintro h x σ H5 H5' hh ⟨v7, v8, v9, v10, rfl, m5⟩ ⟨T2, a', b', rfl, nT2, rfl, ea, eb⟩
        cases Option.some.inj ea
        obtain ⟨of, eof, rfl⟩ := ints_at eb
        rw [List.length_map] at hh
        have m6 := m5.grow (same_new (o := .tup [V.int (h : Int), V.int of]) nT2)
        have hT6 : (upd H5 T2 (.tup [V.int (h : Int), V.int of])) T2 = some (.tup [V.int (h : Int), V.int of]) := upd_same
        generalize (upd H5 T2 (.tup [V.int (h : Int), V.int of])) = H6 at m6 hT6
        obtain ⟨dxu, lp, u1, u2⟩ := g2.same m6.sm
        have hlp : h < e.s.path.length := by omega
        have her : e.s.path.getD h 0 < er.length := hp3 _ (getD_in hlp)
        refine ⟨T2, _, rfl, SqT.of hT6, rfl, _, _, rfl, _, _, rfl, rfl, ?_⟩
        refine ⟨_, rfl, _, rfl, _, rfl, u, C2, dxu, _, _, rfl, u1, c2.cl, c2.n4, sg4, _, rfl, lp, _, _, _, rfl, rfl, SqL.of u2, atI_nat (natsV_at (getD_at 0 hlp)), el, _, _, _, rfl, rfl, m6.sm.seq hel, atI_ints rfl her, _, _, rfl, rfl, ?_⟩
        have eofg : of = e.os.getD h 0 := by rw [List.getD_eq_getElem?_getD, eof]; rfl
        refine ⟨_, rfl, (c : Int), rfl, by omega, by omega, for_range (lo := 0) (n := c) (fun k σ H' => ∃ v10 : Option V, σ = [some (.ref pl), some (.ref el), some (.int (c : Int)), some (.ref d), some (.int (i : Int)), some (.ref u), some (.ref lo), some (.int (h : Int)), some (.int of), some (.int (of + er.getD (e.s.path.getD h 0) 0)), v10] ∧ OpAt K H H' d (stW es er) (winE es c i ++ winH c i h ++ winF i h k)) ⟨_, rfl, by rw [show winF i h 0 = [] from rfl, List.append_nil]; exact m6⟩ ?_ ?_⟩
        · rintro k σ H7 hk ⟨v10', rfl, m7⟩
          rw [Int.zero_add]
          have est : stW es er (i, h, k) = of + er.getD (e.s.path.getD h 0) 0 + (k : Int) * e.s.pe := by
            unfold stW entW
            show (es.getD i nilE).os.getD h 0 + er.getD ((es.getD i nilE).s.path.getD h 0) 0 + (k : Int) * (es.getD i nilE).s.pe = _
            rw [eget, ← eofg]
          have esn : winE es c i ++ winH c i h ++ winF i h (k + 1) = (winE es c i ++ winH c i h ++ winF i h k) ++ [(i, h, k)] := by
            unfold winF
            rw [range_snoc, List.append_assoc, List.append_assoc, List.append_assoc]
          obtain ⟨dxv, lpv, u1', u2'⟩ := g2.same m7.sm
          obtain ⟨kc, k1, k2⟩ := m7.dAt
          have l1 := le3 i (by omega)
          have l2 : (winH c i h).length ≤ 10 * 40 := by
            have := fm_len (fun h => winF i h c) 40 h fun j _ => by rw [winF_len]; exact hc
            have h2 := Nat.mul_le_mul_right 40 (show h ≤ 10 by omega)
            exact Nat.le_trans this h2
          have l3 := winF_len i h k
          have ll : (winE es c i ++ winH c i h ++ winF i h k).length ≤ 5000 := by
            rw [List.length_append, List.length_append, l3]; omega
          refine ⟨_, rfl, d, rfl, .inl ⟨_, .inl k1⟩, _, rfl, _, rfl, _, rfl, u, C2, dxv, _, _, rfl, u1', c2.cl, c2.n1, sg1, _, _, rfl, rfl, .inl ⟨by omega, by omega⟩, _, _, rfl, rfl, Nat.zero_le _, fun l' nl' => ?_⟩
          have sl' := same_new (o := .lst []) nl'
          refine ⟨kc, .inl (stW es er (i, h, k)), sl' _ _ k1, by rw [est]; rfl, szl (by omega), fun v hv => ?_, fun hv => ?_⟩
          · obtain ⟨l2', us, rfl, g1', g2', g3'⟩ := (m7.grow sl').add (W := (i, h, k)) (sl' _ _ k1) hv
            refine ⟨.inl ⟨rfl, _, SqL.of g1'⟩, _, rfl, _, rfl, _, rfl, by show 3 ≤ sizeLine; decide, fun y ny => ?_⟩
            have sy := same_new (o := .tup (w3V (i, h, k))) ny
            refine ⟨l2', _, _, rfl, rfl, sy _ _ g1', szl (by rw [List.length_map]; omega), _, rfl, ?_⟩
            rw [esn]
            exact g3' _ y sy upd_same
          · have g3' := m7.addNew (W := (i, h, k)) k1 hv l' nl'
            have gl : (upd (upd H7 l' (.lst [])) d (.dK (putK kc (.inl (stW es er (i, h, k))) (.ref l')))) l' = some (.lst []) := by rw [upd_ne (ne_of_none k1 nl').symm, upd_same]
            refine ⟨.inl ⟨rfl, _, SqL.of gl⟩, _, rfl, _, rfl, _, rfl, by show 3 ≤ sizeLine; decide, fun y ny => ?_⟩
            have sy := same_new (o := .tup (w3V (i, h, k))) ny
            refine ⟨l', _, _, rfl, rfl, sy _ _ gl, szl (by decide), _, rfl, ?_⟩
            rw [esn]
            exact g3' _ y sy upd_same
        · rintro σ H7 ⟨v10', rfl, m7⟩
          refine ⟨_, _, _, _, rfl, ?_⟩
          unfold winH
          rw [range_fsnoc, ← List.append_assoc]
          exact m7
      · rintro σ H5 ⟨v7, v8, v9, v10, rfl, m5⟩
        refine ⟨_, _, _, _, _, _, _, rfl, ?_⟩
        rw [List.length_map] at m5
        unfold winE
        rw [range_fsnoc]
        show OpAt K H H5 d (stW es er) (winE es c i ++ winH c i (es.getD i nilE).os.length)
        rw [eget]
        exact m5
    · rintro σ H3 ⟨v4, v5, v6, v7, v8, v9, v10, rfl, m3⟩
      rw [List.length_map, lt] at m3
      exact ⟨_, rfl, q H3 d m3⟩
end
end My
namespace My
open PySem PySem.Spec PyProof.Rows L2
abbrev sRun : Stmt := top 23 /-Run-/
abbrev sRInit : Stmt := inClass sRun 0 /-Run.__init__-/
/-! ### what a tick keeps -/
theorem ph1_ok {N : NetD} {es : List EntD} {bp : List (Nat × Nat)} {τ : Int} : ∀ (ops : List W3) (T : Tr) (wt : List W3) (T1 : Tr) (wt1 : List W3), ph1 N es bp τ ops T wt = some (T1, wt1) → TrOk es T → (∀ w ∈ ops, WV es w) → (∀ w ∈ wt, WV es w) → TrOk es T1 ∧ ∀ w ∈ wt1, WV es w
  | [], T, wt, T1, wt1, h, ok, _, hw => by
    have h : some (T, wt) = some (T1, wt1) := h
    cases h
    exact ⟨ok, hw⟩
  | w :: r, T, wt, T1, wt1, h, ok, ho, hw => by
    have wv := ho w List.mem_cons_self
    have ho' : ∀ w ∈ r, WV es w := fun x hx => ho x (List.mem_cons_of_mem _ hx)
    have h : (if occ es T w τ then none else if w.2.1 = 0 ∨ isFst es T w = true then ph1 N es bp τ r (sendT N es bp T w τ) wt else if T.ls (w.1, w.2.2) then ph1 N es bp τ r T wt else ph1 N es bp τ r T (wt ++ [w])) = some (T1, wt1) := h
    split at h
    · cases h
    · split at h
      · exact ph1_ok r _ _ _ _ h (ok.send wv) ho' hw
      · split at h
        · exact ph1_ok r _ _ _ _ h ok ho' hw
        · refine ph1_ok r _ _ _ _ h ok ho' fun x hx => ?_
          rcases List.mem_append.mp hx with hx | hx
          · exact hw x hx
          · cases List.mem_singleton.mp hx
            exact wv
theorem ph4_ok {N : NetD} {es : List EntD} {bp : List (Nat × Nat)} {τ : Int} : ∀ (wt : List W3) (T T' : Tr), ph4 N es bp τ wt T = some T' → TrOk es T → (∀ w ∈ wt, WV es w) → TrOk es T'
  | [], T, T', h, ok, _ => by
    have h : some T = some T' := h
    cases h
    exact ok
  | w :: r, T, T', h, ok, hw => by
    have h : (if occ es T w τ || !isFst es T w then none else ph4 N es bp τ r (sendT N es bp T w τ)) = some T' := h
    split at h
    · cases h
    · exact ph4_ok r _ _ h (ok.send (hw w List.mem_cons_self)) fun x hx => hw x (List.mem_cons_of_mem _ hx)
theorem Pass.ok {N : NetD} {es : List EntD} {bp : List (Nat × Nat)} {T T' : Tr} {τ : Int} {ops : List W3} (h : Pass N es bp T τ ops T') (ok : TrOk es T) (ho : ∀ w ∈ ops, WV es w) : TrOk es T' := by
  obtain ⟨T1, wt, zs, h1, h2, h3, h4⟩ := h
  obtain ⟨ok1, hw⟩ := ph1_ok _ _ _ _ _ h1 ok ho fun _ h => (List.not_mem_nil h).elim
  exact ph4_ok _ _ _ h4 ⟨by rw [push_cm]; exact ok1.cm, h3⟩ hw
theorem tr0_ok {es : List EntD} : TrOk es tr0 := ⟨fun _ _ h => (List.not_mem_nil h).elim, fun _ => Nat.zero_le _⟩
/-- what is reached behind i ticks from lo on -/
inductive Reach (N : NetD) (es : List EntD) (bp : List (Nat × Nat)) (er : List Int) (c : Nat) (lo : Int) : Nat → Tr → Prop
  | zero : Reach N es bp er c lo 0 tr0
  | step {i : Nat} {T T' : Tr} : Reach N es bp er c lo i T → Pass N es bp T (lo + i) (opsT es er c (lo + i)) T' → Reach N es bp er c lo (i + 1) T'
theorem mem_winF {i h n : Nat} {w : W3} : w ∈ winF i h n ↔ w.1 = i ∧ w.2.1 = h ∧ w.2.2 < n := by
  unfold winF
  rw [List.mem_map]
  constructor
  · rintro ⟨k, hk, rfl⟩
    exact ⟨rfl, rfl, List.mem_range.mp hk⟩
  · rintro ⟨rfl, rfl, h⟩
    exact ⟨w.2.2, List.mem_range.mpr h, rfl⟩
theorem mem_wins {es : List EntD} {n : Nat} {w : W3} : w ∈ wins es n ↔ WV es w ∧ w.2.2 < n := by
  unfold wins winE
  rw [List.mem_flatMap]
  constructor
  · rintro ⟨i, hi, hw⟩
    unfold winH at hw
    obtain ⟨h, hh, hw⟩ := List.mem_flatMap.mp hw
    obtain ⟨rfl, rfl, hk⟩ := mem_winF.mp hw
    exact ⟨⟨List.mem_range.mp hi, List.mem_range.mp hh⟩, hk⟩
  · rintro ⟨⟨h1, h2⟩, h3⟩
    refine ⟨w.1, List.mem_range.mpr h1, ?_⟩
    unfold winH
    exact List.mem_flatMap.mpr ⟨w.2.1, List.mem_range.mpr h2, mem_winF.mpr ⟨rfl, rfl, h3⟩⟩
/-- how many open before a tick -/
def cntB (ws : List W3) (st : W3 → Int) (τ : Int) : Nat := (ws.filter fun w => decide (st w < τ)).length
theorem cntB_step (st : W3 → Int) (τ : Int) : ∀ ws : List W3, cntB ws st (τ + 1) = cntB ws st τ + (ws.filter fun w => decide (st w = τ)).length
  | [] => rfl
  | w :: r => by
    have ih := cntB_step st τ r
    unfold cntB at ih ⊢
    rw [List.filter_cons, List.filter_cons, List.filter_cons]
    by_cases h1 : st w < τ
    · rw [if_pos (decide_eq_true (by omega)), if_pos (decide_eq_true h1), if_neg (by rw [decide_eq_true_eq]; omega), List.length_cons, List.length_cons, ih]
      omega
    · by_cases h2 : st w = τ
      · rw [if_pos (decide_eq_true (by omega)), if_neg (by rw [decide_eq_true_eq]; omega), if_pos (decide_eq_true h2), List.length_cons, List.length_cons, ih]
        omega
      · rw [if_neg (by rw [decide_eq_true_eq]; omega), if_neg (by rw [decide_eq_true_eq]; omega), if_neg (by rw [decide_eq_true_eq]; omega), ih]
theorem cntB_le (ws : List W3) (st : W3 → Int) (τ : Int) : cntB ws st τ ≤ ws.length := List.length_filter_le _ _
/-! ### a Run -/
def rnF (dv fv : V) : List (Str × V) := [(("deliveries" : Str), dv), ("fault", fv)]
theorem rf1 {dv : V} : putF "deliveries" dv [] = [(("deliveries" : Str), dv)] := rfl
theorem rf2 {dv fv : V} : putF "fault" fv [(("deliveries" : Str), dv)] = rnF dv fv := putF_new rfl
theorem rg1 {dv fv : V} : (rnF dv fv).lookup ("deliveries" : Str) = some dv := rfl
theorem rg2 {dv fv : V} : (rnF dv fv).lookup ("fault" : Str) = some fv := rfl
structure RunC (K : PySem.W.Frag) (C : Addr) : Prop where
  cl : Cls K C
  n1 : NoAttr K C "deliveries"
  n2 : NoAttr K C "fault"
section
variable {P : Program} {w : World} {K : PySem.W.Frag} {mg : Str → Option Value} {base : Heap}
theorem scRInit : FnScope ["self", "deliveries", "fault"] ["self", "deliveries", "fault"] (defScope sRInit) := ⟨rfl, rfl, rfl, by decide +kernel, rfl, by decide +kernel, by decide +kernel⟩
def spRInit (C5 : Addr) : Sp := fun vs H Q _ => ∃ (p dx : Addr) (dv fv : V), vs = [.ref p, dv, fv] ∧ H p = some (.ins C5 dx []) ∧ ∀ H', But p H H' → H' p = some (.ins C5 dx (rnF dv fv)) → Q .non H'
theorem ok_rinit {f C5 : Addr} {fd : FuncData} {k : Nat} (F : Fun K "__init__" "Run.__init__" sRInit f fd) (c5 : RunC K C5) : FnOk P w K mg base CX0 (k + 1) f fd ["self", "deliveries", "fault"] (spRInit C5) := by
  refine F.ok scRInit (fun vs H Q E h => ?_) (fun cdv A0 outer s0 H vs Q E hr h => ?_)
  · obtain ⟨p, dx, dv, fv, rfl, _⟩ := h
    rfl
  · obtain ⟨p, dx, dv, fv, rfl, hp, q⟩ := h
    have nd := scRInit.nd
    refine ⟨_, PSs.nox (pss_cons (ps_fld (pv 0) (pv 1) rfl) <| pss_one (ps_fld (pv 0) (pv 2) rfl)), ?_⟩
    refine ⟨_, rfl, _, rfl, p, C5, dx, [], rfl, hp, c5.cl, c5.n1, (by show 0 < 1000; decide), ?_⟩
    refine ⟨_, rfl, _, rfl, p, C5, dx, _, rfl, upd_same, c5.cl, c5.n2, (by rw [rf1]; show 1 < 1000; decide), ?_⟩
    rw [rf1, rf2]
    exact q _ (but_self.trans but_self) upd_same
/-- how a Run is made -/
structure RunMk (P : Program) (w : World) (K : PySem.W.Frag) (mg : Str → Option Value) (base : Heap) (C f : Addr) (fd : FuncData) : Prop where
  ok : FnOk P w K mg base CX0 1 f fd ["self", "deliveries", "fault"] (spRInit C)
  mg : mg "Run" = some (.ref C)
  mkC : Mk K C f
  b : Binds K fd ["self", "deliveries", "fault"] []
  kp : PySem.W.keepIn K (.ref C) = true
structure TrMk (P : Program) (w : World) (K : PySem.W.Frag) (mg : Str → Option Value) (base : Heap) (C C2 C4 f : Addr) (fd : FuncData) : Prop where
  ok : FnOk P w K mg base CX0 2 f fd ["self", "net", "plan", "broken"] (spTInit K C C2 C4)
  mg : mg "Traffic" = some (.ref C4)
  mkC : Mk K C4 f
  b : Binds K fd ["self", "net", "plan", "broken"] []
  kp : PySem.W.keepIn K (.ref C4) = true
end
end My
namespace My
open PySem PySem.Spec PyProof.Rows L2
abbrev sSim : Stmt := top 24 /-simulate-/
def trD (d : Int × Nat × Nat) : SrtO.I3 := (d.1, (d.2.1 : Int), (d.2.2 : Int))
theorem BrkAt.same {K : PySem.W.Frag} {H H' : Hp} {v : V} {bo : Option (Nat × Nat)} (h : BrkAt K H v bo) (e : Same H H') : BrkAt K H' v bo := by
  rcases h with h | ⟨tb, p, h1, h2, h3⟩
  · exact .inl h
  · exact .inr ⟨tb, p, h1, h2, same_tup e h3⟩
def MinD (is : List Int) (d m : Int) : Prop := (is = [] ∧ m = d) ∨ (m ∈ is ∧ ∀ j ∈ is, m ≤ j)
def MaxD (is : List Int) (d m : Int) : Prop := (is = [] ∧ m = d) ∨ (m ∈ is ∧ ∀ j ∈ is, j ≤ m)
def rMinKD2 : List V → List V → Hp → VK → Prop := fun vs zs H Q => ∃ (a : Addr) (kvs : List (Key × V)) (is : List Int) (d : V), vs = [V.ref a] ∧ zs = [d] ∧ H a = some (.dK kvs) ∧ kvs.map (·.1) = is.map Sum.inl ∧ ∀ m : V, ((is = [] ∧ m = d) ∨ ∃ i, m = .int i ∧ i ∈ is ∧ ∀ j ∈ is, i ≤ j) → Q m H
def rMaxKD2 : List V → List V → Hp → VK → Prop := fun vs zs H Q => ∃ (a : Addr) (kvs : List (Key × V)) (is : List Int) (d : V), vs = [V.ref a] ∧ zs = [d] ∧ H a = some (.dK kvs) ∧ kvs.map (·.1) = is.map Sum.inl ∧ ∀ m : V, ((is = [] ∧ m = d) ∨ ∃ i, m = .int i ∧ i ∈ is ∧ ∀ j ∈ is, j ≤ i) → Q m H
theorem cr_minKD2 {X : Cx} (hc : X.calm = true) : CallRK X (.builtin "min") ["default"] rMinKD2 := by
  intro pins s σ H vs zs us ws Q I r r2 h
  obtain ⟨a, kvs, is, d, h1, h2, h3, h4, q⟩ := h
  exact cr_minKD hc pins s σ H vs zs us ws Q I r r2 ⟨a, kvs, is, d, h1, h2, h3, h4, fun e => q d (.inl ⟨e, rfl⟩), fun _ m a b => q (.int m) (.inr ⟨m, rfl, a, b⟩)⟩
theorem cr_maxKD2 {X : Cx} (hc : X.calm = true) : CallRK X (.builtin "max") ["default"] rMaxKD2 := by
  intro pins s σ H vs zs us ws Q I r r2 h
  obtain ⟨a, kvs, is, d, h1, h2, h3, h4, q⟩ := h
  exact cr_maxKD hc pins s σ H vs zs us ws Q I r r2 ⟨a, kvs, is, d, h1, h2, h3, h4, fun e => q d (.inl ⟨e, rfl⟩), fun _ m a b => q (.int m) (.inr ⟨m, rfl, a, b⟩)⟩
theorem minD_of {is : List Int} {d : Int} {m : V} (h : (is = [] ∧ m = .int d) ∨ ∃ i, m = .int i ∧ i ∈ is ∧ ∀ j ∈ is, i ≤ j) : ∃ i, m = .int i ∧ MinD is d i := by
  rcases h with ⟨a, b⟩ | ⟨i, a, b⟩
  · exact ⟨d, b, .inl ⟨a, rfl⟩⟩
  · exact ⟨i, a, .inr b⟩
theorem maxD_of {is : List Int} {d : Int} {m : V} (h : (is = [] ∧ m = .int d) ∨ ∃ i, m = .int i ∧ i ∈ is ∧ ∀ j ∈ is, j ≤ i) : ∃ i, m = .int i ∧ MaxD is d i := by
  rcases h with ⟨a, b⟩ | ⟨i, a, b⟩
  · exact ⟨d, b, .inl ⟨a, rfl⟩⟩
  · exact ⟨i, a, .inr b⟩
theorem tripOf_dl {H : Hp} {t : Addr} {d : Int × Nat × Nat} (h : H t = some (.tup (dlV d))) : tripOf H (.ref t) = trD d := by
  have h' : H t = some (.tup [.int d.1, .int (d.2.1 : Int), .int (d.2.2 : Int)]) := h
  simp only [tripOf, h']
  rfl
theorem Paired.mem_r {α β : Type} {F : α → β → Prop} : ∀ {xs : List α} {ys : List β}, Paired F xs ys → ∀ y ∈ ys, ∃ x ∈ xs, F x y
  | _, _, .nil, _, h => by cases h
  | _, _, .cons r t, y, h => by
    rcases List.mem_cons.mp h with rfl | h
    · exact ⟨_, List.mem_cons_self, r⟩
    · obtain ⟨x, hx, hf⟩ := Paired.mem_r t y h
      exact ⟨x, List.mem_cons_of_mem _ hx, hf⟩
theorem Paired.pw {α β : Type} {F : α → β → Prop} {R : α → α → Prop} {S : β → β → Prop} (hS : ∀ a b x y, F a x → F b y → R a b → S x y) : ∀ {xs : List α} {ys : List β}, Paired F xs ys → xs.Pairwise R → ys.Pairwise S
  | _, _, .nil, _ => .nil
  | _, _, .cons r t, h => by
    rw [List.pairwise_cons] at h ⊢
    refine ⟨fun y hy => ?_, Paired.pw hS t h.2⟩
    obtain ⟨b, hb, hf⟩ := Paired.mem_r t y hy
    exact hS _ _ _ _ r hf (h.1 b hb)
def keyI (x : Key × V) : Int := match x.1 with
  | .inl τ => τ
  | _ => 0
theorem OpAt.keys {K : PySem.W.Frag} {Hx H : Hp} {d : Addr} {st : W3 → Int} {ws : List W3} (h : OpAt K Hx H d st ws) : ∃ kc : List (Key × V), H d = some (.dK kc) ∧ kc.map (·.1) = (kc.map keyI).map Sum.inl ∧ (∀ τ ∈ kc.map keyI, ∃ w ∈ ws, st w = τ) ∧ (∀ w ∈ ws, st w ∈ kc.map keyI) ∧
    ∀ τ : Int, (valV kc (Sum.inl τ) = none ∧ ws.filter (fun w => decide (st w = τ)) = []) ∨ ∃ l us, valV kc (Sum.inl τ) = some (.ref l) ∧ H l = some (.lst (us.map V.ref)) ∧ WsAt K H us (ws.filter fun w => decide (st w = τ)) := by
  obtain ⟨own, kc, s, n, h1, h2, h3, h4⟩ := h
  have e : ∀ x ∈ kc, x.1 = Sum.inl (keyI x) := fun x hx => by
    obtain ⟨w, _, e⟩ := h3 x hx
    unfold keyI
    rw [e]
  refine ⟨kc, h1, ?_, fun τ hτ => ?_, fun w hw => ?_, fun τ => ?_⟩
  · rw [List.map_map]
    exact List.map_congr_left e
  · obtain ⟨x, hx, rfl⟩ := List.mem_map.mp hτ
    obtain ⟨w, hw, e2⟩ := h3 x hx
    refine ⟨w, hw, ?_⟩
    rw [e x hx] at e2
    exact (Sum.inl.inj e2).symm
  · rcases h4 (st w) with ⟨_, f⟩ | ⟨l, us, g1, _⟩
    · have : w ∈ ws.filter (fun x => decide (st x = st w)) := List.mem_filter.mpr ⟨hw, decide_eq_true rfl⟩
      rw [f] at this
      cases this
    · obtain ⟨j, hj⟩ := valV_mem g1
      refine List.mem_map.mpr ⟨_, List.mem_of_getElem? hj, rfl⟩
  · rcases h4 τ with f | ⟨l, us, g1, _, _, g4, g5⟩
    · exact .inl f
    · exact .inr ⟨l, us, g1, g4, g5⟩
section
variable {P : Program} {w : World} {K : PySem.W.Frag} {mg : Str → Option Value} {base : Heap}
theorem scSim : FnScope ["net", "plan", "errors", "count", "broken", "openings", "traffic", "tick", "fault", "row"] ["net", "plan", "errors", "count", "broken"] (defScope sSim) := ⟨rfl, rfl, rfl, by decide +kernel, rfl, by decide +kernel, by decide +kernel⟩
def spSim (K : PySem.W.Frag) (C C2 C5 : Addr) : Sp := fun vs H Q _ => ∃ (np pl el : Addr) (c : Nat) (bv : V) (N : NetD) (ts : List Addr) (es : List EntD) (er : List Int) (bo : Option (Nat × Nat)), vs = [.ref np, .ref pl, .ref el, .int (c : Int), bv] ∧ NetAt K C H np N ∧ SqL K H pl (ts.map V.ref) ∧ EntsAt K C2 H ts es ∧ SqL K H el (er.map V.int) ∧ EnvOk N es ∧ BrkAt K H bv bo ∧
  (∀ e ∈ es, ∀ x ∈ e.s.path, x < er.length) ∧ (wins es c).length ≤ 2000 ∧ es.length ≤ 10 ∧ c ≤ 40 ∧ (∀ w ∈ wins es c, -1000000000 ≤ stW es er w ∧ stW es er w ≤ 1000000000) ∧
  ∀ (lo : Int) (n : Nat), (∀ w ∈ wins es c, lo ≤ stW es er w ∧ stW es er w < lo + n) → 
  (∀ T H' r dx dv ts ds, Reach N es (bpOf bo) er c lo n T → Same H H' → H' r = some (.ins C5 dx (rnF (.ref dv) .non)) → H' dv = some (.lst (ts.map V.ref)) → DlsAt K H' ts ds → ds.Perm T.dl → SrtO.Srtd (fun x y => SrtO.lex3 (trD x) (trD y)) ds → Q (.ref r) H') ∧
  (∀ i T H' r dx dv fv, i < n → Reach N es (bpOf bo) er c lo i T → Broke N es (bpOf bo) T (lo + i) (opsT es er c (lo + i)) → Same H H' → H' r = some (.ins C5 dx (rnF (.ref dv) (.ref fv))) → Q (.ref r) H')
theorem ok_sim {f C C2 C4 C5 fO fT fR fPt : Addr} {fd fdO fdT fdR fdPt : FuncData} {k : Nat} (F : Fun K "simulate" "simulate" sSim f fd) (Tb : Blt mg) (c4 : TrC K C4) (GO : Callee P w K mg base 1 "openings_of" ["plan", "errors", "count"] (spOpen K C2) fO fdO) (GT : TrMk P w K mg base C C2 C4 fT fdT) (GR : RunMk P w K mg base C5 fR fdR) (mPt : Meth K C4 "pass_tick" fPt) (GPt : MethOf P w K mg base 4 ["self", "tick", "opening"] (spPass K C C2 C4) fPt fdPt) (hsorted : mg "sorted" = none) (hmin : mg "min" = none) (hmax : mg "max" = none) : FnOk P w K mg base CX0 (k + 5) f fd ["net", "plan", "errors", "count", "broken"] (spSim K C C2 C5) := by
  refine F.ok scSim (fun vs H Q E h => ?_) (fun cdv A0 outer s0 H vs Q E hr h => ?_)
  · obtain ⟨np, pl, el, c, bv, N, ts, es, er, bo, rfl, _⟩ := h
    rfl
  · obtain ⟨np, pl, el, c, bv, N, ts, es, er, bo, rfl, hN, hpl, hE, hel, en, hB, hpx, hw2, hl, hc, hbd, q⟩ := h
    have nd := scSim.nd
    have hu := hu_of hr
    have hr1 : Room 1 _ := hr.mono (by omega)
    have hr2 : Room 2 _ := hr.mono (by omega)
    have hr3 : Room 3 _ := hr.mono (by omega)
    have hr4 : Room 4 _ := hr.mono (by omega)
    refine ⟨_, pss_cons (ps_set (i := 5) nd rfl (.inl rfl) (pe_call GO.ok hr1 (by rfl) GO.mg GO.kp GO.b .nil pass0 (pa_cons (pv 1) (pa_cons (pv 2) (pa_cons (pv 3) pa_nil))))) <| pss_cons (ps_set (i := 6) nd rfl (.inl rfl) (pe_make GT.mkC GT.ok hr3 (by rfl) GT.mg GT.b .nil pass0 (pa_cons (pv 0) (pa_cons (pv 1) (pa_cons (pv 4) pa_nil))))) <| pss_cons (ps_for PassesOwn.never rfl (pi_range2 (by rfl) Tb.range (pa_cons (pe_callBK (cr_minKD2 rfl) (by rfl) hmin rfl (pa_cons (pv 5) pa_nil) (pk_cons pe_int pk_nil)) (pa_cons (pe_op op_add (pe_callBK (cr_maxKD2 rfl) (by rfl) hmax rfl (pa_cons (pv 5) pa_nil) (pk_cons (pe_un un_neg pe_int) pk_nil)) pe_int) pa_nil))) (pg_name (i := 7) nd rfl (.inr rfl)) (pss_cons (ps_set (i := 8) nd rfl (.inl rfl) (pe_meth (pv 6) c4.cl mPt GPt.ok hr4 GPt.b .nil pass0 (pa_cons (pv 7) (pa_cons (pe_dget2 hu (pv 5) (pv 7) (pe_lst pa_nil) ⟨rfl, rfl, rfl, rfl⟩) pa_nil)))) <| pss_one (ps_if (pt_cmpR op_notN (pv 8) pe_non (nomark _)) (pss_one (ps_ret (pe_make GR.mkC GR.ok hr2 (by rfl) GR.mg GR.b .nil pass0 (pa_cons (pe_callB cr_sortedT3 (by rfl) hsorted (by decide +kernel) (pa_cons (pe_lc (own := [("row", 9)]) (g := gName 9) rfl nd (pi_list (pe_fld (pv 6) rfl)) (blkOk_by (own := [("row", 9)]) (N := ["net", "plan", "errors", "count", "broken", "openings", "traffic", "tick", "fault", "row"]) (sc := defScope sSim) (by decide +kernel)) (fun _ _ _ _ _ => pg_name (i := 9) nd rfl (Or.inl rfl)) (fun _ _ _ _ _ => pts_one (pt_cmpR op_le (pe_ix (ix_tupK (K := K)) (pv 9) pe_int (fun _ _ => rfl)) (pv 7) (nomark _))) (fun _ _ _ _ _ => (pv 9))) pa_nil)) (pa_cons (pv 8) pa_nil))))) (pss_nil)))) <| pss_one (ps_ret (pe_make GR.mkC GR.ok hr2 (by rfl) GR.mg GR.b .nil pass0 (pa_cons (pe_callB cr_sortedT3 (by rfl) hsorted (by decide +kernel) (pa_cons (pe_fld (pv 6) rfl) pa_nil)) (pa_cons pe_non pa_nil)))), ?_⟩
    have hopen : ∀ e ∈ es, e.os.length ≤ e.s.path.length ∧ e.os.length ≤ 10 ∧ ∀ x ∈ e.s.path, x < er.length := fun e he => by
      have eo := en.ok e he
      have := eo.len
      have := eo.po.le
      exact ⟨by omega, by omega, hpx e he⟩
    refine ⟨_, rfl, _, rfl, _, rfl, pl, el, c, ts, es, er, rfl, hpl, hE, hel, hopen, hl, hc, fun H1 d hO => ?_⟩
    have sO := hO.sm
    obtain ⟨kc, hd1, hkeys, hk1, hk2, hk3⟩ := hO.keys
    refine ⟨_, rfl, _, rfl, _, rfl, fun x dx nx ndx ne => ⟨x, dx, np, pl, bv, N, ts, es, bo, H1, rfl, upd_same, same_make0 nx ndx, nx, hN.same sO, sO.seq hpl, hE.same sO, hB.same sO, by omega, fun H0 H2 A s0' hS hM => ⟨rfl, ?_⟩⟩⟩
    have hS' := hS
    obtain ⟨dx2, np2, sl2, pl2, bl2, us2, pls2, bts2, z1, _⟩ := hS'
    have hd2 := hM.st _ _ (s0' _ _ hd1)
    refine ⟨_, rfl, d, kc, kc.map keyI, .int 0, rfl, rfl, hd2, hkeys, fun m hlo => ?_⟩
    obtain ⟨lo, rfl, hlo2⟩ := minD_of hlo
    clear hlo
    refine ⟨_, rfl, 1, rfl, d, kc, kc.map keyI, .int (-1), rfl, rfl, hd2, hkeys, fun m hhi => ?_⟩
    obtain ⟨hi, rfl, hhi2⟩ := maxD_of hhi
    clear hhi
    have hlb : -1000000000 ≤ lo ∧ lo ≤ 1000000000 := by
      rcases hlo2 with ⟨_, rfl⟩ | ⟨a, _⟩
      · omega
      · obtain ⟨w, hw, e⟩ := hk1 _ a
        have := hbd w hw
        omega
    have hhb : -1000000000 ≤ hi ∧ hi ≤ 1000000000 := by
      rcases hhi2 with ⟨_, rfl⟩ | ⟨a, _⟩
      · omega
      · obtain ⟨w, hw, e⟩ := hk1 _ a
        have := hbd w hw
        omega
    have key : ∀ w ∈ wins es c, lo ≤ stW es er w ∧ stW es er w < lo + ((hi + 1 - lo).toNat : Nat) := fun w hw => by
      have hm := hk2 w hw
      have h1 : lo ≤ stW es er w := by
        rcases hlo2 with ⟨e, _⟩ | ⟨_, a⟩
        · rw [e] at hm; cases hm
        · exact a _ hm
      have h2 : stW es er w ≤ hi := by
        rcases hhi2 with ⟨e, _⟩ | ⟨_, a⟩
        · rw [e] at hm; cases hm
        · exact a _ hm
      omega
    obtain ⟨q1, q2⟩ := q lo (hi + 1 - lo).toNat key
    clear q key
    have lk : ∀ {H' : Hp}, Same H0 H' → H' x = some (.ins C4 dx2 (trF np2 sl2 pl2 bl2 A)) := fun e => e _ _ z1
    refine ⟨_, _, rfl, rfl, _, _, rfl, ⟨by omega, by omega, by omega, by omega⟩, for_range (lo := lo) (n := (hi + 1 - lo).toNat) (fun i σ H' => ∃ (T : Tr) (v7 v8 : Option V), σ = [some (.ref np), some (.ref pl), some (.ref el), some (.int (c : Int)), some bv, some (.ref d), some (.ref x), v7, v8, none] ∧ MutAt K H0 H' A T (256 + 4 * cntB (wins es c) (stW es er) (lo + i)) ∧ Reach N es (bpOf bo) er c lo i T ∧ TrOk es T) ⟨tr0, none, none, rfl, hM.more (by omega), .zero, tr0_ok⟩ ?_ ?_⟩
    · rintro i σ H3 hi' ⟨T, v7, v8, rfl, hM3, hR, ok3⟩
      have cs := cntB_step (stW es er) (lo + i) (wins es c)
      have cl := cntB_le (wins es c) (stW es er) (lo + i + 1)
      have eops : (wins es c).filter (fun w => decide (stW es er w = lo + i)) = opsT es er c (lo + i) := rfl
      have hd3 := hM3.st _ _ (s0' _ _ hd1)
      refine ⟨_, rfl, x, dx2, _, rfl, lk hM3.st, tm_pass_tick, _, rfl, _, rfl, d, rfl, .inl ⟨_, .inl hd3⟩, _, rfl, Nat.zero_le _, fun e0 ne0 => ⟨valV kc (.inl (lo + i)), DGet.k (k := .inl (lo + i)) (same_new ne0 _ _ hd3), ?_⟩⟩
      have n00 : H0 e0 = none := by
        cases z : H0 e0 with
        | none => rfl
        | some o => rw [hM3.st _ _ z] at ne0; cases ne0
      have se := same_new (o := .lst []) n00
      have hM4 := hM3.new (o := .lst []) ne0
      obtain ⟨ol, us, eo, hol, hus⟩ : ∃ (ol : Addr) (us : List Addr), (valV kc (.inl (lo + i))).getD (.ref e0) = .ref ol ∧ (upd H0 e0 (.lst [])) ol = some (.lst (us.map V.ref)) ∧ WsAt K (upd H0 e0 (.lst [])) us (opsT es er c (lo + i)) := by
        rcases hk3 (lo + i) with ⟨f1, f2⟩ | ⟨l, us, f1, f4, f5⟩
        · rw [f1, ← eops, f2]
          exact ⟨e0, [], rfl, upd_same, .nil⟩
        · rw [f1, ← eops]
          exact ⟨l, us, rfl, se _ _ (s0' _ _ f4), WsAt.mono (K := K) f5 fun _ _ z => se _ _ (s0' _ _ z)⟩
      rw [eo]
      rw [eops] at cs
      have how : ∀ w ∈ opsT es er c (lo + i), WV es w := fun w hw => (mem_wins.mp (List.mem_filter.mp hw).1).1
      refine ⟨x, ol, lo + i, _, A, N, es, bpOf bo, us, opsT es er c (lo + i), T, _, rfl, hS.same se, en, hM4, hol, hus, how, ok3, by omega, by omega, fun H5 T5 hP hM5 => ?_, fun r H5 T5 hB5 hM5 => ?_⟩
      · have hM6 := hM5.weak se
        refine ⟨_, rfl, rfl, _, rfl, ite2 (fun z => ?_) (fun z => ?_)⟩
        · exact absurd z (by decide)
        · refine ⟨T5, _, _, rfl, hM6.more ?_, .step hR hP, hP.ok ok3 how⟩
          rw [show lo + ((i + 1 : Nat) : Int) = lo + i + 1 by omega]
          omega
      · have hM6 := hM5.weak se
        refine ⟨_, rfl, rfl, _, rfl, ite2 (fun z => ?_) (fun z => ?_)⟩
        · obtain ⟨dts, d1, d2, d3⟩ := hM6.dlAt
          have ld := d3.length
          refine ⟨_, rfl, x, C4, dx2, _, _, rfl, lk hM6.st, c4.cl, c4.n5, tg5, A.dl, rfl, ⟨_, SqL.of d1⟩, fun D nD => ?_⟩
          refine lc_list (K := K) (a := A.dl) (xs := dts.map V.ref) (fun j H' => Same H5 H' ∧ ∃ us : List Addr, H' D = some (.lst (us.map V.ref)) ∧ (∀ u ∈ us, ∃ dd : Int × Nat × Nat, H5 u = some (.tup (dlV dd))) ∧ us.length ≤ j) ⟨same_new nD, [], upd_same, fun u hu => (List.not_mem_nil hu).elim, Nat.le_refl _⟩ (fun j H' _ z => SqL.of (z.1 _ _ d1)) ?_ ?_
          · rintro j v H' hj ⟨sm, us', hD, hU, lu⟩
            obtain ⟨tt, et, rfl⟩ := refs_at hj
            obtain ⟨dd, ed, hdd⟩ := Paired.at d3 et
            have jl := (List.getElem?_eq_some_iff.mp et).1
            refine ⟨rfl, _, rfl, tt, _, _, _, rfl, rfl, SqT.of (sm _ _ hdd), rfl, _, rfl, _, _, rfl, rfl, _, rfl, ite2 (fun _ => ?_) (fun _ => ?_)⟩
            · refine ⟨_, rfl, _, hD, szl (by rw [List.length_map]; omega), same_but sm nD but_self, us' ++ [tt], by rw [upd_same, List.map_append]; rfl, fun u hu => ?_, by rw [List.length_append]; show us'.length + 1 ≤ j + 1; omega⟩
              rcases List.mem_append.mp hu with hu | hu
              · exact hU u hu
              · cases List.mem_singleton.mp hu
                exact ⟨dd, hdd⟩
            · exact ⟨sm, us', hD, hU, by omega⟩
          · rintro H7 ⟨s7, us', hD7, hU7, lu⟩
            refine ⟨D, _, tripOf H7, rfl, SqL.of hD7, fun v hv => ?_, fun ys p _ _ npp => ?_⟩
            · obtain ⟨u, hu, rfl⟩ := List.mem_map.mp hv
              obtain ⟨dd, hdd⟩ := hU7 u hu
              exact ⟨u, rfl, by rw [tripOf_dl (s7 _ _ hdd)]; exact s7 _ _ hdd⟩
            · refine ⟨_, rfl, fun x5 dx5 nx5 ndx5 ne5 => ⟨x5, dx5, .ref p, .ref r, rfl, upd_same, fun H8 kb hx5 => ⟨rfl, ?_⟩⟩⟩
              exact q2 i T H8 x5 dx5 p r hi' hR hB5 ((((sO.trans s0').trans hM6.st).trans s7).trans ((same_new npp).trans (same_make nx5 ndx5 kb))) hx5
        · exact absurd (by rw [decide_eq_false (by intro y; cases y)]; rfl) z
    · rintro σ H3 ⟨T, v7, v8, rfl, hM3, hR, ok3⟩
      obtain ⟨dts, d1, d2, d3⟩ := hM3.dlAt
      refine ⟨_, rfl, x, C4, dx2, _, _, rfl, lk hM3.st, c4.cl, c4.n5, tg5, A.dl, _, tripOf H3, rfl, SqL.of d1, fun v hv => ?_, fun ys p hsrt hperm npp => ?_⟩
      · obtain ⟨u, hu, rfl⟩ := List.mem_map.mp hv
        obtain ⟨j, hj⟩ := List.mem_iff_getElem?.mp hu
        obtain ⟨dd, _, hdd⟩ := Paired.at d3 hj
        exact ⟨u, rfl, by rw [tripOf_dl hdd]; exact hdd⟩
      · obtain ⟨zts, rfl, hzp⟩ := perm_refs hperm
        obtain ⟨ds, hds, hD⟩ := Paired.perm hzp d3
        refine fun x5 dx5 nx5 ndx5 ne5 => ⟨x5, dx5, .ref p, .non, rfl, upd_same, fun H8 kb hx5 => ⟨rfl, ?_⟩⟩
        have s3 := same_new (o := .lst (zts.map V.ref)) npp
        have s8 := same_make nx5 ndx5 kb
        refine q1 T H8 x5 dx5 p zts ds hR (((sO.trans s0').trans hM3.st).trans (s3.trans s8)) hx5 (s8 _ _ upd_same) (DlsAt.mono (K := K) hD fun _ _ z => s8 _ _ (s3 _ _ z)) hds ?_
        refine Paired.pw (F := fun (t : Addr) (d : Int × Nat × Nat) => H3 t = some (.tup (dlV d))) (fun a b y z ha hb h => ?_) hD (List.pairwise_map.mp hsrt)
        have h : SrtO.lex3 (tripOf H3 (.ref b)) (tripOf H3 (.ref a)) = false := h
        rw [tripOf_dl ha, tripOf_dl hb] at h
        exact h
end
end My
/-! The simulation of a plan without a fault: what a send keeps. No row. -/
namespace My
open PySem PySem.Spec PyProof.Rows L2
def prW (w : W3) : W3 := (w.1, w.2.1 - 1, w.2.2)
def nxW (w : W3) : W3 := (w.1, w.2.1 + 1, w.2.2)
def lastW (es : List EntD) (w : W3) : Bool := decide (w.2.1 + 1 = (entW es w).os.length)
section
variable (N : NetD) (es : List EntD) (er : List Int) (bp : List (Nat × Nat)) (c : Nat)
def trW (w : W3) : Int := travel N (entW es w).s w.2.1
def lnW (w : W3) : Int := (entW es w).s.ln
/-- the tick at which the frame of a window reaches its queue -/
def awW (w : W3) : Int := stW es er (prW w) + trW N es (prW w)
def bkW (w : W3) : Bool := bp.contains (portW es w)
/-- no line before the window's is broken -/
def alW (w : W3) : Bool := (List.range w.2.1).all fun h => !bkW es bp (w.1, h, w.2.2)
def dlW (w : W3) : Int × Nat × Nat := (stW es er w + trW N es w, w.1, w.2.2)
/-- the state, by what has been sent and what has reached a queue -/
structure JInv (sn pu : W3 → Bool) (T : Tr) : Prop where
  fr : ∀ p v, T.fr p = some v → ∃ w ∈ wins es c, sn w = true ∧ portW es w = p ∧ v = stW es er w + lnW es w
  qs : ∀ p w, w ∈ T.qs p ↔ w ∈ wins es c ∧ 0 < w.2.1 ∧ portW es w = p ∧ pu w = true ∧ sn w = false ∧ alW es bp w = true
  qn : ∀ p, (T.qs p).Nodup
  cm : ∀ σ w, w ∈ T.cm σ ↔ w ∈ wins es c ∧ 0 < w.2.1 ∧ awW N es er w = σ ∧ sn (prW w) = true ∧ alW es bp w = true
  cn : ∀ σ, (T.cm σ).Nodup
  dl : T.dl.Perm (((wins es c).filter fun w => sn w && lastW es w && alW es bp w && !bkW es bp w).map (dlW N es er))
  ls : ∀ i k, T.ls (i, k) = true ↔ ∃ w ∈ wins es c, sn w = true ∧ alW es bp w = true ∧ bkW es bp w = true ∧ w.1 = i ∧ w.2.2 = k
end
theorem alW_next {es : List EntD} {bp : List (Nat × Nat)} {w : W3} : alW es bp (nxW w) = (alW es bp w && !bkW es bp w) := by
  unfold alW nxW
  show (List.range (w.2.1 + 1)).all _ = _
  rw [List.range_succ, List.all_append]
  simp
theorem prW_next {w : W3} : prW (nxW w) = w := rfl
theorem nxW_prev {w : W3} (h : 0 < w.2.1) : nxW (prW w) = w := by
  obtain ⟨i, j, k⟩ := w
  have h : 0 < j := h
  show (i, j - 1 + 1, k) = (i, j, k)
  rw [Nat.sub_add_cancel h]
theorem filter_add {α : Type} [DecidableEq α] : ∀ {l : List α} {p q : α → Bool} {w : α}, l.Nodup → w ∈ l → p w = false → q w = true → (∀ x, x ≠ w → q x = p x) → (l.filter q).Perm (l.filter p ++ [w])
  | [], _, _, _, _, h, _, _, _ => by cases h
  | a :: l, p, q, w, hn, hw, hp, hq, he => by
    rw [List.nodup_cons] at hn
    rw [List.filter_cons, List.filter_cons]
    by_cases e : a = w
    · subst e
      rw [if_pos hq, if_neg (by rw [hp]; decide)]
      have : l.filter q = l.filter p := List.filter_congr fun x hx => he x fun z => hn.1 (by rw [← z]; exact hx)
      rw [this]
      exact (List.perm_append_comm (l₁ := [a])).trans (List.Perm.refl _)
    · have hw' : w ∈ l := by
        rcases List.mem_cons.mp hw with h | h
        · exact absurd h.symm e
        · exact h
      have ih := filter_add (q := q) hn.2 hw' hp hq he
      rw [he a e]
      by_cases z : p a = true
      · rw [if_pos z, if_pos z]
        exact ih.cons a
      · rw [if_neg z, if_neg z]
        exact ih
theorem winF_nodup (i h n : Nat) : (winF i h n).Nodup := by
  unfold winF
  rw [List.nodup_iff_pairwise_ne, List.pairwise_map]
  exact List.Pairwise.imp (fun h z => h (by injection z with _ z; injection z)) (List.nodup_iff_pairwise_ne.mp List.nodup_range)
theorem fm_nodup {α : Type} (f : Nat → List α) (hd : ∀ i j x, x ∈ f i → x ∈ f j → i = j) (hf : ∀ i, (f i).Nodup) : ∀ n, ((List.range n).flatMap f).Nodup
  | 0 => List.Pairwise.nil
  | n + 1 => by
    rw [range_fsnoc, List.nodup_append]
    refine ⟨fm_nodup f hd hf n, hf n, fun x hx y hy z => ?_⟩
    subst z
    obtain ⟨i, hi, hx⟩ := List.mem_flatMap.mp hx
    have := hd i n x hx hy
    have := List.mem_range.mp hi
    omega
theorem wins_nodup (es : List EntD) (n : Nat) : (wins es n).Nodup := by
  unfold wins winE
  refine fm_nodup _ (fun i j x hx hy => ?_) (fun i => ?_) _
  · unfold winH at hx hy
    obtain ⟨a, _, hx⟩ := List.mem_flatMap.mp hx
    obtain ⟨b, _, hy⟩ := List.mem_flatMap.mp hy
    rw [← (mem_winF.mp hx).1, (mem_winF.mp hy).1]
  · unfold winH
    refine fm_nodup _ (fun a b x hx hy => ?_) (fun h => winF_nodup _ _ _) _
    rw [← (mem_winF.mp hx).2.1, (mem_winF.mp hy).2.1]
theorem wv_next {es : List EntD} {c : Nat} {w : W3} (h : w ∈ wins es c) (hl : lastW es w = false) : nxW w ∈ wins es c := by
  obtain ⟨⟨h1, h2⟩, h3⟩ := mem_wins.mp h
  refine mem_wins.mpr ⟨⟨h1, ?_⟩, h3⟩
  have : ¬ w.2.1 + 1 = (entW es w).os.length := of_decide_eq_false hl
  show w.2.1 + 1 < (entW es w).os.length
  omega
theorem wv_prev {es : List EntD} {c : Nat} {w : W3} (h : w ∈ wins es c) : prW w ∈ wins es c := by
  obtain ⟨⟨h1, h2⟩, h3⟩ := mem_wins.mp h
  refine mem_wins.mpr ⟨⟨h1, ?_⟩, h3⟩
  show w.2.1 - 1 < (entW es w).os.length
  omega
theorem last_prev {es : List EntD} {c : Nat} {w : W3} (h : w ∈ wins es c) (hp : 0 < w.2.1) : lastW es (prW w) = false := by
  obtain ⟨⟨h1, h2⟩, h3⟩ := mem_wins.mp h
  refine decide_eq_false ?_
  show ¬ w.2.1 - 1 + 1 = (entW es w).os.length
  omega
/-- a window's frame is sent -/
theorem JInv.send {N : NetD} {es : List EntD} {er : List Int} {bp : List (Nat × Nat)} {c : Nat} {sn pu : W3 → Bool} {T : Tr} {w : W3} (h : JInv N es er bp c sn pu T) (hw : w ∈ wins es c) (hs : sn w = false) (ha : alW es bp w = true) (hq : 0 < w.2.1 → T.qs (portW es w) = [w]) :
    JInv N es er bp c (fun x => sn x || decide (x = w)) pu (sendT N es bp T w (stW es er w)) := by
  have sne : ∀ x, x ≠ w → (sn x || decide (x = w)) = sn x := fun x hx => by rw [decide_eq_false hx, Bool.or_false]
  have sw : (sn w || decide (w = w)) = true := by rw [decide_eq_true rfl, Bool.or_true]
  have sT : ∀ x, (sn x || decide (x = w)) = true ↔ sn x = true ∨ x = w := fun x => by rw [Bool.or_eq_true, decide_eq_true_eq]
  have efr : (sendT N es bp T w (stW es er w)).fr = setF T.fr (portW es w) (some (stW es er w + lnW es w)) := by
    unfold sendT
    by_cases e : bp.contains (portW es w) = true
    · rw [if_pos e]; rfl
    · rw [if_neg e]
      by_cases l : w.2.1 + 1 = (entW es w).os.length
      · rw [if_pos l]; rfl
      · rw [if_neg l]; rfl
  have ecm : (sendT N es bp T w (stW es er w)).cm = if bkW es bp w = true then T.cm else if lastW es w = true then T.cm else setF T.cm (stW es er w + trW N es w) (T.cm (stW es er w + trW N es w) ++ [nxW w]) := by
    unfold sendT bkW
    by_cases e : bp.contains (portW es w) = true
    · rw [if_pos e, if_pos e]
    · rw [if_neg e, if_neg e]
      by_cases l : w.2.1 + 1 = (entW es w).os.length
      · rw [if_pos l, if_pos (show lastW es w = true from decide_eq_true l)]
      · rw [if_neg l, if_neg (show ¬ lastW es w = true from fun z => l (of_decide_eq_true z))]
        rfl
  have edl : (sendT N es bp T w (stW es er w)).dl = if bkW es bp w = true then T.dl else if lastW es w = true then T.dl ++ [dlW N es er w] else T.dl := by
    unfold sendT bkW
    by_cases e : bp.contains (portW es w) = true
    · rw [if_pos e, if_pos e]
    · rw [if_neg e, if_neg e]
      by_cases l : w.2.1 + 1 = (entW es w).os.length
      · rw [if_pos l, if_pos (show lastW es w = true from decide_eq_true l)]
        rfl
      · rw [if_neg l, if_neg (show ¬ lastW es w = true from fun z => l (of_decide_eq_true z))]
  have els : (sendT N es bp T w (stW es er w)).ls = if bkW es bp w = true then setF T.ls (w.1, w.2.2) true else T.ls := by
    unfold sendT bkW
    by_cases e : bp.contains (portW es w) = true
    · rw [if_pos e, if_pos e]
    · rw [if_neg e, if_neg e]
      by_cases l : w.2.1 + 1 = (entW es w).os.length
      · rw [if_pos l]
      · rw [if_neg l]
  have eqs := sendT_qs (N := N) (es := es) (bp := bp) (T := T) (w := w) (τ := stW es er w)
  have wn := wins_nodup es c
  refine ⟨fun p v hv => ?_, fun p x => ?_, fun p => ?_, fun σ x => ?_, fun σ => ?_, ?_, fun i k => ?_⟩
  · rw [efr] at hv
    by_cases e : p = portW es w
    · subst e
      rw [setF_same] at hv
      exact ⟨w, hw, sw, rfl, (Option.some.inj hv).symm⟩
    · rw [setF_ne e] at hv
      obtain ⟨x, h1, h2, h3⟩ := h.fr p v hv
      exact ⟨x, h1, (sT x).mpr (.inl h2), h3⟩
  · rw [eqs]
    by_cases z : w.2.1 > 0
    · rw [if_pos z]
      by_cases e : p = portW es w
      · subst e
        rw [setF_same, hq z]
        show x ∈ [] ↔ _
        refine ⟨fun y => absurd y List.not_mem_nil, fun ⟨h1, h2, h3, h4, h5, h6⟩ => ?_⟩
        have n : x ≠ w := fun y => by subst y; rw [sw] at h5; cases h5
        rw [sne x n] at h5
        have := (h.qs _ x).mpr ⟨h1, h2, h3, h4, h5, h6⟩
        rw [hq z] at this
        exact absurd (List.mem_singleton.mp this) n
      · rw [setF_ne e, h.qs]
        refine ⟨fun ⟨h1, h2, h3, h4, h5, h6⟩ => ⟨h1, h2, h3, h4, ?_, h6⟩, fun ⟨h1, h2, h3, h4, h5, h6⟩ => ⟨h1, h2, h3, h4, ?_, h6⟩⟩
        · rw [sne x (fun y => e (by rw [← h3, y]))]; exact h5
        · rw [sne x (fun y => e (by rw [← h3, y]))] at h5; exact h5
    · rw [if_neg z, h.qs]
      refine ⟨fun ⟨h1, h2, h3, h4, h5, h6⟩ => ⟨h1, h2, h3, h4, ?_, h6⟩, fun ⟨h1, h2, h3, h4, h5, h6⟩ => ⟨h1, h2, h3, h4, ?_, h6⟩⟩
      · rw [sne x (fun y => z (by rw [← y]; exact h2))]; exact h5
      · rw [sne x (fun y => z (by rw [← y]; exact h2))] at h5; exact h5
  · rw [eqs]
    by_cases z : w.2.1 > 0
    · rw [if_pos z]
      by_cases e : p = portW es w
      · subst e
        rw [setF_same, hq z]
        exact List.Pairwise.nil
      · rw [setF_ne e]; exact h.qn p
    · rw [if_neg z]; exact h.qn p
  · rw [ecm]
    by_cases b : bkW es bp w = true
    · rw [if_pos b, h.cm]
      refine ⟨fun ⟨h1, h2, h3, h4, h5⟩ => ⟨h1, h2, h3, (sT _).mpr (.inl h4), h5⟩, fun ⟨h1, h2, h3, h4, h5⟩ => ⟨h1, h2, h3, ?_, h5⟩⟩
      rcases (sT _).mp h4 with h4 | h4
      · exact h4
      · rw [← nxW_prev h2, h4, alW_next, b, Bool.not_true, Bool.and_false] at h5
        cases h5
    · rw [if_neg b]
      by_cases l : lastW es w = true
      · rw [if_pos l, h.cm]
        refine ⟨fun ⟨h1, h2, h3, h4, h5⟩ => ⟨h1, h2, h3, (sT _).mpr (.inl h4), h5⟩, fun ⟨h1, h2, h3, h4, h5⟩ => ⟨h1, h2, h3, ?_, h5⟩⟩
        rcases (sT _).mp h4 with h4 | h4
        · exact h4
        · have := last_prev h1 h2
          rw [h4, l] at this
          cases this
      · rw [if_neg l]
        have l' : lastW es w = false := by cases e : lastW es w with
          | true => exact absurd e l
          | false => rfl
        have b' : bkW es bp w = false := by cases e : bkW es bp w with
          | true => exact absurd e b
          | false => rfl
        have awn : awW N es er (nxW w) = stW es er w + trW N es w := rfl
        have key : x ∈ (wins es c) ∧ 0 < x.2.1 ∧ awW N es er x = σ ∧ (sn (prW x) || decide (prW x = w)) = true ∧ alW es bp x = true ↔ x ∈ T.cm σ ∨ (x = nxW w ∧ σ = stW es er w + trW N es w) := by
          rw [h.cm]
          constructor
          · rintro ⟨h1, h2, h3, h4, h5⟩
            rcases (sT _).mp h4 with h4 | h4
            · exact .inl ⟨h1, h2, h3, h4, h5⟩
            · have ex : x = nxW w := by rw [← nxW_prev h2, h4]
              exact .inr ⟨ex, by rw [← h3, ex, awn]⟩
          · rintro (⟨h1, h2, h3, h4, h5⟩ | ⟨rfl, rfl⟩)
            · exact ⟨h1, h2, h3, (sT _).mpr (.inl h4), h5⟩
            · exact ⟨wv_next hw l', Nat.succ_pos _, awn, (sT _).mpr (.inr prW_next), by rw [alW_next, ha, b']; rfl⟩
        rw [key]
        by_cases e : σ = stW es er w + trW N es w
        · rw [e, setF_same, List.mem_append, List.mem_singleton]
          exact ⟨fun h => h.imp id fun h => ⟨h, rfl⟩, fun h => h.imp id fun h => h.1⟩
        · rw [setF_ne e]
          exact ⟨.inl, fun h => h.elim id fun h => absurd h.2 e⟩
  · rw [ecm]
    by_cases b : bkW es bp w = true
    · rw [if_pos b]; exact h.cn σ
    · rw [if_neg b]
      by_cases l : lastW es w = true
      · rw [if_pos l]; exact h.cn σ
      · rw [if_neg l]
        by_cases e : σ = stW es er w + trW N es w
        · rw [e, setF_same, List.nodup_append]
          refine ⟨h.cn _, List.pairwise_singleton _ _, fun x hx y hy z => ?_⟩
          cases List.mem_singleton.mp hy
          subst z
          have := ((h.cm _ _).mp hx).2.2.2.1
          rw [prW_next, hs] at this
          cases this
        · rw [setF_ne e]; exact h.cn σ
  · rw [edl]
    by_cases g : (lastW es w && alW es bp w && !bkW es bp w) = true
    · obtain ⟨g12, g3⟩ := (Bool.and_eq_true _ _).mp g
      obtain ⟨g1, g2⟩ := (Bool.and_eq_true _ _).mp g12
      have g3' : ¬ bkW es bp w = true := fun z => by rw [z] at g3; cases g3
      rw [if_neg g3', if_pos g1]
      have := filter_add (l := wins es c) (p := fun w => sn w && lastW es w && alW es bp w && !bkW es bp w) (q := fun x => (sn x || decide (x = w)) && lastW es x && alW es bp x && !bkW es bp x) wn hw (by simp only [hs, Bool.false_and]) (by show ((sn w || decide (w = w)) && lastW es w && alW es bp w && !bkW es bp w) = true; rw [sw, g1, g2, g3]; rfl) (fun x hx => by simp only [sne x hx])
      refine List.Perm.trans ?_ (this.map (dlW N es er)).symm
      rw [List.map_append]
      exact h.dl.append (List.Perm.refl _)
    · have g' : (lastW es w && alW es bp w && !bkW es bp w) = false := by
        cases e : (lastW es w && alW es bp w && !bkW es bp w) with
        | true => exact absurd e g
        | false => rfl
      have : (wins es c).filter (fun x => (sn x || decide (x = w)) && lastW es x && alW es bp x && !bkW es bp x) = (wins es c).filter fun w => sn w && lastW es w && alW es bp w && !bkW es bp w := by
        refine List.filter_congr fun x _ => ?_
        by_cases e : x = w
        · subst e
          rw [Bool.and_assoc, Bool.and_assoc, Bool.and_assoc, Bool.and_assoc, ← Bool.and_assoc (lastW es x), g', Bool.and_false, Bool.and_false]
        · rw [sne x e]
      rw [this]
      have hd := h.dl
      by_cases b : bkW es bp w = true
      · rw [if_pos b]; exact hd
      · rw [if_neg b]
        by_cases l : lastW es w = true
        · have b' : bkW es bp w = false := by cases e : bkW es bp w with
            | true => exact absurd e b
            | false => rfl
          rw [l, ha, b'] at g'
          cases g'
        · rw [if_neg l]; exact hd
  · rw [els]
    by_cases b : bkW es bp w = true
    · rw [if_pos b]
      by_cases e : (i, k) = (w.1, w.2.2)
      · rw [e, setF_same]
        injection e with e1 e2
        exact ⟨fun _ => ⟨w, hw, sw, ha, b, e1.symm, e2.symm⟩, fun _ => rfl⟩
      · rw [setF_ne e, h.ls]
        refine ⟨fun ⟨x, h1, h2, h3⟩ => ⟨x, h1, (sT x).mpr (.inl h2), h3⟩, fun ⟨x, h1, h2, h3, h4, h5, h6⟩ => ⟨x, h1, ?_, h3, h4, h5, h6⟩⟩
        rcases (sT x).mp h2 with h2 | h2
        · exact h2
        · exact absurd (by rw [← h5, ← h6, h2]) e
    · rw [if_neg b, h.ls]
      refine ⟨fun ⟨x, h1, h2, h3⟩ => ⟨x, h1, (sT x).mpr (.inl h2), h3⟩, fun ⟨x, h1, h2, h3, h4, h5, h6⟩ => ⟨x, h1, ?_, h3, h4, h5, h6⟩⟩
      rcases (sT x).mp h2 with h2 | h2
      · exact h2
      · rw [h2] at h4; exact absurd h4 b
end My
/-! .. what the steps of a tick keep. No row. -/
namespace My
open PySem PySem.Spec PyProof.Rows L2
/-- what a plan without a fault gives, whatever the clocks err within the bound -/
structure FineW (N : NetD) (es : List EntD) (er : List Int) (c : Nat) : Prop where
  f1 : ∀ w ∈ wins es c, ∀ x ∈ wins es c, w ≠ x → portW es w = portW es x → stW es er w + lnW es w ≤ stW es er x ∨ stW es er x + lnW es x ≤ stW es er w
  f2 : ∀ w ∈ wins es c, 0 < w.2.1 → awW N es er w ≤ stW es er w
  f3 : ∀ w ∈ wins es c, ∀ x ∈ wins es c, w ≠ x → 0 < w.2.1 → 0 < x.2.1 → portW es w = portW es x → ∀ τ, awW N es er w ≤ τ → (τ < stW es er w ∨ (stW es er w = τ ∧ awW N es er w = τ)) → awW N es er x ≤ τ → (τ < stW es er x ∨ (stW es er x = τ ∧ awW N es er x = τ)) → False
  f4 : ∀ w ∈ wins es c, 0 < w.2.1 → stW es er (prW w) < awW N es er w
  l0 : ∀ w ∈ wins es c, 1 ≤ lnW es w
section
variable {N : NetD} {es : List EntD} {er : List Int} {bp : List (Nat × Nat)} {c : Nat} {sn pu : W3 → Bool} {T : Tr} {w : W3} {τ : Int}
theorem JInv.congr {sn' pu' : W3 → Bool} (h : JInv N es er bp c sn pu T) (h1 : ∀ x ∈ wins es c, alW es bp x = true → sn x = sn' x) (h2 : ∀ x ∈ wins es c, sn x = true → sn' x = true) (h3 : ∀ x ∈ wins es c, 0 < x.2.1 → alW es bp x = true → pu x = pu' x) : JInv N es er bp c sn' pu' T := by
  have alp : ∀ x, 0 < x.2.1 → alW es bp x = true → alW es bp (prW x) = true := fun x hx ha => by
    rw [← nxW_prev hx, alW_next] at ha
    exact ((Bool.and_eq_true _ _).mp ha).1
  refine ⟨fun p v hv => ?_, fun p x => ?_, h.qn, fun σ x => ?_, h.cn, ?_, fun i k => ?_⟩
  · obtain ⟨x, a, b, d⟩ := h.fr p v hv
    exact ⟨x, a, h2 x a b, d⟩
  · rw [h.qs]
    exact ⟨fun ⟨a, b, d, e, f, g⟩ => ⟨a, b, d, by rw [← h3 x a b g]; exact e, by rw [← h1 x a g]; exact f, g⟩, fun ⟨a, b, d, e, f, g⟩ => ⟨a, b, d, by rw [h3 x a b g]; exact e, by rw [h1 x a g]; exact f, g⟩⟩
  · rw [h.cm]
    exact ⟨fun ⟨a, b, d, e, g⟩ => ⟨a, b, d, by rw [← h1 _ (wv_prev a) (alp x b g)]; exact e, g⟩, fun ⟨a, b, d, e, g⟩ => ⟨a, b, d, by rw [h1 _ (wv_prev a) (alp x b g)]; exact e, g⟩⟩
  · have : (wins es c).filter (fun w => sn' w && lastW es w && alW es bp w && !bkW es bp w) = (wins es c).filter fun w => sn w && lastW es w && alW es bp w && !bkW es bp w := by
      refine List.filter_congr fun x hx => ?_
      cases e : alW es bp x with
      | false => rw [Bool.and_false, Bool.and_false]
      | true => rw [h1 x hx e]
    rw [this]
    exact h.dl
  · rw [h.ls]
    exact ⟨fun ⟨x, a, b, d, e⟩ => ⟨x, a, by rw [← h1 x a d]; exact b, d, e⟩, fun ⟨x, a, b, d, e⟩ => ⟨x, a, by rw [h1 x a d]; exact b, d, e⟩⟩
theorem JInv.free (F : FineW N es er c) (h : JInv N es er bp c sn pu T) (hw : w ∈ wins es c) (hs : sn w = false) (hle : ∀ x ∈ wins es c, sn x = true → stW es er x ≤ stW es er w) : occ es T w (stW es er w) = false := by
  unfold occ
  refine decide_eq_false ?_
  cases e : T.fr (portW es w) with
  | none => show ¬ stW es er w > stW es er w; omega
  | some v =>
    show ¬ v > stW es er w
    obtain ⟨x, h1, h2, h3, h4⟩ := h.fr _ _ e
    have ne : w ≠ x := fun z => by rw [z, h2] at hs; cases hs
    have := hle x h1 h2
    have := F.l0 w hw
    rcases F.f1 w hw x h1 ne h3.symm with y | y <;> omega
theorem one_of {q : List W3} (h : q.length ≤ 1) (hw : w ∈ q) : q = [w] := by
  cases q with
  | nil => cases hw
  | cons a r =>
    cases r with
    | nil => rw [List.mem_singleton.mp hw]
    | cons b t => simp at h
theorem isFst_iff (h : (T.qs (portW es w)).length ≤ 1) : isFst es T w = true ↔ w ∈ T.qs (portW es w) := by
  unfold isFst
  rw [decide_eq_true_eq]
  constructor
  · intro e
    have : w ∈ (T.qs (portW es w)).take 1 := by rw [e]; exact List.mem_singleton.mpr rfl
    exact List.mem_of_mem_take this
  · intro e
    rw [one_of h e]
    rfl
theorem stw_mono (F : FineW N es er c) : ∀ (d : Nat) (i h k : Nat), (i, h + d + 1, k) ∈ wins es c → stW es er (i, h, k) < stW es er (i, h + d + 1, k)
  | 0, i, h, k, hw => by
    have a := F.f4 _ hw (Nat.succ_pos _)
    have b := F.f2 _ hw (Nat.succ_pos _)
    have a : stW es er (i, h, k) < awW N es er (i, h + 0 + 1, k) := a
    omega
  | d + 1, i, h, k, hw => by
    have hp : (i, h + d + 1, k) ∈ wins es c := wv_prev hw
    have ih := stw_mono F d i h k hp
    have a := F.f4 _ hw (Nat.succ_pos _)
    have b := F.f2 _ hw (Nat.succ_pos _)
    have a : stW es er (i, h + d + 1, k) < awW N es er (i, h + (d + 1) + 1, k) := a
    omega
theorem st_lt (F : FineW N es er c) {i h h' k : Nat} (hh : h < h') (hw : (i, h', k) ∈ wins es c) : stW es er (i, h, k) < stW es er (i, h', k) := by
  obtain ⟨d, rfl⟩ : ∃ d, h' = h + d + 1 := ⟨h' - h - 1, by omega⟩
  exact stw_mono F d i h k hw
theorem wv_le {i h h' k : Nat} (hh : h ≤ h') (hw : (i, h', k) ∈ wins es c) : (i, h, k) ∈ wins es c := by
  obtain ⟨⟨h1, h2⟩, h3⟩ := mem_wins.mp hw
  refine mem_wins.mpr ⟨⟨h1, ?_⟩, h3⟩
  have h2 : h' < (entW es (i, h, k)).os.length := h2
  show h < (entW es (i, h, k)).os.length
  omega
/-- a frame that doesn't come was lost at the first broken line -/
theorem dead_at (i k : Nat) : ∀ h : Nat, alW es bp (i, h, k) = false → ∃ h', h' < h ∧ bkW es bp (i, h', k) = true ∧ alW es bp (i, h', k) = true
  | 0, e => by cases e
  | h + 1, e => by
    have e : alW es bp (nxW (i, h, k)) = false := e
    rw [alW_next] at e
    cases z : alW es bp (i, h, k) with
    | false =>
      obtain ⟨h', a, b⟩ := dead_at i k h z
      exact ⟨h', by omega, b⟩
    | true =>
      rw [z] at e
      refine ⟨h, by omega, ?_, z⟩
      cases y : bkW es bp (i, h, k) with
      | true => rfl
      | false => rw [y] at e; cases e
theorem al_bk {i k h h' : Nat} (ha : alW es bp (i, h, k) = true) (hh : h' < h) : bkW es bp (i, h', k) = false := by
  unfold alW at ha
  have := List.all_eq_true.mp ha h' (List.mem_range.mpr hh)
  cases e : bkW es bp (i, h', k) with
  | false => rfl
  | true =>
    have : (!bkW es bp (i, h', k)) = true := this
    rw [e] at this
    cases this
/-- the windows that open -/
theorem ph1_run (F : FineW N es er c) : ∀ (r : List W3) (sn : W3 → Bool) (T : Tr) (wt : List W3), JInv N es er bp c sn pu T → TrOk es T → r.Nodup → (∀ x ∈ r, x ∈ wins es c ∧ stW es er x = τ ∧ sn x = false) → (∀ x ∈ wins es c, sn x = true → stW es er x ≤ τ) → (∀ x ∈ wins es c, stW es er x < τ → sn x = true) →
    ∃ T1, ph1 N es bp τ r T wt = some (T1, wt ++ r.filter fun x => alW es bp x && decide (0 < x.2.1) && !pu x) ∧ JInv N es er bp c (fun x => sn x || (decide (x ∈ r) && alW es bp x && (decide (x.2.1 = 0) || pu x))) pu T1 ∧ TrOk es T1
  | [], sn, T, wt, h, ok, _, _, _, _ => by
    refine ⟨T, ?_, h.congr (fun x _ _ => ?_) (fun x _ z => ?_) (fun _ _ _ _ => rfl), ok⟩
    · show some (T, wt) = _
      rw [List.filter_nil, List.append_nil]
    · rw [decide_eq_false List.not_mem_nil, Bool.false_and, Bool.false_and, Bool.or_false]
    · rw [z]; rfl
  | w :: r, sn, T, wt, h, ok, hn, hr, hle, hge => by
    obtain ⟨hw, est, hs⟩ := hr w List.mem_cons_self
    rw [List.nodup_cons] at hn
    have hr' : ∀ x ∈ r, x ∈ wins es c ∧ stW es er x = τ ∧ sn x = false := fun x hx => hr x (List.mem_cons_of_mem _ hx)
    have ofr : occ es T w τ = false := by
      rw [← est]
      exact h.free F hw hs fun x hx z => by rw [est]; exact hle x hx z
    have lq := ok.qs (portW es w)
    have step : ph1 N es bp τ (w :: r) T wt = if w.2.1 = 0 ∨ isFst es T w = true then ph1 N es bp τ r (sendT N es bp T w τ) wt else if T.ls (w.1, w.2.2) then ph1 N es bp τ r T wt else ph1 N es bp τ r T (wt ++ [w]) := by
      show (if occ es T w τ then none else _) = _
      rw [ofr]
      rfl
    rw [step]
    have skip : ∀ (b : Bool), (alW es bp w && (decide (w.2.1 = 0) || pu w)) = false → ∀ T1, JInv N es er bp c (fun x => sn x || (decide (x ∈ r) && alW es bp x && (decide (x.2.1 = 0) || pu x))) pu T1 → JInv N es er bp c (fun x => sn x || (decide (x ∈ w :: r) && alW es bp x && (decide (x.2.1 = 0) || pu x))) pu T1 := fun _ z T1 h1 => by
      have : ∀ x, (sn x || (decide (x ∈ r) && alW es bp x && (decide (x.2.1 = 0) || pu x))) = (sn x || (decide (x ∈ w :: r) && alW es bp x && (decide (x.2.1 = 0) || pu x))) := fun x => by
        by_cases e : x = w
        · subst e
          rw [Bool.and_assoc, z, Bool.and_assoc, z, Bool.and_false, Bool.and_false]
        · have : decide (x ∈ w :: r) = decide (x ∈ r) := by rw [decide_eq_decide, List.mem_cons]; exact ⟨fun y => y.resolve_left e, .inr⟩
          rw [this]
      exact h1.congr (fun x _ _ => this x) (fun x _ y => by rw [← this x]; exact y) (fun _ _ _ _ => rfl)
    have sendc : alW es bp w = true → (decide (w.2.1 = 0) || pu w) = true → (0 < w.2.1 → T.qs (portW es w) = [w]) → ∃ T1, ph1 N es bp τ r (sendT N es bp T w τ) wt = some (T1, wt ++ (w :: r).filter fun x => alW es bp x && decide (0 < x.2.1) && !pu x) ∧ JInv N es er bp c (fun x => sn x || (decide (x ∈ w :: r) && alW es bp x && (decide (x.2.1 = 0) || pu x))) pu T1 ∧ TrOk es T1 := fun ha hp hq => by
      have hsend := h.send hw hs ha hq
      rw [est] at hsend
      obtain ⟨T1, e1, e2, e3⟩ := ph1_run F r _ (sendT N es bp T w τ) wt hsend (ok.send (mem_wins.mp hw).1) hn.2 (fun x hx => ⟨(hr' x hx).1, (hr' x hx).2.1, by rw [(hr' x hx).2.2, decide_eq_false (fun z => hn.1 (by rw [← z]; exact hx))]; rfl⟩) (fun x hx z => by
        rcases (Bool.or_eq_true _ _).mp z with z | z
        · exact hle x hx z
        · rw [of_decide_eq_true z, est]; exact Int.le_refl _) (fun x hx z => by rw [hge x hx z]; rfl)
      refine ⟨T1, ?_, e2.congr (fun x _ _ => ?_) (fun x _ y => ?_) (fun _ _ _ _ => rfl), e3⟩
      · rw [e1, List.filter_cons, if_neg]
        intro z
        obtain ⟨z1, z2⟩ := (Bool.and_eq_true _ _).mp z
        obtain ⟨z3, z4⟩ := (Bool.and_eq_true _ _).mp z1
        have z4 := of_decide_eq_true z4
        rw [decide_eq_false (by omega), Bool.false_or] at hp
        rw [hp] at z2
        cases z2
      all_goals
        have this : ∀ x, ((sn x || decide (x = w)) || (decide (x ∈ r) && alW es bp x && (decide (x.2.1 = 0) || pu x))) = (sn x || (decide (x ∈ w :: r) && alW es bp x && (decide (x.2.1 = 0) || pu x))) := fun x => by
          by_cases e : x = w
          · subst e
            rw [decide_eq_true rfl, decide_eq_true (List.mem_cons_self), ha, hp, Bool.or_true, Bool.true_or, Bool.true_and, Bool.true_and, Bool.or_true]
          · have : decide (x ∈ w :: r) = decide (x ∈ r) := by rw [decide_eq_decide, List.mem_cons]; exact ⟨fun y => y.resolve_left e, .inr⟩
            rw [this, decide_eq_false e, Bool.or_false]
      · exact this x
      · rw [← this x]; exact y
    cases ha : alW es bp w with
    | false =>
      obtain ⟨i, hh, k⟩ := w
      obtain ⟨h', d1, d2, d3⟩ := dead_at i k hh ha
      have hpos : 0 < hh := by omega
      have nf : ¬ ((i, hh, k).2.1 = 0 ∨ isFst es T (i, hh, k) = true) := by
        rintro (z | z)
        · have z : hh = 0 := z
          omega
        · have := ((h.qs _ _).mp ((isFst_iff lq).mp z)).2.2.2.2.2
          rw [ha] at this
          cases this
      have hl : T.ls (i, k) = true := (h.ls i k).mpr ⟨(i, h', k), wv_le (Nat.le_of_lt d1) hw, hge _ (wv_le (Nat.le_of_lt d1) hw) (by rw [← est]; exact st_lt F d1 hw), d3, d2, rfl, rfl⟩
      rw [if_neg nf, if_pos hl]
      obtain ⟨T1, e1, e2, e3⟩ := ph1_run F r sn T wt h ok hn.2 hr' hle hge
      refine ⟨T1, ?_, skip true (by rw [ha]; rfl) T1 e2, e3⟩
      rw [e1, List.filter_cons, if_neg (by rw [ha]; exact Bool.false_ne_true)]
    | true =>
      by_cases z0 : w.2.1 = 0
      · rw [if_pos (.inl z0)]
        exact sendc ha (by rw [decide_eq_true z0]; rfl) (fun z => by omega)
      · cases zp : pu w with
        | true =>
          have hm : w ∈ T.qs (portW es w) := (h.qs _ _).mpr ⟨hw, by omega, rfl, zp, hs, ha⟩
          rw [if_pos (.inr ((isFst_iff lq).mpr hm))]
          exact sendc ha (by rw [zp, Bool.or_true]) (fun _ => one_of lq hm)
        | false =>
          have nf : ¬ (w.2.1 = 0 ∨ isFst es T w = true) := by
            rintro (z | z)
            · exact z0 z
            · have := ((h.qs _ _).mp ((isFst_iff lq).mp z)).2.2.2.1
              rw [zp] at this
              cases this
          have hl : ¬ T.ls (w.1, w.2.2) = true := fun z => by
            obtain ⟨x, x1, x2, x3, x4, x5, x6⟩ := (h.ls _ _).mp z
            have xle := hle x x1 x2
            obtain ⟨i, hh, k⟩ := w
            obtain ⟨i', h', k'⟩ := x
            have x5 : i' = i := x5
            have x6 : k' = k := x6
            subst x5 x6
            rcases Nat.lt_trichotomy h' hh with y | y | y
            · rw [al_bk ha y] at x4
              cases x4
            · subst y
              rw [hs] at x2
              cases x2
            · have h9 : stW es er (i', hh, k') < stW es er (i', h', k') := st_lt F y x1
              have h8 : stW es er (i', hh, k') = τ := est
              have h7 : stW es er (i', h', k') ≤ τ := xle
              omega
          rw [if_neg nf, if_neg hl]
          obtain ⟨T1, e1, e2, e3⟩ := ph1_run F r sn T (wt ++ [w]) h ok hn.2 hr' hle hge
          refine ⟨T1, ?_, skip true (by rw [zp, decide_eq_false z0]; cases alW es bp w <;> rfl) T1 e2, e3⟩
          rw [e1, List.filter_cons, if_pos (by rw [ha, zp, decide_eq_true (by omega)]; rfl), List.append_assoc]
          rfl
end
end My
/-! .. a tick, all ticks. No row. -/
namespace My
open PySem PySem.Spec PyProof.Rows L2
section
variable {N : NetD} {es : List EntD} {er : List Int} {bp : List (Nat × Nat)} {c : Nat} {sn : W3 → Bool} {τ : Int}
/-- the frames that reach a queue -/
theorem push_run : ∀ (zs : List W3) (pu : W3 → Bool) (T : Tr), JInv N es er bp c sn pu T → zs.Nodup → (∀ x ∈ zs, x ∈ wins es c ∧ 0 < x.2.1 ∧ pu x = false ∧ sn x = false ∧ alW es bp x = true) → JInv N es er bp c sn (fun x => pu x || decide (x ∈ zs)) (zs.foldl (pushT es) T)
  | [], pu, T, h, _, _ => h.congr (fun _ _ _ => rfl) (fun _ _ z => z) fun x _ _ _ => by rw [decide_eq_false List.not_mem_nil, Bool.or_false]
  | w :: r, pu, T, h, hn, hz => by
    rw [List.nodup_cons] at hn
    obtain ⟨w1, w2, w3, w4, w5⟩ := hz w List.mem_cons_self
    have h1 : JInv N es er bp c sn (fun x => pu x || decide (x = w)) (pushT es T w) := by
      have eq : (pushT es T w).qs = setF T.qs (portW es w) (T.qs (portW es w) ++ [w]) := rfl
      refine ⟨h.fr, fun p x => ?_, fun p => ?_, h.cm, h.cn, h.dl, h.ls⟩
      · rw [eq]
        have key : (x ∈ wins es c ∧ 0 < x.2.1 ∧ portW es x = p ∧ (pu x || decide (x = w)) = true ∧ sn x = false ∧ alW es bp x = true) ↔ x ∈ T.qs p ∨ (x = w ∧ p = portW es w) := by
          rw [h.qs]
          constructor
          · rintro ⟨a, b, d, e, f, g⟩
            rcases (Bool.or_eq_true _ _).mp e with e | e
            · exact .inl ⟨a, b, d, e, f, g⟩
            · have e := of_decide_eq_true e
              exact .inr ⟨e, by rw [← d, e]⟩
          · rintro (⟨a, b, d, e, f, g⟩ | ⟨rfl, rfl⟩)
            · exact ⟨a, b, d, by rw [e]; rfl, f, g⟩
            · exact ⟨w1, w2, rfl, by rw [decide_eq_true rfl, Bool.or_true], w4, w5⟩
        rw [key]
        by_cases e : p = portW es w
        · rw [e, setF_same, List.mem_append, List.mem_singleton]
          exact ⟨fun h => h.imp id fun h => ⟨h, rfl⟩, fun h => h.imp id fun h => h.1⟩
        · rw [setF_ne e]
          exact ⟨.inl, fun h => h.elim id fun h => absurd h.2 e⟩
      · rw [eq]
        by_cases e : p = portW es w
        · rw [e, setF_same, List.nodup_append]
          refine ⟨h.qn _, List.pairwise_singleton _ _, fun x hx y hy z => ?_⟩
          cases List.mem_singleton.mp hy
          subst z
          have := ((h.qs _ _).mp hx).2.2.2.1
          rw [w3] at this
          cases this
        · rw [setF_ne e]; exact h.qn p
    have h2 := push_run r _ (pushT es T w) h1 hn.2 fun x hx => by
      obtain ⟨a, b, d, e, f⟩ := hz x (List.mem_cons_of_mem _ hx)
      exact ⟨a, b, by rw [d, decide_eq_false (fun z => hn.1 (by rw [← z]; exact hx))]; rfl, e, f⟩
    refine h2.congr (fun _ _ _ => rfl) (fun _ _ z => z) fun x _ _ _ => ?_
    rw [Bool.or_assoc]
    congr 1
    rw [← Bool.decide_or, decide_eq_decide, List.mem_cons]
/-- the frames that came just now are sent -/
theorem ph4_run (F : FineW N es er c) {pu : W3 → Bool} : ∀ (r : List W3) (sn : W3 → Bool) (T : Tr), JInv N es er bp c sn pu T → TrOk es T → r.Nodup → (∀ x ∈ r, x ∈ wins es c ∧ stW es er x = τ ∧ sn x = false ∧ 0 < x.2.1 ∧ pu x = true ∧ alW es bp x = true) → (∀ x ∈ wins es c, sn x = true → stW es er x ≤ τ) →
    ∃ T1, ph4 N es bp τ r T = some T1 ∧ JInv N es er bp c (fun x => sn x || decide (x ∈ r)) pu T1 ∧ TrOk es T1
  | [], sn, T, h, ok, _, _, _ => ⟨T, rfl, h.congr (fun x _ _ => by rw [decide_eq_false List.not_mem_nil, Bool.or_false]) (fun x _ z => by rw [z]; rfl) fun _ _ _ _ => rfl, ok⟩
  | w :: r, sn, T, h, ok, hn, hr, hle => by
    rw [List.nodup_cons] at hn
    obtain ⟨w1, w2, w3, w4, w5, w6⟩ := hr w List.mem_cons_self
    have ofr : occ es T w τ = false := by
      rw [← w2]
      exact h.free F w1 w3 fun x hx z => by rw [w2]; exact hle x hx z
    have lq := ok.qs (portW es w)
    have hm : w ∈ T.qs (portW es w) := (h.qs _ _).mpr ⟨w1, w4, rfl, w5, w3, w6⟩
    have hf := (isFst_iff lq).mpr hm
    have step : ph4 N es bp τ (w :: r) T = ph4 N es bp τ r (sendT N es bp T w τ) := by
      show (if occ es T w τ || !isFst es T w then none else _) = _
      rw [ofr, hf]
      rfl
    have hsend := h.send w1 w3 w6 (fun _ => one_of lq hm)
    rw [w2] at hsend
    obtain ⟨T1, e1, e2, e3⟩ := ph4_run F r _ (sendT N es bp T w τ) hsend (ok.send (mem_wins.mp w1).1) hn.2 (fun x hx => by
      obtain ⟨a, b, d, e⟩ := hr x (List.mem_cons_of_mem _ hx)
      exact ⟨a, b, by rw [d, decide_eq_false (fun z => hn.1 (by rw [← z]; exact hx))]; rfl, e⟩) (fun x hx z => by
        rcases (Bool.or_eq_true _ _).mp z with z | z
        · exact hle x hx z
        · rw [of_decide_eq_true z, w2]; exact Int.le_refl _)
    have this : ∀ x, ((sn x || decide (x = w)) || decide (x ∈ r)) = (sn x || decide (x ∈ w :: r)) := fun x => by
      rw [Bool.or_assoc]
      congr 1
      rw [← Bool.decide_or, decide_eq_decide, List.mem_cons]
    exact ⟨T1, by rw [step]; exact e1, e2.congr (fun x _ _ => this x) (fun x _ y => by rw [← this x]; exact y) fun _ _ _ _ => rfl, e3⟩
theorem len_le1 {q : List W3} (hn : q.Nodup) (h : ∀ x ∈ q, ∀ y ∈ q, x = y) : q.length ≤ 1 := by
  cases q with
  | nil => exact Nat.zero_le _
  | cons a r =>
    cases r with
    | nil => exact Nat.le_refl _
    | cons b t =>
      rw [List.nodup_cons] at hn
      have := h a List.mem_cons_self b (List.mem_cons_of_mem _ List.mem_cons_self)
      exact absurd (by rw [this]; exact List.mem_cons_self) hn.1
/-- a tick -/
theorem tick_run (F : FineW N es er c) {T : Tr} (h : JInv N es er bp c (fun x => decide (stW es er x < τ)) (fun x => decide (awW N es er x < τ)) T) (ok : TrOk es T) :
    ¬ Broke N es bp T τ (opsT es er c τ) ∧ ∀ T', Pass N es bp T τ (opsT es er c τ) T' → JInv N es er bp c (fun x => decide (stW es er x < τ + 1)) (fun x => decide (awW N es er x < τ + 1)) T' := by
  have on : (opsT es er c τ).Nodup := (wins_nodup es c).filter _
  have om : ∀ x, x ∈ opsT es er c τ ↔ x ∈ wins es c ∧ stW es er x = τ := fun x => by
    unfold opsT
    rw [List.mem_filter, decide_eq_true_eq]
  obtain ⟨T1, e1, j1, k1⟩ := ph1_run F (opsT es er c τ) _ T [] h ok on (fun x hx => ⟨((om x).mp hx).1, ((om x).mp hx).2, decide_eq_false (by have := ((om x).mp hx).2; omega)⟩) (fun x _ z => by have := of_decide_eq_true z; omega) (fun x _ z => decide_eq_true z)
  rw [List.nil_append] at e1
  -- what waits
  have wm : ∀ x, x ∈ ((opsT es er c τ).filter fun x => alW es bp x && decide (0 < x.2.1) && !decide (awW N es er x < τ)) ↔ x ∈ wins es c ∧ stW es er x = τ ∧ alW es bp x = true ∧ 0 < x.2.1 ∧ awW N es er x = τ := fun x => by
    rw [List.mem_filter, om, Bool.and_eq_true, Bool.and_eq_true, decide_eq_true_eq, Bool.not_eq_true', decide_eq_false_iff_not]
    constructor
    · rintro ⟨⟨a, b⟩, ⟨d, e⟩, f⟩
      have := F.f2 x a e
      exact ⟨a, b, d, e, by omega⟩
    · rintro ⟨a, b, d, e, f⟩
      exact ⟨⟨a, b⟩, ⟨d, e⟩, by omega⟩
  have wn : ((opsT es er c τ).filter fun x => alW es bp x && decide (0 < x.2.1) && !decide (awW N es er x < τ)).Nodup := on.filter _
  generalize ((opsT es er c τ).filter fun x => alW es bp x && decide (0 < x.2.1) && !decide (awW N es er x < τ)) = wt at e1 wm wn
  -- what has been sent
  have s1 : ∀ x ∈ wins es c, alW es bp x = true → ((decide (stW es er x < τ) || (decide (x ∈ opsT es er c τ) && alW es bp x && (decide (x.2.1 = 0) || decide (awW N es er x < τ)))) = true ↔ stW es er x < τ ∨ (stW es er x = τ ∧ (x.2.1 = 0 ∨ awW N es er x < τ))) := fun x hx ha => by
    rw [Bool.or_eq_true, Bool.and_eq_true, Bool.and_eq_true, Bool.or_eq_true, decide_eq_true_eq, decide_eq_true_eq, decide_eq_true_eq, decide_eq_true_eq, om]
    exact ⟨fun z => z.imp id fun ⟨⟨a, _⟩, b⟩ => ⟨a.2, b⟩, fun z => z.imp id fun ⟨a, b⟩ => ⟨⟨⟨hx, a⟩, ha⟩, b⟩⟩
  have s1' : ∀ x ∈ wins es c, (decide (stW es er x < τ) || (decide (x ∈ opsT es er c τ) && alW es bp x && (decide (x.2.1 = 0) || decide (awW N es er x < τ)))) = true → stW es er x ≤ τ := fun x hx z => by
    rcases (Bool.or_eq_true _ _).mp z with z | z
    · have := of_decide_eq_true z; omega
    · have := of_decide_eq_true ((Bool.and_eq_true _ _).mp ((Bool.and_eq_true _ _).mp z).1).1
      have := ((om x).mp this).2
      omega
  obtain ⟨sn1, s1, s1', j1⟩ : ∃ sn1 : W3 → Bool, (∀ x ∈ wins es c, alW es bp x = true → (sn1 x = true ↔ stW es er x < τ ∨ (stW es er x = τ ∧ (x.2.1 = 0 ∨ awW N es er x < τ)))) ∧ (∀ x ∈ wins es c, sn1 x = true → stW es er x ≤ τ) ∧ JInv N es er bp c sn1 (fun x => decide (awW N es er x < τ)) T1 := ⟨_, s1, s1', j1⟩
  have no1 : ∀ x ∈ wins es c, alW es bp x = true → ¬ (stW es er x < τ ∨ (stW es er x = τ ∧ (x.2.1 = 0 ∨ awW N es er x < τ))) → sn1 x = false := fun x hx ha n => by
    cases e : sn1 x with
    | false => rfl
    | true => exact absurd ((s1 x hx ha).mp e) n
  have alp : ∀ x, 0 < x.2.1 → alW es bp x = true → alW es bp (prW x) = true := fun x hx ha => by
    rw [← nxW_prev hx, alW_next] at ha
    exact ((Bool.and_eq_true _ _).mp ha).1
  -- behind the pushes
  have mid : ∀ zs : List W3, zs.Perm (T1.cm τ) → JInv N es er bp c sn1 (fun x => decide (awW N es er x < τ + 1)) (zs.foldl (pushT es) T1) ∧ TrOk es (zs.foldl (pushT es) T1) := fun zs hz => by
    have zm : ∀ x, x ∈ zs ↔ x ∈ wins es c ∧ 0 < x.2.1 ∧ awW N es er x = τ ∧ sn1 (prW x) = true ∧ alW es bp x = true := fun x => by rw [hz.mem_iff, j1.cm]
    have j2 := push_run zs _ T1 j1 (hz.nodup_iff.mpr (j1.cn τ)) fun x hx => by
      obtain ⟨a, b, d, e, f⟩ := (zm x).mp hx
      refine ⟨a, b, decide_eq_false (by omega), no1 x a f ?_, f⟩
      have := F.f2 x a b
      omega
    have j3 : JInv N es er bp c sn1 (fun x => decide (awW N es er x < τ + 1)) (zs.foldl (pushT es) T1) := j2.congr (fun _ _ _ => rfl) (fun _ _ z => z) fun x hx hp ha => by
      rw [← Bool.decide_or, decide_eq_decide, zm]
      constructor
      · rintro (y | ⟨_, _, y, _⟩) <;> omega
      · intro y
        by_cases z : awW N es er x < τ
        · exact .inl z
        · refine .inr ⟨hx, hp, by omega, (s1 _ (wv_prev hx) (alp x hp ha)).mpr (.inl ?_), ha⟩
          have := F.f4 x hx hp
          omega
    refine ⟨j3, ⟨by rw [push_cm]; exact k1.cm, fun p => len_le1 (j3.qn p) fun x hx y hy => ?_⟩⟩
    obtain ⟨a1, a2, a3, a4, a5, a6⟩ := (j3.qs p x).mp hx
    obtain ⟨b1, b2, b3, b4, b5, b6⟩ := (j3.qs p y).mp hy
    have a4 := of_decide_eq_true a4
    have b4 := of_decide_eq_true b4
    refine Classical.byContradiction fun ne => F.f3 x a1 y b1 ne a2 b2 (a3.trans b3.symm) τ (by omega) ?_ (by omega) ?_
    · have n : ¬ (stW es er x < τ ∨ (stW es er x = τ ∧ (x.2.1 = 0 ∨ awW N es er x < τ))) := fun z => by rw [(s1 x a1 a6).mpr z] at a5; cases a5
      omega
    · have n : ¬ (stW es er y < τ ∨ (stW es er y = τ ∧ (y.2.1 = 0 ∨ awW N es er y < τ))) := fun z => by rw [(s1 y b1 b6).mpr z] at b5; cases b5
      omega
  have fin : ∀ zs : List W3, zs.Perm (T1.cm τ) → ∃ T3, ph4 N es bp τ wt (zs.foldl (pushT es) T1) = some T3 ∧ JInv N es er bp c (fun x => decide (stW es er x < τ + 1)) (fun x => decide (awW N es er x < τ + 1)) T3 := fun zs hz => by
    obtain ⟨j3, k3⟩ := mid zs hz
    obtain ⟨T3, e3, j4, _⟩ := ph4_run F wt sn1 _ j3 k3 wn (fun x hx => by
      obtain ⟨a, b, d, e, f⟩ := (wm x).mp hx
      exact ⟨a, b, no1 x a d (by omega), e, decide_eq_true (by omega), d⟩) s1'
    refine ⟨T3, e3, j4.congr (fun x hx ha => ?_) (fun x hx z => ?_) fun _ _ _ _ => rfl⟩
    · rw [Bool.eq_iff_iff, Bool.or_eq_true, s1 x hx ha, decide_eq_true_eq, decide_eq_true_eq, wm]
      constructor
      · rintro ((y | ⟨y, _⟩) | ⟨_, y, _⟩) <;> omega
      · intro y
        by_cases z : stW es er x < τ
        · exact .inl (.inl z)
        · by_cases z0 : x.2.1 = 0
          · exact .inl (.inr ⟨by omega, .inl z0⟩)
          · have := F.f2 x hx (by omega)
            by_cases z1 : awW N es er x < τ
            · exact .inl (.inr ⟨by omega, .inr z1⟩)
            · exact .inr ⟨hx, by omega, ha, by omega, by omega⟩
    · rcases (Bool.or_eq_true _ _).mp z with z | z
      · have := s1' x hx z
        exact decide_eq_true (by omega)
      · have := ((wm x).mp (of_decide_eq_true z)).2.1
        exact decide_eq_true (by omega)
  constructor
  · rintro (z | ⟨T1', wt', zs, z1, z2, z3⟩)
    · rw [e1] at z; cases z
    · rw [e1] at z1
      cases z1
      rcases z3 with ⟨p, z3⟩ | z3
      · have := (mid zs z2).2.qs p
        omega
      · obtain ⟨T3, z4, _⟩ := fin zs z2
        rw [z4] at z3
        cases z3
  · rintro T' ⟨T1', wt', zs, z1, z2, z3, z4⟩
    rw [e1] at z1
    cases z1
    obtain ⟨T3, z5, z6⟩ := fin zs z2
    rw [z5] at z4
    cases z4
    exact z6
theorem start_run (F : FineW N es er c) {lo : Int} (hlo : ∀ w ∈ wins es c, lo ≤ stW es er w) : JInv N es er bp c (fun x => decide (stW es er x < lo)) (fun x => decide (awW N es er x < lo)) tr0 := by
  have no : ∀ w ∈ wins es c, decide (stW es er w < lo) = false := fun w hw => decide_eq_false (by have := hlo w hw; omega)
  refine ⟨fun p v h => absurd h (by intro z; cases z), fun p x => ⟨fun h => absurd h List.not_mem_nil, fun ⟨a, b, d, e, _⟩ => ?_⟩, fun _ => .nil, fun σ x => ⟨fun h => absurd h List.not_mem_nil, fun ⟨a, b, d, e, _⟩ => ?_⟩, fun _ => .nil, ?_, fun i k => ⟨fun h => absurd h (by intro z; cases z), fun ⟨x, a, b, _⟩ => ?_⟩⟩
  · have := of_decide_eq_true e
    have := F.f4 x a b
    have := hlo _ (wv_prev a)
    omega
  · have e : decide (stW es er (prW x) < lo) = true := e
    rw [no _ (wv_prev a)] at e
    cases e
  · have : (wins es c).filter (fun w => decide (stW es er w < lo) && lastW es w && alW es bp w && !bkW es bp w) = [] := List.filter_eq_nil_iff.mpr fun w hw => by
      rw [no w hw]
      exact Bool.false_ne_true
    rw [this]
    exact .nil
  · have b : decide (stW es er x < lo) = true := b
    rw [no x a] at b
    cases b
/-- all ticks: no break, and what is delivered -/
theorem reach_run (F : FineW N es er c) {lo : Int} (hlo : ∀ w ∈ wins es c, lo ≤ stW es er w) {i : Nat} {T : Tr} (h : Reach N es bp er c lo i T) : JInv N es er bp c (fun x => decide (stW es er x < lo + i)) (fun x => decide (awW N es er x < lo + i)) T ∧ TrOk es T := by
  induction h with
  | zero => exact ⟨by rw [show lo + ((0 : Nat) : Int) = lo by omega]; exact start_run F hlo, tr0_ok⟩
  | @step i T T' hr hp ih =>
    refine ⟨?_, hp.ok ih.2 fun w hw => (mem_wins.mp (List.mem_filter.mp hw).1).1⟩
    rw [show lo + ((i + 1 : Nat) : Int) = lo + i + 1 by omega]
    exact (tick_run F ih.1 ih.2).2 T' hp
theorem no_break (F : FineW N es er c) {lo : Int} (hlo : ∀ w ∈ wins es c, lo ≤ stW es er w) {i : Nat} {T : Tr} (h : Reach N es bp er c lo i T) : ¬ Broke N es bp T (lo + i) (opsT es er c (lo + i)) := (tick_run F (reach_run F hlo h).1 (reach_run F hlo h).2).1
theorem all_come (F : FineW N es er c) {lo : Int} {n : Nat} (hlo : ∀ w ∈ wins es c, lo ≤ stW es er w ∧ stW es er w < lo + n) {T : Tr} (h : Reach N es bp er c lo n T) : T.dl.Perm (((wins es c).filter fun w => lastW es w && alW es bp w && !bkW es bp w).map (dlW N es er)) := by
  have := (reach_run F (fun w hw => (hlo w hw).1) h).1.dl
  have e : (wins es c).filter (fun w => decide (stW es er w < lo + n) && lastW es w && alW es bp w && !bkW es bp w) = (wins es c).filter fun w => lastW es w && alW es bp w && !bkW es bp w := List.filter_congr fun w hw => by rw [decide_eq_true (hlo w hw).2, Bool.true_and]
  rw [e] at this
  exact this
end
end My
/-! The bounds of an entry. No row. -/
namespace My
open PySem PySem.Spec PyProof.Rows L2
theorem joined_bd {N : NetD} (wf : NetWf N) (a b : Nat) : 0 ≤ (joined N a b).getD 0 ∧ (joined N a b).getD 0 ≤ 4 := by
  unfold joined
  cases e : N.ls.find? (hits a b) with
  | none => exact ⟨by decide, by decide⟩
  | some l => exact wf.ls.dl l (List.mem_of_find?_eq_some e)
theorem travel_bd {N : NetD} (wf : NetWf N) (s : StrD) (h : Nat) : s.ln ≤ travel N s h ∧ travel N s h ≤ s.ln + 6 := by
  have h1 := joined_bd wf (s.path.getD h 0) (s.path.getD (h + 1) 0)
  have h2 := wf.p0
  have h3 := wf.p1
  unfold travel
  split <;> omega
theorem os_bd {N : NetD} {R : List (List Nat)} {e : EntD} (wf : NetWf N) (h : EntWf N R e) : ∀ k, k < e.os.length → e.os.getD k 0 ≤ 12 + 16 * k
  | 0, _ => by
    have := h.os.fst
    have := h.p1
    omega
  | k + 1, hk => by
    have h1 := os_bd wf h k (by omega)
    have h2 := h.os.hi k hk
    have h3 := (travel_bd wf e.s k).2
    have := h.l1
    have := wf.e1
    rw [Int.max_def] at h2
    split at h2 <;> omega
theorem fm_lenM {α β : Type} {f : α → List β} {m : Nat} : ∀ {l : List α}, (∀ x ∈ l, (f x).length ≤ m) → (l.flatMap f).length ≤ l.length * m
  | [], _ => Nat.zero_le _
  | a :: l, h => by
    have h1 := h a List.mem_cons_self
    have h2 := fm_lenM fun x hx => h x (List.mem_cons_of_mem _ hx)
    rw [List.flatMap_cons, List.length_append, List.length_cons, Nat.succ_mul]
    omega
theorem wins_len {es : List EntD} {m c : Nat} (h : ∀ e ∈ es, e.os.length ≤ m) : (wins es c).length ≤ es.length * (m * c) := by
  unfold wins winE
  have h1 := fm_lenM (f := fun i => winH c i (es.getD i nilE).os.length) (m := m * c) (l := List.range es.length) fun i hi => by
    have il := List.mem_range.mp hi
    have ho := h (es.getD i nilE) (by rw [List.getD_eq_getElem?_getD, List.getElem?_eq_getElem il]; exact List.getElem_mem _)
    unfold winH
    have h2 := fm_lenM (f := fun h => winF i h c) (m := c) (l := List.range (es.getD i nilE).os.length) fun x _ => by
      unfold winF
      rw [List.length_map, List.length_range]
      exact Nat.le_refl _
    rw [List.length_range] at h2
    exact Nat.le_trans h2 (Nat.mul_le_mul_right c ho)
  rw [List.length_range] at h1
  exact h1
theorem er_bd {E : Int} {er : List Int} (h0 : 0 ≤ E) (h : ∀ x ∈ er, -E ≤ x ∧ x ≤ E) (n : Nat) : -E ≤ er.getD n 0 ∧ er.getD n 0 ≤ E := by
  by_cases z : n < er.length
  · rw [List.getD_eq_getElem?_getD, List.getElem?_eq_getElem z]
    exact h _ (List.getElem_mem _)
  · rw [List.getD_eq_getElem?_getD, List.getElem?_eq_none (by omega)]
    show -E ≤ 0 ∧ 0 ≤ E
    omega
theorem cut_mid {ns : List Int} {i j : Nat} (hij : i ≤ j) : ∃ cs : List Int, cutV (ns.map V.int) (some (i : Int)) (some (j : Int)) = cs.map V.int ∧ cs.length ≤ j - i := by
  unfold cutV
  rw [HT.sIx_nat, HT.sIx_nat, ← List.map_drop, ← List.map_take]
  refine ⟨_, rfl, ?_⟩
  rw [List.length_take, List.length_drop, List.length_map]
  have h1 : min j ns.length - min i ns.length ≤ j - i := by omega
  exact Nat.le_trans (Nat.min_le_left _ _) h1
end My
namespace My
open PySem PySem.Spec PyProof.Rows L2
abbrev sMeet : Stmt := top 11 /-meet-/
section
variable {P : Program} {w : World} {K : PySem.W.Frag} {mg : Str → Option Value} {base : Heap}
/-! ### meet -/
theorem scMeet : FnScope ["first", "second", "first_offset", "first_length", "first_period", "second_offset", "second_length", "second_period", "shared", "behind_first", "behind_second"] ["first", "second"] (defScope sMeet) := ⟨rfl, rfl, rfl, by decide +kernel, rfl, by decide +kernel, by decide +kernel⟩
def spMeet (K : PySem.W.Frag) : Sp := fun vs H Q _ => ∃ (t u : Addr) (w v : Win), vs = [.ref t, .ref u] ∧ SqT K H t (winV w) ∧ SqT K H u (winV v) ∧ WP w ∧ WP v ∧ Q (.bl (meetB w v)) H
theorem ok_meet {f : Addr} {fd : FuncData} {k : Nat} (F : Fun K "meet" "meet" sMeet f fd) (hgcd : mg "gcd" = some (.builtin "math.gcd")) : FnOk P w K mg base CX0 (k + 1) f fd ["first", "second"] (spMeet K) := by
  refine F.ok scMeet (fun vs H Q E h => ?_) (fun cdv A0 outer s0 H vs Q E hr h => ?_)
  · obtain ⟨t, u, w, v, rfl, _⟩ := h
    rfl
  · obtain ⟨t, u, w, v, rfl, ht, hu, hw, hv, q⟩ := h
    have nd := scMeet.nd
    have g0 := gcd_pos (v := v) hw.p
    refine ⟨_, pss_cons (ps_asg (pv 0) (pg_tup rfl (pgs_cons (pg_name (i := 2) nd rfl (.inl rfl)) (pgs_cons (pg_name (i := 3) nd rfl (.inl rfl)) (pgs_cons (pg_name (i := 4) nd rfl (.inl rfl)) pgs_nil))))) <| pss_cons (ps_asg (pv 1) (pg_tup rfl (pgs_cons (pg_name (i := 5) nd rfl (.inl rfl)) (pgs_cons (pg_name (i := 6) nd rfl (.inl rfl)) (pgs_cons (pg_name (i := 7) nd rfl (.inl rfl)) pgs_nil))))) <| pss_cons (ps_if (PW.pt (pw_or (pt_cmpR op_eq (pv 3) pe_int (nomark _)) (pw_or1 (pt_cmpR op_eq (pv 6) pe_int (nomark _))))) (pss_one (ps_ret pe_bl)) (pss_nil)) <| pss_cons (ps_set (i := 8) nd rfl (.inl rfl) (pe_callBfun cr_gcd (by rfl) hgcd (pa_cons (pv 4) (pa_cons (pv 7) pa_nil)))) <| pss_cons (ps_set (i := 9) nd rfl (.inl rfl) (pe_op op_mod (pe_op op_sub (pv 5) (pv 2)) (pv 8))) <| pss_cons (ps_set (i := 10) nd rfl (.inl rfl) (pe_op op_mod (pe_op op_sub (pv 2) (pv 5)) (pv 8))) <| pss_one (ps_ret (pe_or (pe_cmpR op_lt (pv 9) (pv 3) (nomark _)) (pe_one (pe_cmpR op_lt (pv 10) (pv 6) (nomark _))))), ?_⟩
    refine ⟨_, rfl, t, _, rfl, ht, rfl, _, _, rfl, _, _, rfl, _, _, rfl, rfl, ?_⟩
    refine ⟨_, rfl, u, _, rfl, hu, rfl, _, _, rfl, _, _, rfl, _, _, rfl, rfl, ?_⟩
    dsimp only [gName, gTup, gCons, gNil, tSeq, tIfS]
    refine or_read (a := decide (w.2.1 = 0)) (b := decide (v.2.1 = 0)) (fun Q h => ?_) (fun Q h => ?_) ?_
    · refine ⟨_, rfl, rfl, _, rfl, ?_⟩
      rw [dec_int]
      exact h
    · refine ⟨_, rfl, rfl, _, rfl, ?_⟩
      rw [dec_int]
      exact h
    refine ite2 (fun e => ?_) (fun e => ?_)
    · have : meetB w v = false := by unfold meetB; rw [e]; rfl
      rw [this] at q
      exact q
    · refine ⟨_, rfl, _, rfl, _, _, rfl, ?_⟩
      refine ⟨_, rfl, _, rfl, _, _, rfl, rfl, _, rfl, _, _, rfl, rfl, g0, ?_⟩
      refine ⟨_, rfl, _, rfl, _, _, rfl, rfl, _, rfl, _, _, rfl, rfl, g0, ?_⟩
      have eq : meetB w v = (decide ((v.1 - w.1) % gcdW w v < w.2.1) || decide ((w.1 - v.1) % gcdW w v < v.2.1)) := by
        unfold meetB
        rw [Bool.eq_false_iff.mpr e]
        rfl
      rw [eq] at q
      dsimp only [gName, tRet]
      refine orv (a := decide ((v.1 - w.1) % gcdW w v < w.2.1)) (b := decide ((w.1 - v.1) % gcdW w v < v.2.1)) (fun Q h => ?_) (fun _ Q h => ?_) q
      · exact ⟨_, rfl, _, rfl, _, _, rfl, rfl, h⟩
      · exact ⟨_, rfl, _, rfl, _, _, rfl, rfl, h⟩
end
end My
namespace My
open PySem PySem.Spec PyProof.Rows L2
abbrev sWait : Stmt := top 13 /-wait_of-/
abbrev sTooLong : Stmt := top 14 /-waits_too_long-/
theorem any_port (p : Nat × Nat) (ps : List (Nat × Nat)) : ((ps.map dPort).any fun z => PyData.eqv z (dPort p)) = ps.contains p := by
  rw [List.any_map, List.contains_eq_any_beq]
  congr 1
  funext q
  show PyData.eqv (dPort q) (dPort p) = (p == q)
  rw [eqv_port, Bool.eq_iff_iff, decide_eq_true_eq, beq_iff_eq]
  exact eq_comm
section
variable {P : Program} {w : World} {K : PySem.W.Frag} {mg : Str → Option Value} {base : Heap}
theorem scTooLong : FnScope ["wait", "_", "length", "period"] ["wait"] (defScope sTooLong) := ⟨rfl, rfl, rfl, by decide +kernel, rfl, by decide +kernel, by decide +kernel⟩
def spTooLong (K : PySem.W.Frag) : Sp := fun vs H Q _ => ∃ (t : Addr) (w : Win), vs = [.ref t] ∧ SqT K H t (winV w) ∧ Q (.bl (decide (w.2.1 > w.2.2))) H
theorem ok_toolong {f : Addr} {fd : FuncData} {k : Nat} (F : Fun K "waits_too_long" "waits_too_long" sTooLong f fd) : FnOk P w K mg base CX0 (k + 1) f fd ["wait"] (spTooLong K) := by
  refine F.ok scTooLong (fun vs H Q E h => ?_) (fun cdv A0 outer s0 H vs Q E hr h => ?_)
  · obtain ⟨t, w, rfl, _⟩ := h
    rfl
  · obtain ⟨t, w, rfl, ht, q⟩ := h
    have nd := scTooLong.nd
    refine ⟨_, pss_cons (ps_asg (pv 0) (pg_tup rfl (pgs_cons (pg_name (i := 1) nd rfl (.inl rfl)) (pgs_cons (pg_name (i := 2) nd rfl (.inl rfl)) (pgs_cons (pg_name (i := 3) nd rfl (.inl rfl)) pgs_nil))))) <| pss_one (ps_ret (pe_cmpR op_gt (pv 2) (pv 3) (nomark _))), ?_⟩
    refine ⟨_, rfl, t, _, rfl, ht, rfl, _, _, rfl, _, _, rfl, _, _, rfl, rfl, ?_⟩
    exact ⟨_, rfl, _, rfl, _, _, rfl, rfl, q⟩
/-! ### wait_of -/
theorem scWait : FnScope ["net", "entry", "hop", "arrival", "offset", "_", "period"] ["net", "entry", "hop"] (defScope sWait) := ⟨rfl, rfl, rfl, by decide +kernel, rfl, by decide +kernel, by decide +kernel⟩
def spWait (K : PySem.W.Frag) (C C2 : Addr) : Sp := fun vs H Q _ => ∃ (p t : Addr) (N : NetD) (e : EntD) (h : Nat), vs = [.ref p, .ref t, .int (h : Int)] ∧ NetAt K C H p N ∧ Dist N.ls ∧ EntAt K C2 H t e ∧ EOk N e ∧ 1 ≤ h ∧ h < e.os.length ∧ ∀ H' u, Same H H' → H u = none → H' u = some (.tup (winV (wtOf N e h))) → Q (.ref u) H'
theorem ok_wait {f C C2 fA fW : Addr} {fd fdA fdW : FuncData} {k : Nat} (F : Fun K "wait_of" "wait_of" sWait f fd) (hmax : mg "max" = none) (c : NetC K C) (GA : Callee P w K mg base 3 "arrival_of" ["net", "entry", "hop"] (spArr K C C2) fA fdA) (GW : Callee P w K mg base 1 "window_of" ["entry", "hop"] (spWinOf K C2) fW fdW) : FnOk P w K mg base CX0 (k + 4) f fd ["net", "entry", "hop"] (spWait K C C2) := by
  refine F.ok scWait (fun vs H Q E h => ?_) (fun cdv A0 outer s0 H vs Q E hr h => ?_)
  · obtain ⟨p, t, N, e, h, rfl, _⟩ := h
    rfl
  · obtain ⟨p, t, N, e, h, rfl, hN, hD, hE, he, h1, hh, q⟩ := h
    have nd := scWait.nd
    have hr1 : Room 1 _ := hr.mono (by omega)
    have hr3 : Room 3 _ := hr.mono (by omega)
    have hl := he.len
    obtain ⟨dx, lk, ll, ld, ts, e1, _⟩ := id hN
    refine ⟨_, pss_cons (ps_set (i := 3) nd rfl (.inl rfl) (pe_call GA.ok hr3 (by rfl) GA.mg GA.kp GA.b .nil pass0 (pa_cons (pv 0) (pa_cons (pv 1) (pa_cons (pe_op op_sub (pv 2) pe_int) pa_nil))))) <| pss_cons (ps_asg (pe_call GW.ok hr1 (by rfl) GW.mg GW.kp GW.b .nil pass0 (pa_cons (pv 1) (pa_cons (pv 2) pa_nil))) (pg_tup rfl (pgs_cons (pg_name (i := 4) nd rfl (.inl rfl)) (pgs_cons (pg_name (i := 5) nd rfl (.inl rfl)) (pgs_cons (pg_name (i := 6) nd rfl (.inl rfl)) pgs_nil))))) <| pss_one (ps_ret (pe_tup (pa_cons (pe_op op_sub (pv 3) (pe_op op_mul pe_int (pe_fld (pv 0) rfl))) (pa_cons (pe_callB (call_max2 rfl) (by rfl) hmax (by decide +kernel) (pa_cons pe_int (pa_cons (pe_op op_add (pe_op op_sub (pv 4) (pv 3)) (pe_op op_mul pe_int (pe_fld (pv 0) rfl))) pa_nil))) (pa_cons (pv 6) pa_nil))))), ?_⟩
    refine ⟨_, rfl, _, rfl, _, rfl, _, _, rfl, rfl, p, t, N, e, h - 1, congrArg (fun z => [V.ref p, V.ref t, V.int z]) (by omega : ((h : Int) - 1) = ((h - 1 : Nat) : Int)), hN, hD, hE, he.po, by omega, by omega, fun H1 s1 => ?_⟩
    refine ⟨_, rfl, _, rfl, t, e, h, rfl, hE.same s1, hh, fun H2 u s2 nu hu => ?_⟩
    refine ⟨u, _, rfl, SqT.of hu, rfl, _, _, rfl, _, _, rfl, _, _, rfl, rfl, ?_⟩
    have S2 := s1.trans s2
    refine ⟨_, rfl, _, rfl, p, C, dx, _, _, rfl, S2 _ _ e1, c.cl, c.n4, g4, _, _, rfl, rfl, .inl ⟨by decide, by decide⟩, _, _, rfl, rfl, ?_⟩
    refine ⟨_, rfl, _, rfl, _, _, rfl, rfl, _, rfl, p, C, dx, _, _, rfl, S2 _ _ e1, c.cl, c.n4, g4, _, _, rfl, rfl, .inl ⟨by decide, by decide⟩, _, _, rfl, rfl, _, _, rfl, _, rfl, by show 3 ≤ sizeLine; decide, fun y ny => ?_⟩
    exact q _ y (S2.trans (same_new ny)) (S2.free ny) upd_same
theorem getD_lt' {es : List EntD} {i : Nat} (h : i < es.length) : es[i]? = some (es.getD i nilE) := by
  rw [List.getD_eq_getElem?_getD, List.getElem?_eq_getElem h]; rfl
end
end My
namespace My
open PySem PySem.Spec PyProof.Rows L2
section
variable {P : Program} {w : World} {K : PySem.W.Frag} {mg : Str → Option Value} {base : Heap}
theorem at_ent {K : PySem.W.Frag} {C : Addr} {H : Hp} {ts : List Addr} {es : List EntD} (hE : EntsAt K C H ts es) {i : Nat} (hi : i < es.length) : ∃ t, EntAt K C H t (es.getD i nilE) ∧ atI (ts.map V.ref) (i : Int) = some (.ref t) := by
  have lt : ts.length = es.length := hE.length
  have et : ts[i]? = some ts[i] := List.getElem?_eq_getElem (by omega)
  obtain ⟨e', ee', hT⟩ := Paired.at hE et
  rw [getD_lt' hi] at ee'
  cases Option.some.inj ee'
  exact ⟨_, hT, atI_nat (by rw [List.getElem?_map, et]; rfl)⟩
end
end My
/-! != of two lists of entries with the same streams and equal offsets. No row. -/
namespace My
open PySem PySem.Spec PyProof.Rows L2
section
variable {X : Cx} {pins : List (Addr × Obj)} {σ : L2.St} {H : Hp} {s : Shared} {A : Around}
theorem vals_at {xs : List V} {its : List Value} (r : Vals xs its) {j : Nat} (h : j < its.toArray.size) : ∃ x, xs[j]? = some x ∧ RelV x its.toArray[j] := by
  have h' : j < its.length := by simpa using h
  have k : j < xs.length := by rw [r.length]; exact h'
  obtain ⟨u, hu, ru⟩ := r.get (List.getElem?_eq_getElem k)
  rw [List.getElem?_eq_getElem h'] at hu
  have := Option.some.inj hu
  refine ⟨xs[j], List.getElem?_eq_getElem k, ?_⟩
  simpa [this] using ru
theorem eq_ints (I : Inv X pins σ H s) {l m : Addr} {os : List Int} (hl : SqL X.K H l (os.map V.int)) (hm : SqL X.K H m (os.map V.int)) (hu : A.units < cLine) : SeqAt.EqAt A s (.ref l) (.ref m) true := by
  by_cases e : l = m
  · subst e
    exact SeqAt.EqAt.same _
  · obtain ⟨its, r, p, _⟩ := I.list hl
    obtain ⟨its2, r2, p2, _⟩ := I.list hm
    have hsz : its.toArray.size = its2.toArray.size := by rw [List.size_toArray, List.size_toArray, ← r.length, ← r2.length]
    have h := SeqAt.RcAt.lists (A := A) (e := fun _ => true) p.isList p2.isList hsz hu fun j h1 h2 => by
      obtain ⟨x, hx, rx⟩ := vals_at r h1
      obtain ⟨y, hy, ry⟩ := vals_at r2 h2
      rw [hx] at hy
      have := Option.some.inj hy
      subst this
      obtain ⟨n, en, rfl⟩ := ints_at hx
      obtain ⟨t, et⟩ := (show ∃ t, its.toArray[j] = Value.int n t from rx)
      obtain ⟨u, eu⟩ := (show ∃ t, its2.toArray[j] = Value.int n t from ry)
      rw [et, eu]
      have := SeqAt.EqAt.int_int (A := A.in1) (s := s) n t n u
      rwa [beq_self_eq_true] at this
    rw [show (List.range its.toArray.size).all (fun _ => true) = true by simp] at h
    exact SeqAt.EqAt.of_refs e h
theorem eq_pair (I : Inv X pins σ H s) {t u p l m : Addr} {os : List Int} (ht : SqT X.K H t [.ref p, .ref l]) (hu : SqT X.K H u [.ref p, .ref m]) (hl : SqL X.K H l (os.map V.int)) (hm : SqL X.K H m (os.map V.int)) (hn : A.in1.units < cLine) (hn2 : A.units < cLine) : SeqAt.EqAt A s (.ref t) (.ref u) true := by
  by_cases e : t = u
  · subst e
    exact SeqAt.EqAt.same _
  · obtain ⟨its, r, p1, _⟩ := I.tuple ht
    obtain ⟨its2, r2, p2, _⟩ := I.tuple hu
    have l1 := r.length
    have l2 := r2.length
    have h := SeqAt.RcAt.tuples (A := A) (e := fun _ => true) p1 p2 hn2 fun j h1 h2 => by
      obtain ⟨x, hx, rx⟩ := vals_at r h1
      obtain ⟨y, hy, ry⟩ := vals_at r2 h2
      match j, hx, hy with
      | 0, hx, hy =>
        cases Option.some.inj hx
        cases Option.some.inj hy
        rw [show its.toArray[0] = Value.ref p from rx, show its2.toArray[0] = Value.ref p from ry]
        exact SeqAt.EqAt.same _
      | 1, hx, hy =>
        cases Option.some.inj hx
        cases Option.some.inj hy
        rw [show its.toArray[1] = Value.ref l from rx, show its2.toArray[1] = Value.ref m from ry]
        exact eq_ints I hl hm hn
      | j + 2, hx, _ => cases hx
    rw [show ((List.range (min its.toArray.size its2.toArray.size)).all (fun _ => true) && its.toArray.size == its2.toArray.size) = true by
      rw [List.size_toArray, List.size_toArray, ← l1, ← l2]; simp] at h
    exact SeqAt.EqAt.of_refs e h
/-- two lists of pairs (the same object, equal ints) -/
def rNeP (K : PySem.W.Frag) : R2 := fun x y H Q => ∃ (a b : Addr) (ts us : List Addr), x = .ref a ∧ y = .ref b ∧ SqL K H a (ts.map V.ref) ∧ SqL K H b (us.map V.ref) ∧ Paired (fun t u => ∃ (p l m : Addr) (os : List Int), SqT K H t [.ref p, .ref l] ∧ SqT K H u [.ref p, .ref m] ∧ SqL K H l (os.map V.int) ∧ SqL K H m (os.map V.int)) ts us ∧ Q (.bl false) H
theorem op_neP (hu : X.A.units + 64 < cLine) (h1 : X.A.in1.units < cLine) (h2 : X.A.in1.in1.units < cLine) : OpR X (compareOp .NotEq) (rNeP X.K) := by
  intro pins s σ H x y v u Q I rx ry h
  obtain ⟨a, b, ts, us, rfl, rfl, ha, hb, hp, q⟩ := h
  cases (show v = Value.ref a from rx)
  cases (show u = Value.ref b from ry)
  obtain ⟨its, r, p1, _⟩ := I.list ha
  obtain ⟨its2, r2, p2, _⟩ := I.list hb
  have lt := hp.length
  have hsz : its.toArray.size = its2.toArray.size := by rw [List.size_toArray, List.size_toArray, ← r.length, ← r2.length, List.length_map, List.length_map, lt]
  have h := SeqAt.RcNeAt.lists (A := X.A) (e := fun _ => true) p1.isList p2.isList hsz (by omega) fun j g1 g2 => by
    obtain ⟨x, hx, rx⟩ := vals_at r g1
    obtain ⟨y, hy, ry⟩ := vals_at r2 g2
    obtain ⟨t, et, rfl⟩ := refs_at hx
    obtain ⟨u, eu, rfl⟩ := refs_at hy
    obtain ⟨u', eu', p, l, m, os, z1, z2, z3, z4⟩ := Paired.at hp et
    rw [eu] at eu'
    cases Option.some.inj eu'
    rw [show its.toArray[j] = Value.ref t from rx, show its2.toArray[j] = Value.ref u from ry]
    exact eq_pair I z1 z2 z3 z4 h2 h1
  rw [show (!(List.range its.toArray.size).all (fun _ => true)) = false by simp] at h
  exact h X.prog X.w X.xe _ ⟨.bl false, H, I, rfl, q⟩
end
end My
namespace My
open PySem PySem.Spec PyProof.Rows L2
theorem ixN_lt {n j : Nat} (h : j < n) : ixN n (j : Int) = some j := by
  unfold ixN
  rw [if_pos (by omega), if_pos (by omega)]
  rfl
theorem atI_neg2 {α : Type} {xs : List α} {v : α} (h2 : 2 ≤ xs.length) (h : xs[xs.length - 2]? = some v) : atI xs (-2) = some v := by
  unfold atI ixN
  rw [if_neg (by decide), if_pos (by omega)]
  show xs[((-2 : Int) + (xs.length : Int)).toNat]? = some v
  rw [show ((-2 : Int) + (xs.length : Int)).toNat = xs.length - 2 by omega]
  exact h
theorem pairF_none {N : NetD} {e1 e2 : EntD} {i j i' j' h o : Nat} (e : i = j ↔ i' = j') : pairF N e1 e2 i j h o = none ↔ pairF N e1 e2 i' j' h o = none := by
  unfold pairF
  rw [show decide (i = j) = decide (i' = j') by rw [decide_eq_decide]; exact e]
  split
  · simp
  · split
    · simp
    · split <;> simp
theorem tog_none {N : NetD} {e1 e2 : EntD} {i j : Nat} : tog N e1 e2 i j = none ↔ ∀ h, h < e1.os.length → ∀ o, o < e2.os.length → portE e1 h = portE e2 o → pairF N e1 e2 i j h o = none := by
  unfold tog
  rw [List.findSome?_eq_none_iff]
  constructor
  · intro H h hh o ho e
    have := H h (List.mem_range.mpr hh)
    unfold hopF at this
    have := List.findSome?_eq_none_iff.mp this o (List.mem_range.mpr ho)
    rwa [if_pos e] at this
  · intro H h hh
    refine List.findSome?_eq_none_iff.mpr fun o ho => ?_
    split
    · rename_i e
      exact H h (List.mem_range.mp hh) o (List.mem_range.mp ho) e
    · rfl
theorem tog_swap {N : NetD} {e1 e2 : EntD} {i j i' j' : Nat} (e : i = j ↔ i' = j') : tog N e1 e2 i j = none → tog N e1 e2 i' j' = none := fun H => tog_none.mpr fun h hh o ho p => (pairF_none e).mp (tog_none.mp H h hh o ho p)
theorem alone_none {N : NetD} {e : EntD} {i : Nat} : alone N e i = none ↔ (∀ h, h < e.os.length - 1 → earlyAt N e h = false) ∧ arr N e (e.os.length - 1) + N.er ≤ e.s.dl := by
  unfold alone
  constructor
  · intro H
    cases z : (List.range (e.os.length - 1)).findSome? (fun h => if earlyAt N e h = true then some (Flt.early i (h + 1)) else none) with
    | some f => rw [z] at H; cases H
    | none =>
      rw [z] at H
      refine ⟨fun h hh => ?_, ?_⟩
      · have := List.findSome?_eq_none_iff.mp z h (List.mem_range.mpr hh)
        cases y : earlyAt N e h with
        | false => rfl
        | true => rw [if_pos y] at this; cases this
      · refine Classical.byContradiction fun y => ?_
        have H : (if arr N e (e.os.length - 1) + N.er > e.s.dl then some (Flt.late i) else none) = none := H
        rw [if_pos (by omega)] at H
        cases H
  · rintro ⟨a, b⟩
    rw [List.findSome?_eq_none_iff.mpr fun h hh => if_neg (by rw [a h (List.mem_range.mp hh)]; decide)]
    exact if_neg (by omega)
theorem judged_none {N : NetD} {es : List EntD} : judged N es = none ↔ (∀ i, i < es.length → alone N (es.getD i nilE) i = none) ∧ ∀ j, j < es.length → ∀ i, i ≤ j → tog N (es.getD i nilE) (es.getD j nilE) i j = none := by
  unfold judged
  constructor
  · intro H
    cases z : (List.range es.length).findSome? (fun i => alone N (es.getD i nilE) i) with
    | some f => rw [z] at H; cases H
    | none =>
      rw [z] at H
      refine ⟨fun i hi => List.findSome?_eq_none_iff.mp z i (List.mem_range.mpr hi), fun j hj i hi => ?_⟩
      exact List.findSome?_eq_none_iff.mp (List.findSome?_eq_none_iff.mp H j (List.mem_range.mpr hj)) i (List.mem_range.mpr (by omega))
  · rintro ⟨a, b⟩
    rw [List.findSome?_eq_none_iff.mpr fun i hi => a i (List.mem_range.mp hi)]
    exact List.findSome?_eq_none_iff.mpr fun j hj => List.findSome?_eq_none_iff.mpr fun i hi => b j (List.mem_range.mp hj) i (by have := List.mem_range.mp hi; omega)
theorem getD_drop {es : List EntD} {k i : Nat} (hk : k < es.length) (hi : i < es.length - 1) : (es.take k ++ es.drop (k + 1)).getD i nilE = es.getD (if i < k then i else i + 1) nilE := by
  rw [List.getD_eq_getElem?_getD, List.getD_eq_getElem?_getD]
  congr 1
  by_cases h : i < k
  · rw [if_pos h, List.getElem?_append_left (by rw [List.length_take]; omega), List.getElem?_take_of_lt h]
  · rw [if_neg h, List.getElem?_append_right (by rw [List.length_take]; omega), List.length_take, List.getElem?_drop]
    congr 1
    omega
theorem judged_less {N : NetD} {es : List EntD} {k : Nat} (hk : k < es.length) (h : judged N es = none) : judged N (es.take k ++ es.drop (k + 1)) = none := by
  obtain ⟨a, b⟩ := judged_none.mp h
  have ll : (es.take k ++ es.drop (k + 1)).length = es.length - 1 := by rw [List.length_append, List.length_take, List.length_drop]; omega
  refine judged_none.mpr ⟨fun i hi => ?_, fun j hj i hi => ?_⟩
  · rw [ll] at hi
    rw [getD_drop hk hi]
    exact alone_none.mpr (alone_none.mp (a _ (by split <;> omega)))
  · rw [ll] at hj
    rw [getD_drop hk hj, getD_drop hk (by omega)]
    refine tog_swap ?_ (b (if j < k then j else j + 1) (by split <;> omega) (if i < k then i else i + 1) (by split <;> split <;> omega))
    split <;> split <;> omega
/-- what a fault that is told names -/
def FltOk (N : NetD) (es : List EntD) : Flt → Prop
  | .early i h => i < es.length ∧ 1 ≤ h ∧ h < (es.getD i nilE).os.length
  | .late i => i < es.length
  | .busy _ _ _ => True
  | .queue _ _ p => p.1 < N.ks.length
theorem fs_get {α : Type} {f : Nat → Option α} {n : Nat} {r : α} (h : (List.range n).findSome? f = some r) : ∃ i, i < n ∧ f i = some r := by
  obtain ⟨i, hi, e⟩ := List.exists_of_findSome?_eq_some h
  exact ⟨i, List.mem_range.mp hi, e⟩
theorem judged_ok {N : NetD} {es : List EntD} (ho : ∀ e ∈ es, EOk N e) {f : Flt} (h : judged N es = some f) : FltOk N es f := by
  unfold judged at h
  have mem : ∀ i, i < es.length → EOk N (es.getD i nilE) := fun i hi => ho _ (List.mem_of_getElem? (getE_lt hi))
  cases z : (List.range es.length).findSome? (fun i => alone N (es.getD i nilE) i) with
  | some g =>
    rw [z] at h
    cases h
    obtain ⟨i, hi, e⟩ := fs_get z
    unfold alone at e
    cases y : (List.range ((es.getD i nilE).os.length - 1)).findSome? (fun h => if earlyAt N (es.getD i nilE) h = true then some (Flt.early i (h + 1)) else none) with
    | some g =>
      rw [y] at e
      cases e
      obtain ⟨h, hh, e⟩ := fs_get y
      split at e
      · cases e
        exact ⟨hi, by omega, by omega⟩
      · cases e
    | none =>
      rw [y] at e
      have e : (if arr N (es.getD i nilE) ((es.getD i nilE).os.length - 1) + N.er > (es.getD i nilE).s.dl then some (Flt.late i) else none) = some f := e
      split at e
      · cases e
        exact hi
      · cases e
  | none =>
    rw [z] at h
    obtain ⟨j, hj, e⟩ := fs_get h
    obtain ⟨i, hi, e⟩ := fs_get e
    obtain ⟨h, hh, e⟩ := fs_get (show (List.range (es.getD i nilE).os.length).findSome? (hopF N (es.getD i nilE) (es.getD j nilE) i j) = some f from e)
    obtain ⟨o, ho', e⟩ := fs_get (show (List.range (es.getD j nilE).os.length).findSome? (fun o => if portE (es.getD i nilE) h = portE (es.getD j nilE) o then pairF N (es.getD i nilE) (es.getD j nilE) i j h o else none) = some f from e)
    have m := mem i (by omega)
    split at e
    · unfold pairF at e
      split at e
      · cases e; trivial
      · split at e
        · cases e
        · split at e
          · cases e
            have := m.len
            exact m.po.ltk (by omega)
          · cases e
    · cases e
/-- the clock errors with which a fault shows -/
def errsOf (N : NetD) (es : List EntD) : Flt → List Int
  | .busy _ _ _ => List.replicate N.ks.length 0
  | .early i h => ((List.replicate N.ks.length 0).set ((es.getD i nilE).s.path.getD (h - 1) 0) N.er).set ((es.getD i nilE).s.path.getD h 0) (-N.er)
  | .late i => (List.replicate N.ks.length 0).set ((es.getD i nilE).s.path.getD ((es.getD i nilE).s.path.length - 2) 0) N.er
  | .queue _ _ p => (List.replicate N.ks.length (-N.er)).set p.1 N.er
theorem rep_ints {n : Nat} {x : Int} : (List.replicate n [V.int x]).flatten = (List.replicate n x).map V.int := by
  rw [rep_flat, List.map_replicate]
theorem set_ints {os : List Int} {j : Nat} {x : Int} : (os.map V.int).set j (.int x) = (os.set j x).map V.int := by rw [List.map_set]
end My
/-! Entries while a list of entries grows. -/
namespace My
open PySem PySem.Spec PyProof.Rows L2
theorem sql_but {K : PySem.W.Frag} {H H' : Hp} {p a : Addr} {ts : List Addr} {os : List Int} (h : SqL K H a (os.map V.int)) (n : os ≠ []) (hp : H p = some (.lst (ts.map V.ref))) (kb : But p H H') : SqL K H' a (os.map V.int) := by
  rcases h with (h | ⟨o, h⟩) | h
  · refine .inl (.inl (kb _ _ h fun z => ?_))
    subst z
    rw [hp] at h
    injection h with h
    injection h with h
    cases os with
    | nil => exact n rfl
    | cons o r => cases ts with
      | nil => cases h
      | cons t r => injection h with h _; cases h
  · exact .inl (.inr ⟨o, kb _ _ h (ne_of h hp (by intro z; cases z))⟩)
  · exact .inr h
theorem EntAt.butL {K : PySem.W.Frag} {C : Addr} {H H' : Hp} {t p : Addr} {ts : List Addr} {e : EntD} (h : EntAt K C H t e) (n1 : e.s.path ≠ []) (n2 : e.os ≠ []) (hp : H p = some (.lst (ts.map V.ref))) (kb : But p H H') : EntAt K C H' t e := by
  obtain ⟨u, lo, h1, ⟨dx, lp, h2, h3⟩, h4⟩ := h
  exact ⟨u, lo, kb.tupL hp h1, ⟨dx, lp, kb _ _ h2 (ne_of h2 hp (by intro z; cases z)), kb _ _ h3 (row_ne n1 h3 hp)⟩, sql_but h4 n2 hp kb⟩
theorem EOk.ne {N : NetD} {e : EntD} (h : EOk N e) : e.s.path ≠ [] ∧ e.os ≠ [] := by
  have := h.po.is.two
  have := h.len
  refine ⟨fun z => ?_, fun z => ?_⟩
  · rw [z] at this; simp at this
  · rw [z] at this; simp at this; omega
theorem EntsAt.butL {K : PySem.W.Frag} {C : Addr} {N : NetD} {H H' : Hp} {p : Addr} {ts us : List Addr} {es : List EntD} (h : EntsAt K C H us es) (ho : ∀ e ∈ es, EOk N e) (hp : H p = some (.lst (ts.map V.ref))) (kb : But p H H') : EntsAt K C H' us es := Paired.imp2 h ho fun t e z w => z.butL w.ne.1 w.ne.2 hp kb
theorem Paired.take {α β : Type} {F : α → β → Prop} : ∀ {xs : List α} {ys : List β} (n : Nat), Paired F xs ys → Paired F (xs.take n) (ys.take n)
  | _, _, 0, _ => .nil
  | _, _, n + 1, .nil => .nil
  | _, _, n + 1, .cons r t => .cons r (Paired.take n t)
theorem Paired.drop {α β : Type} {F : α → β → Prop} : ∀ {xs : List α} {ys : List β} (n : Nat), Paired F xs ys → Paired F (xs.drop n) (ys.drop n)
  | _, _, 0, h => h
  | _, _, n + 1, .nil => .nil
  | _, _, n + 1, .cons r t => Paired.drop n t
theorem Paired.app {α β : Type} {F : α → β → Prop} : ∀ {xs xs' : List α} {ys ys' : List β}, Paired F xs ys → Paired F xs' ys' → Paired F (xs ++ xs') (ys ++ ys')
  | _, _, _, _, .nil, h => h
  | _, _, _, _, .cons r t, h => .cons r (Paired.app t h)
theorem cutR_to {ts : List Addr} {k : Nat} : cutV (ts.map V.ref) none (some (k : Int)) = (ts.take k).map V.ref := by
  unfold cutV
  rw [HT.sIx_nat, HT.sIx_none, List.drop_zero, Nat.sub_zero, ← List.map_take]
  congr 1
  rcases Nat.le_total k (ts.map V.ref).length with c | c
  · rw [Nat.min_eq_left c]
  · rw [Nat.min_eq_right c, List.length_map, List.take_length, List.take_of_length_le]
    rw [List.length_map] at c
    exact c
theorem cutR_from {ts : List Addr} {k : Nat} : cutV (ts.map V.ref) (some (k : Int)) none = (ts.drop k).map V.ref := by
  unfold cutV
  rw [HT.sIx_nat, HT.sIx_none, ← List.map_drop, ← List.map_take, List.length_map]
  congr 1
  rcases Nat.le_total k ts.length with c | c
  · rw [Nat.min_eq_left c, List.take_of_length_le]
    rw [List.length_drop]; omega
  · rw [Nat.min_eq_right c, Nat.sub_self, List.take_zero, List.drop_of_length_le c]
end My
namespace My
open PySem PySem.Spec PyProof.Rows L2
abbrev sWinsAt : Stmt := top 8 /-windows_at-/
def hitsE (e : EntD) (p : Nat × Nat) : List Nat := (List.range e.os.length).filter fun h => decide ((e.s.path.getD h 0, e.s.path.getD (h + 1) 0) = p)
def winsAt (es : List EntD) (p : Nat × Nat) : List Win := es.flatMap fun e => (hitsE e p).map (winOf e)
theorem range_one {p : Nat → Bool} {j : Nat} : ∀ {n : Nat}, j < n → (∀ h, h < n → (p h = true ↔ h = j)) → (List.range n).filter p = [j]
  | 0, h, _ => by omega
  | n + 1, h, hp => by
    rw [List.range_succ, List.filter_append, List.filter_cons, List.filter_nil]
    by_cases e : j = n
    · subst e
      rw [if_pos ((hp j (by omega)).mpr rfl), List.filter_eq_nil_iff.mpr fun x hx => by
        have := List.mem_range.mp hx
        intro z
        have := (hp x (by omega)).mp z
        omega]
      rfl
    · rw [if_neg (fun z => e ((hp n (by omega)).mp z).symm), range_one (by omega) fun x hx => hp x (by omega)]
      rfl
theorem hits_one {e : EntD} {j : Nat} (nd : e.s.path.Nodup) (hl : e.os.length + 1 = e.s.path.length) (hj : j < e.os.length) : hitsE e (e.s.path.getD j 0, e.s.path.getD (j + 1) 0) = [j] := by
  refine range_one hj fun h hh => ?_
  rw [decide_eq_true_eq]
  constructor
  · intro z
    injection z with z _
    exact nodup_getD nd (by omega) (by omega) z
  · intro z
    rw [z]
theorem hits_nil {e : EntD} {p : Nat × Nat} (hl : e.os.length + 1 = e.s.path.length) (h : p ∉ portsOf e.s.path) : hitsE e p = [] := by
  refine List.filter_eq_nil_iff.mpr fun x hx => ?_
  rw [decide_eq_true_eq]
  intro z
  have := List.mem_range.mp hx
  exact h (mem_ports.mpr ⟨x, by omega, z.symm⟩)
section
variable {P : Program} {w : World} {K : PySem.W.Frag} {mg : Str → Option Value} {base : Heap}
/-! ### windows_at -/
theorem scWinsAt : FnScope ["plan", "port", "windows", "entry", "ports"] ["plan", "port"] (defScope sWinsAt) := ⟨rfl, rfl, rfl, by decide +kernel, rfl, by decide +kernel, by decide +kernel⟩
def spWinsAt (K : PySem.W.Frag) (C : Addr) : Sp := fun vs H Q _ => ∃ (a t : Addr) (ts : List Addr) (es : List EntD) (p : Nat × Nat), vs = [.ref a, .ref t] ∧ SqL K H a (ts.map V.ref) ∧ EntsAt K C H ts es ∧ SqT K H t (portV p) ∧ (∀ e ∈ es, e.s.path.Nodup ∧ e.os.length + 1 = e.s.path.length) ∧ es.length ≤ 1000 ∧
  ∀ (H' : Hp) (D : Addr) (us : List Addr), Same H H' → H' D = some (.lst (us.map V.ref)) → WinsAt K H' us (winsAt es p) → Q (.ref D) H'
theorem ok_winsat {f C fP fW : Addr} {fd fdP fdW : FuncData} {k : Nat} (F : Fun K "windows_at" "windows_at" sWinsAt f fd) (c : StrC K C) (GP : Callee P w K mg base 1 "ports_of" ["path"] (spPo K) fP fdP) (GW : Callee P w K mg base 1 "window_of" ["entry", "hop"] (spWinOf K C) fW fdW) : FnOk P w K mg base CX0 (k + 2) f fd ["plan", "port"] (spWinsAt K C) := by
  refine F.ok scWinsAt (fun vs H Q E h => ?_) (fun cdv A outer s0 H vs Q E hr h => ?_)
  · obtain ⟨a, t, ts, es, p, rfl, _⟩ := h
    rfl
  · obtain ⟨a, t, ts, es, p, rfl, ha, hE, ht, hg, hl, q⟩ := h
    have nd := scWinsAt.nd
    have hr1 : Room 1 _ := hr.mono (by omega)
    have hu65 := u65 hr
    have lt : ts.length = es.length := hE.length
    refine ⟨_, pss_cons (ps_set (i := 2) nd rfl (.inl rfl) (pe_lst pa_nil)) <| pss_cons (ps_for PassesOwn.never rfl (pi_list (pv 0)) (pg_name (i := 3) nd rfl (.inl rfl)) (pss_cons (ps_set (i := 4) nd rfl (.inl rfl) (pe_call GP.ok hr1 (by rfl) GP.mg GP.kp GP.b .nil pass0 (pa_cons (pe_fld (pe_ix ix_tup (pv 3) pe_int (fun _ _ => rfl)) rfl) pa_nil))) <| pss_one (ps_if (pt_cmpR (op_inD hu65) (pv 1) (pv 4) rfl) (pss_one (ps_expr (pe_bm PySem.F.plainAttrs_list PySem.F.slot_list_append PySem.F.type_list_append mt_append (pv 2) (pa_cons (pe_call GW.ok hr1 (by rfl) GW.mg GW.kp GW.b .nil pass0 (pa_cons (pv 3) (pa_cons (pe_bm PySem.F.plainAttrs_list PySem.F.slot_list_index PySem.F.type_list_index (mt_indexD hu65) (pv 4) (pa_cons (pv 1) pa_nil)) pa_nil))) pa_nil)))) (pss_nil)))) <| pss_one (ps_ret (pv 2)), ?_⟩
    refine ⟨Nat.zero_le _, fun D nD => ?_⟩
    have sD := same_new (o := .lst []) nD
    refine ⟨_, rfl, a, rfl, ⟨_, sD.seq ha⟩, for_list (K := K) (a := a) (xs := ts.map V.ref) (fun i σ H' => ∃ (v3 v4 : Option V) (us : List Addr), σ = [some (.ref a), some (.ref t), some (.ref D), v3, v4] ∧ Same H H' ∧ H' D = some (.lst (us.map V.ref)) ∧ WinsAt K H' us (winsAt (es.take i) p) ∧ us.length ≤ i) ⟨none, none, [], rfl, sD, upd_same, .nil, Nat.le_refl _⟩ (fun i σ H' _ ⟨_, _, _, _, sm, _⟩ => sm.seq ha) ?_ ?_⟩
    · rintro i x σ H1 hi ⟨v3, v4, us, rfl, s1, hD, hW, lu⟩
      obtain ⟨t1, et, rfl⟩ := refs_at hi
      obtain ⟨e, ee, hE1⟩ := Paired.at hE et
      have em := List.mem_of_getElem? ee
      obtain ⟨pnd, pl⟩ := hg e em
      have hE2 := hE1.same s1
      obtain ⟨p1, lo, h1, ⟨dx, lp, h2, h3⟩, h4⟩ := id hE2
      have il : i < es.length := (List.getElem?_eq_some_iff.mp ee).1
      refine ⟨_, rfl, t1, _, _, _, rfl, rfl, h1, rfl, p1, C, dx, _, _, rfl, h2, c.cl, c.n4, sg4, lp, e.s.path, rfl, h3, fun H2 y ys s2 ny hy hP => ?_⟩
      have hD2 := s2 _ _ hD
      have ht2 := same_tup (s1.trans s2) ht
      refine ⟨_, rfl, _, rfl, dPort p, (portsOf e.s.path).map dPort, dp_port ht2, dp_ports (SqL.of hy) hP, (shp_port p).shaped, (shp_ports _).shaped, _, rfl, ?_⟩
      rw [any_port]
      refine ite2 (fun z => ?_) (fun z => ?_)
      · obtain ⟨j, hj, ej⟩ := mem_ports.mp (List.contains_iff_mem.mp z)
        refine ⟨_, rfl, .inl ⟨rfl, _, SqL.of hD2⟩, _, rfl, _, rfl, .inl ⟨rfl, _, SqL.of hy⟩, _, rfl, y, _, dPort p, (portsOf e.s.path).map dPort, j, dPort p, rfl, rfl, dp_ports (SqL.of hy) hP, dp_port ht2, (shp_ports _).shaped, (shp_port p).shaped, ?_, ?_, ?_, ?_⟩
        · rw [List.getElem?_map, ports_at hj, ← ej]
          rfl
        · rw [eqv_port, decide_eq_true rfl]
        · intro m z' hm hz'
          rw [List.getElem?_map, ports_at (by omega)] at hz'
          cases hz'
          rw [eqv_port, decide_eq_false]
          intro y
          rw [ej] at y
          injection y with y _
          have := nodup_getD pnd (by omega) (by omega) y
          omega
        · refine ⟨t1, e, j, rfl, hE2.same s2, by omega, fun H3 u s3 nu hu => ?_⟩
          have hD3 := s3 _ _ hD2
          refine ⟨D, _, _, rfl, rfl, hD3, szl (by rw [List.length_map]; omega), ?_⟩
          refine ⟨_, _, us ++ [u], rfl, same_but ((s1.trans s2).trans s3) nD but_self, ?_, ?_, by rw [List.length_append]; show us.length + 1 ≤ i + 1; omega⟩
          · rw [upd_same, List.map_append]
            rfl
          · have : winsAt (es.take (i + 1)) p = winsAt (es.take i) p ++ [winOf e j] := by
              unfold winsAt
              rw [flat_take _ ee, ej, hits_one pnd pl (by omega)]
              rfl
            rw [this]
            refine Paired.snoc (F := fun (t : Addr) (w : Win) => SqT K _ t (winV w)) ?_ ?_
            · exact But.tupL but_self hD3 (SqT.of hu)
            · exact (hW.same (s2.trans s3)).butL hD3 but_self
      · refine ⟨_, _, us, rfl, s1.trans s2, hD2, ?_, by omega⟩
        have : winsAt (es.take (i + 1)) p = winsAt (es.take i) p := by
          unfold winsAt
          rw [flat_take _ ee, hits_nil pl (fun y => z (List.contains_iff_mem.mpr y))]
          simp
        rw [this]
        exact hW.same s2
    · rintro σ H1 ⟨v3, v4, us, rfl, s1, hD, hW, lu⟩
      rw [List.length_map, lt, List.take_length] at hW
      exact ⟨_, rfl, q H1 D us s1 hD hW⟩
end
end My
namespace My
open PySem PySem.Spec PyProof.Rows L2
abbrev sOffs : Stmt := top 18 /-offsets_at-/
abbrev sWaitsAt : Stmt := top 20 /-waits_at-/
def waitsAt (N : NetD) (es : List EntD) (p : Nat × Nat) : List Win := es.flatMap fun e => (hitsE e p).map (wtOf N e)
/-- an offset at a port is free -/
def freeAt (es : List EntD) (s : StrD) (h : Nat) (o : Int) : Bool := !(winsAt es (s.path.getD h 0, s.path.getD (h + 1) 0)).any fun w => meetB (o, s.ln, s.pe) w
def offsL (es : List EntD) (s : StrD) (h : Nat) : List Int := ((List.range s.dl.toNat).map fun (j : Nat) => (j : Int)).filter (freeAt es s h)
theorem hits_le {e : EntD} {p : Nat × Nat} (nd : e.s.path.Nodup) (hl : e.os.length + 1 = e.s.path.length) : (hitsE e p).length ≤ 1 := by
  by_cases h : p ∈ portsOf e.s.path
  · obtain ⟨j, hj, ej⟩ := mem_ports.mp h
    rw [ej, hits_one nd hl (by omega)]
    exact Nat.le_refl _
  · rw [hits_nil hl h]
    exact Nat.zero_le _
theorem fm_le {α β : Type} {f : α → List β} : ∀ {l : List α}, (∀ x ∈ l, (f x).length ≤ 1) → (l.flatMap f).length ≤ l.length
  | [], _ => Nat.le_refl _
  | a :: l, h => by
    have h1 := h a List.mem_cons_self
    have h2 := fm_le fun x hx => h x (List.mem_cons_of_mem _ hx)
    rw [List.flatMap_cons, List.length_append, List.length_cons]
    omega
section
variable {P : Program} {w : World} {K : PySem.W.Frag} {mg : Str → Option Value} {base : Heap}
/-! ### offsets_at -/
theorem scOffs : FnScope ["plan", "stream", "hop", "windows", "offsets", "offset", "window", "other"] ["plan", "stream", "hop"] (defScope sOffs) := ⟨rfl, rfl, rfl, by decide +kernel, rfl, by decide +kernel, by decide +kernel⟩
def spOffs (K : PySem.W.Frag) (C2 : Addr) : Sp := fun vs H Q _ => ∃ (pl u : Addr) (ts : List Addr) (es : List EntD) (s : StrD) (h : Nat), vs = [.ref pl, .ref u, .int (h : Int)] ∧ SqL K H pl (ts.map V.ref) ∧ EntsAt K C2 H ts es ∧ StreamAt C2 H u s ∧ (∀ e ∈ es, e.s.path.Nodup ∧ e.os.length + 1 = e.s.path.length ∧ 0 ≤ e.s.ln ∧ 0 < e.s.pe) ∧ es.length ≤ 1000 ∧ 0 ≤ s.ln ∧ 0 < s.pe ∧ (-1000 ≤ s.dl ∧ s.dl ≤ 1000) ∧ h + 1 < s.path.length ∧
  ∀ (H' : Hp) (D : Addr), Same H H' → H D = none → H' D = some (.lst ((offsL es s h).map V.int)) → Q (.ref D) H'
theorem wins_wp {es : List EntD} {p : Nat × Nat} (h : ∀ e ∈ es, 0 ≤ e.s.ln ∧ 0 < e.s.pe) : ∀ w ∈ winsAt es p, WP w := fun w hw => by
  obtain ⟨e, he, hw⟩ := List.mem_flatMap.mp hw
  obtain ⟨j, _, rfl⟩ := List.mem_map.mp hw
  exact ⟨(h e he).1, (h e he).2⟩
theorem ok_offs {f C2 fP fW fM : Addr} {fd fdP fdW fdM : FuncData} {k : Nat} (F : Fun K "offsets_at" "offsets_at" sOffs f fd) (T : Blt mg) (hany : mg "any" = none) (c2 : StrC K C2) (GP : Callee P w K mg base 1 "ports_of" ["path"] (spPo K) fP fdP) (GW : Callee P w K mg base 2 "windows_at" ["plan", "port"] (spWinsAt K C2) fW fdW) (GM : Callee P w K mg base 1 "meet" ["first", "second"] (spMeet K) fM fdM) : FnOk P w K mg base CX0 (k + 3) f fd ["plan", "stream", "hop"] (spOffs K C2) := by
  refine F.ok scOffs (fun vs H Q E h => ?_) (fun cdv A0 outer s0 H vs Q E hr h => ?_)
  · obtain ⟨pl, u, ts, es, s, h, rfl, _⟩ := h
    rfl
  · obtain ⟨pl, u, ts, es, s, h, rfl, hpl, hE, hS, hg, hl, l0, p0, d1, hh, q⟩ := h
    have nd := scOffs.nd
    have hr1 : Room 1 _ := hr.mono (by omega)
    have hr2 : Room 2 _ := hr.mono (by omega)
    refine ⟨_, pss_cons (ps_set (i := 3) nd rfl (.inl rfl) (pe_call GW.ok hr2 (by rfl) GW.mg GW.kp GW.b .nil pass0 (pa_cons (pv 0) (pa_cons (pe_ix ix_list (pe_call GP.ok hr1 (by rfl) GP.mg GP.kp GP.b .nil pass0 (pa_cons (pe_fld (pv 1) rfl) pa_nil)) (pv 2) (fun _ _ => rfl)) pa_nil)))) <| pss_cons (ps_set (i := 4) nd rfl (.inl rfl) (pe_lst pa_nil)) <| pss_cons (ps_for PassesOwn.never rfl (pi_range1 (by rfl) T.range (pa_cons (pe_fld (pv 1) rfl) pa_nil)) (pg_name (i := 5) nd rfl (.inl rfl)) (pss_cons (ps_set (i := 6) nd rfl (.inr rfl) (pe_tup (pa_cons (pv 5) (pa_cons (pe_fld (pv 1) rfl) (pa_cons (pe_fld (pv 1) rfl) pa_nil))))) <| pss_one (ps_if (pt_not (pt_val (pe_callB (cr_any rfl) (by rfl) hany (by decide +kernel) (pa_cons (pe_lc (own := [("other", 7)]) (g := gName 7) (tt := tYes) rfl nd (pi_list (pv 3)) (blkOk_by (own := [("other", 7)]) (N := ["plan", "stream", "hop", "windows", "offsets", "offset", "window", "other"]) (sc := defScope sOffs) (by decide +kernel)) (fun _ _ _ _ _ => pg_name (i := 7) nd rfl (Or.inl rfl)) (fun _ _ _ _ _ => pts_nil) (fun _ _ _ _ _ => (pe_call GM.ok hr1 (by rfl) GM.mg GM.kp GM.b .nil pass0 (pa_cons (pv 6) (pa_cons (pv 7) pa_nil))))) pa_nil)))) (pss_one (ps_expr (pe_bm PySem.F.plainAttrs_list PySem.F.slot_list_append PySem.F.type_list_append mt_append (pv 4) (pa_cons (pv 5) pa_nil)))) (pss_nil)))) <| pss_one (ps_ret (pv 4)), ?_⟩
    obtain ⟨dx, lp, e1, e2⟩ := id hS
    refine ⟨_, rfl, _, rfl, u, C2, dx, _, _, rfl, e1, c2.cl, c2.n4, sg4, lp, s.path, rfl, e2, fun H1 y ys s1 ny hy hP => ?_⟩
    have lys : ys.length = (portsOf s.path).length := hP.length
    have eport := ports_at (r := s.path) (k := h) hh
    obtain ⟨tq, etq⟩ : ∃ t, ys[h]? = some t := ⟨_, List.getElem?_eq_getElem (by rw [lys]; exact (List.getElem?_eq_some_iff.mp eport).1)⟩
    obtain ⟨p', ep', hT⟩ := Paired.at hP etq
    rw [eport] at ep'
    cases Option.some.inj ep'
    have hpl1 := s1.seq hpl
    refine ⟨_, rfl, y, _, _, V.ref tq, rfl, rfl, SqL.of hy, atI_nat (by rw [List.getElem?_map, etq]; rfl), pl, tq, ts, es, _, rfl, hpl1, hE.same s1, hT, fun e he => ⟨(hg e he).1, (hg e he).2.1⟩, hl, fun H2 wl us s2 hwl hW => ?_⟩
    have wp := wins_wp (es := es) (p := (s.path.getD h 0, s.path.getD (h + 1) 0)) fun e he => (hg e he).2.2
    have lus : us.length = (winsAt es (s.path.getD h 0, s.path.getD (h + 1) 0)).length := hW.length
    have lus2 : us.length ≤ 1000 := by
      rw [lus]
      refine Nat.le_trans (fm_le fun e he => ?_) hl
      rw [List.length_map]
      exact hits_le (hg e he).1 (hg e he).2.1
    have S2 := s1.trans s2
    refine ⟨Nat.zero_le _, fun D nD => ?_⟩
    have sD := same_new (o := .lst []) nD
    have e13 := (S2.trans sD) _ _ e1
    refine ⟨_, rfl, u, C2, dx, _, _, rfl, e13, c2.cl, c2.n3, sg3, s.dl, rfl, ?_, ?_, for_range (n := s.dl.toNat) (fun i σ H' => ∃ (v5 v6 : Option V), σ = [some (.ref pl), some (.ref u), some (.int (h : Int)), some (.ref wl), some (.ref D), v5, v6, none] ∧ Same H2 H' ∧ H' D = some (.lst ((((List.range i).map fun (j : Nat) => (j : Int)).filter (freeAt es s h)).map V.int))) ⟨none, none, rfl, sD, upd_same⟩ ?_ ?_⟩
    · omega
    · omega
    · rintro i σ H' hi ⟨v5, v6, rfl, sm, hD⟩
      rw [Int.zero_add]
      have e14 := (S2.trans sm) _ _ e1
      refine ⟨_, rfl, _, rfl, u, C2, dx, _, _, rfl, e14, c2.cl, c2.n2, sg2, _, rfl, u, C2, dx, _, _, rfl, e14, c2.cl, c2.n1, sg1, by show 3 ≤ sizeLine; decide, fun tw ntw => ?_⟩
      have stw := same_new (o := .tup [V.int (i : Int), V.int s.ln, V.int s.pe]) ntw
      have htw := upd_same (H := H') (a := tw) (o := .tup [V.int (i : Int), V.int s.ln, V.int s.pe])
      have hD4 := stw _ _ hD
      revert stw htw hD4
      generalize upd H' tw (.tup [V.int (i : Int), V.int s.ln, V.int s.pe]) = H4
      intro stw htw hD4
      have hwl4 := (sm.trans stw) _ _ hwl
      have hW4 := hW.same (sm.trans stw)
      refine ⟨_, rfl, wl, rfl, ⟨_, SqL.of hwl4⟩, fun D2 nD2 => ?_⟩
      refine lc_list (K := K) (a := wl) (xs := us.map V.ref) (fun j H' => Same H4 H' ∧ H' D2 = some (.lst ((((winsAt es (s.path.getD h 0, s.path.getD (h + 1) 0)).take j).map fun w => meetB ((i : Int), s.ln, s.pe) w).map V.bl))) ⟨same_new nD2, upd_same⟩ (fun j H' _ z => SqL.of (z.1 _ _ hwl4)) ?_ ?_
      · rintro j v H5 hj ⟨sm5, hD5⟩
        obtain ⟨t, et, rfl⟩ := refs_at hj
        obtain ⟨w, ew, hTw⟩ := Paired.at hW4 et
        have jl := (List.getElem?_eq_some_iff.mp et).1
        refine ⟨rfl, _, rfl, _, rfl, tw, t, ((i : Int), s.ln, s.pe), w, rfl, SqT.of (sm5 _ _ htw), same_tup sm5 hTw, ⟨l0, p0⟩, wp w (List.mem_of_getElem? ew), ?_⟩
        refine ⟨_, hD5, szl (by rw [List.length_map, List.length_map, List.length_take]; omega), same_but sm5 nD2 but_self, ?_⟩
        rw [upd_same, take_snoc ew, List.map_append, List.map_append]
        rfl
      rintro H5 ⟨s5, hD5⟩
      rw [List.length_map, lus, List.take_length] at hD5
      refine ⟨D2, _, rfl, SqL.of hD5, _, rfl, ?_⟩
      rw [List.any_map]
      have hD6 := s5 _ _ hD4
      have efr : (!(winsAt es (s.path.getD h 0, s.path.getD (h + 1) 0)).any (id ∘ fun w => meetB ((i : Int), s.ln, s.pe) w)) = freeAt es s h (i : Int) := rfl
      have S5 := sm.trans (stw.trans s5)
      have stp : ((List.range (i + 1)).map fun (j : Nat) => (j : Int)).filter (freeAt es s h) = ((List.range i).map fun (j : Nat) => (j : Int)).filter (freeAt es s h) ++ (if freeAt es s h (i : Int) = true then [(i : Int)] else []) := by
        rw [List.range_succ, List.map_append, List.filter_append]
        show _ ++ List.filter _ [(i : Int)] = _
        rw [List.filter_cons]
        rfl
      rw [stp]
      refine ite2 (fun z => ?_) (fun z => ?_)
      · have z : freeAt es s h (i : Int) = true := z
        rw [if_pos z]
        refine ⟨_, rfl, .inl ⟨rfl, _, SqL.of hD6⟩, _, rfl, D, _, _, rfl, rfl, hD6, szl (by rw [List.length_map]; have h1 := List.length_filter_le (freeAt es s h) ((List.range i).map fun (j : Nat) => (j : Int)); rw [List.length_map, List.length_range] at h1; omega), ?_⟩
        refine ⟨_, _, rfl, same_but S5 nD but_self, ?_⟩
        rw [upd_same, List.map_append]
        rfl
      · have z : ¬ freeAt es s h (i : Int) = true := z
        rw [if_neg z, List.append_nil]
        exact ⟨_, _, rfl, S5, hD6⟩
    · rintro σ H' ⟨v5, v6, rfl, sm, hD⟩
      exact ⟨_, rfl, q H' D (S2.trans sm) (S2.free nD) hD⟩
/-! ### waits_at -/
theorem scWaitsAt : FnScope ["net", "plan", "port", "waits", "entry", "ports"] ["net", "plan", "port"] (defScope sWaitsAt) := ⟨rfl, rfl, rfl, by decide +kernel, rfl, by decide +kernel, by decide +kernel⟩
def spWaitsAt (K : PySem.W.Frag) (C1 C : Addr) : Sp := fun vs H Q _ => ∃ (np a t : Addr) (N : NetD) (ts : List Addr) (es : List EntD) (p : Nat × Nat), vs = [.ref np, .ref a, .ref t] ∧ NetAt K C1 H np N ∧ Dist N.ls ∧ SqL K H a (ts.map V.ref) ∧ EntsAt K C H ts es ∧ SqT K H t (portV p) ∧ (∀ e ∈ es, EOk N e) ∧ (∀ e ∈ es, ∀ h, h < e.os.length → portE e h = p → 1 ≤ h) ∧ es.length ≤ 1000 ∧
  ∀ (H' : Hp) (D : Addr) (us : List Addr), Same H H' → H D = none → H' D = some (.lst (us.map V.ref)) → WinsAt K H' us (waitsAt N es p) → Q (.ref D) H'
theorem ok_waitsat {f C1 C fP fW : Addr} {fd fdP fdW : FuncData} {k : Nat} (F : Fun K "waits_at" "waits_at" sWaitsAt f fd) (c : StrC K C) (GP : Callee P w K mg base 1 "ports_of" ["path"] (spPo K) fP fdP) (GW : Callee P w K mg base 4 "wait_of" ["net", "entry", "hop"] (spWait K C1 C) fW fdW) : FnOk P w K mg base CX0 (k + 5) f fd ["net", "plan", "port"] (spWaitsAt K C1 C) := by
  refine F.ok scWaitsAt (fun vs H Q E h => ?_) (fun cdv A outer s0 H vs Q E hr h => ?_)
  · obtain ⟨np, a, t, N, ts, es, p, rfl, _⟩ := h
    rfl
  · obtain ⟨np, a, t, N, ts, es, p, rfl, hN, hDs, ha, hE, ht, ok, hh, hl, q⟩ := h
    have nd := scWaitsAt.nd
    have hr1 : Room 1 _ := hr.mono (by omega)
    have hr4 : Room 4 _ := hr.mono (by omega)
    have hu65 := u65 hr
    have lt : ts.length = es.length := hE.length
    refine ⟨_, pss_cons (ps_set (i := 3) nd rfl (.inl rfl) (pe_lst pa_nil)) <| pss_cons (ps_for PassesOwn.never rfl (pi_list (pv 1)) (pg_name (i := 4) nd rfl (.inl rfl)) (pss_cons (ps_set (i := 5) nd rfl (.inl rfl) (pe_call GP.ok hr1 (by rfl) GP.mg GP.kp GP.b .nil pass0 (pa_cons (pe_fld (pe_ix ix_tup (pv 4) pe_int (fun _ _ => rfl)) rfl) pa_nil))) <| pss_one (ps_if (pt_cmpR (op_inD hu65) (pv 2) (pv 5) rfl) (pss_one (ps_expr (pe_bm PySem.F.plainAttrs_list PySem.F.slot_list_append PySem.F.type_list_append mt_append (pv 3) (pa_cons (pe_call GW.ok hr4 (by rfl) GW.mg GW.kp GW.b .nil pass0 (pa_cons (pv 0) (pa_cons (pv 4) (pa_cons (pe_bm PySem.F.plainAttrs_list PySem.F.slot_list_index PySem.F.type_list_index (mt_indexD hu65) (pv 5) (pa_cons (pv 2) pa_nil)) pa_nil)))) pa_nil)))) (pss_nil)))) <| pss_one (ps_ret (pv 3)), ?_⟩
    refine ⟨Nat.zero_le _, fun D nD => ?_⟩
    have sD := same_new (o := .lst []) nD
    refine ⟨_, rfl, a, rfl, ⟨_, sD.seq ha⟩, for_list (K := K) (a := a) (xs := ts.map V.ref) (fun i σ H' => ∃ (v3 v4 : Option V) (us : List Addr), σ = [some (.ref np), some (.ref a), some (.ref t), some (.ref D), v3, v4] ∧ Same H H' ∧ H' D = some (.lst (us.map V.ref)) ∧ WinsAt K H' us (waitsAt N (es.take i) p) ∧ us.length ≤ i) ⟨none, none, [], rfl, sD, upd_same, .nil, Nat.le_refl _⟩ (fun i σ H' _ ⟨_, _, _, _, sm, _⟩ => sm.seq ha) ?_ ?_⟩
    · rintro i x σ H1 hi ⟨v3, v4, us, rfl, s1, hD, hW, lu⟩
      obtain ⟨t1, et, rfl⟩ := refs_at hi
      obtain ⟨e, ee, hE1⟩ := Paired.at hE et
      have em := List.mem_of_getElem? ee
      have eo := ok e em
      have pnd := eo.po.is.nd
      have pl := eo.len
      have hE2 := hE1.same s1
      obtain ⟨p1, lo, h1, ⟨dx, lp, h2, h3⟩, h4⟩ := id hE2
      have il : i < es.length := (List.getElem?_eq_some_iff.mp ee).1
      refine ⟨_, rfl, t1, _, _, _, rfl, rfl, h1, rfl, p1, C, dx, _, _, rfl, h2, c.cl, c.n4, sg4, lp, e.s.path, rfl, h3, fun H2 y ys s2 ny hy hP => ?_⟩
      have hD2 := s2 _ _ hD
      have ht2 := same_tup (s1.trans s2) ht
      refine ⟨_, rfl, _, rfl, dPort p, (portsOf e.s.path).map dPort, dp_port ht2, dp_ports (SqL.of hy) hP, (shp_port p).shaped, (shp_ports _).shaped, _, rfl, ?_⟩
      rw [any_port]
      refine ite2 (fun z => ?_) (fun z => ?_)
      · obtain ⟨j, hj, ej⟩ := mem_ports.mp (List.contains_iff_mem.mp z)
        refine ⟨_, rfl, .inl ⟨rfl, _, SqL.of hD2⟩, _, rfl, _, rfl, _, rfl, .inl ⟨rfl, _, SqL.of hy⟩, _, rfl, y, _, dPort p, (portsOf e.s.path).map dPort, j, dPort p, rfl, rfl, dp_ports (SqL.of hy) hP, dp_port ht2, (shp_ports _).shaped, (shp_port p).shaped, ?_, ?_, ?_, ?_⟩
        · rw [List.getElem?_map, ports_at hj, ← ej]
          rfl
        · rw [eqv_port, decide_eq_true rfl]
        · intro m z' hm hz'
          rw [List.getElem?_map, ports_at (by omega)] at hz'
          cases hz'
          rw [eqv_port, decide_eq_false]
          intro y
          rw [ej] at y
          injection y with y _
          have := nodup_getD pnd (by omega) (by omega) y
          omega
        · refine ⟨np, t1, N, e, j, rfl, hN.same (s1.trans s2), hDs, hE2.same s2, eo, hh e em j (by omega) ej.symm, by omega, fun H3 u s3 nu hu => ?_⟩
          have hD3 := s3 _ _ hD2
          refine ⟨D, _, _, rfl, rfl, hD3, szl (by rw [List.length_map]; omega), ?_⟩
          refine ⟨_, _, us ++ [u], rfl, same_but ((s1.trans s2).trans s3) nD but_self, ?_, ?_, by rw [List.length_append]; show us.length + 1 ≤ i + 1; omega⟩
          · rw [upd_same, List.map_append]
            rfl
          · have : waitsAt N (es.take (i + 1)) p = waitsAt N (es.take i) p ++ [wtOf N e j] := by
              unfold waitsAt
              rw [flat_take _ ee, ej, hits_one pnd pl (by omega)]
              rfl
            rw [this]
            refine Paired.snoc (F := fun (t : Addr) (w : Win) => SqT K _ t (winV w)) ?_ ?_
            · exact But.tupL but_self hD3 (SqT.of hu)
            · exact (hW.same (s2.trans s3)).butL hD3 but_self
      · refine ⟨_, _, us, rfl, s1.trans s2, hD2, ?_, by omega⟩
        have : waitsAt N (es.take (i + 1)) p = waitsAt N (es.take i) p := by
          unfold waitsAt
          rw [flat_take _ ee, hits_nil pl (fun y => z (List.contains_iff_mem.mpr y))]
          simp
        rw [this]
        exact hW.same s2
    · rintro σ H1 ⟨v3, v4, us, rfl, s1, hD, hW, lu⟩
      rw [List.length_map, lt, List.take_length] at hW
      exact ⟨_, rfl, q H1 D us s1 nD hD hW⟩
end
end My
/-! min(xs, default=..) of a list of ints; comprehensions over a dict's keys, and of dicts over a list. No row. -/
namespace My
open PySem PySem.Spec PyProof.Rows L2
section
variable {X : Cx}
def rMinLD (K : PySem.W.Frag) : List V → List V → Hp → VK → Prop := fun vs zs H Q => ∃ (a : Addr) (is : List Int) (d : V), vs = [V.ref a] ∧ zs = [d] ∧ SqL K H a (is.map V.int) ∧ (is = [] → Q d H) ∧ (is ≠ [] → ∀ m, m ∈ is → (∀ j ∈ is, m ≤ j) → Q (.int m) H)
theorem cr_minLD (hc : X.calm = true) : CallRK X (.builtin "min") ["default"] (rMinLD X.K) := by
  intro pins s σ H vs zs us ws Q I r r2 h
  obtain ⟨a, is, d, rfl, rfl, ha, q0, q⟩ := h
  rw [Vals.ref1 r]
  obtain ⟨dv, rd, rfl⟩ : ∃ dv, RelV d dv ∧ ws = [dv] := by
    cases r2 with
    | cons r t => cases t with
      | nil => exact ⟨_, r, rfl⟩
  obtain ⟨its, rv, hl, _⟩ := I.list ha
  have hlv : its.length = is.length := by
    have := rv.length
    rw [List.length_map] at this
    exact this.symm
  have hval : ∀ (i : Nat) (v : Value), its.toArray[i]? = some v → ∃ t, v = Value.int (is.getD i 0) t := fun i v hv => by
    have hv' : its[i]? = some v := by simpa using hv
    have il : i < its.length := (List.getElem?_eq_some_iff.mp hv').1
    have e1 : (is.map V.int)[i]? = some (.int (is.getD i 0)) := int_at (getD_at 0 (by omega))
    obtain ⟨u, hu, ru⟩ := rv.get e1
    rw [hv'] at hu
    cases Option.some.inj hu
    exact ru
  have hnew : ∀ b (u : Obj), s.heap.get? b = some u → b ∉ [s.heap.objs.size] := fun b u e hm => by
    have e2 := Heap.lt_size e
    rw [List.mem_singleton.mp hm] at e2
    exact absurd e2 (Nat.lt_irrefl _)
  show wpAny _ _ (call (.builtin "min") [.ref a] [("default", dv)]) _ _ _
  refine call_min_walkD (iter_any hl.isList fun s₂ e2 st hne => ?_)
  subst e2
  have hlt : a < s.heap.objs.size := by
    obtain ⟨_, e, _⟩ := hl.isList
    exact Heap.lt_size e
  refine ⟨_, _, _, _, _, _, _, s.heap, _, rfl, (Walks.list (A := X.A.in1) (I.ok.hd hc) _ a hne its.toArray).toS, st, fun b hb => ?_, hnew, fun b o e => Heap.get?_push_of_some _ e, fun hz s' m => ?_, fun hp => ⟨fun i j vi vj s Q E _ => CmpOf.ints_lt (fun i => is.getD i 0) hval i j vi vj s Q E, fun v s' hP m => ?_⟩⟩
  · show b < (s.heap.push _).objs.size
    rw [Heap.size_push]
    rcases List.mem_cons.mp hb with e | hb
    · rw [e]
      exact Nat.lt_succ_self _
    · rw [List.mem_singleton.mp hb]
      exact Nat.lt_succ_of_lt hlt
  · obtain ⟨h', tk, rfl, hk'⟩ := PySem.W.moved_old (s := s) rfl rfl m
    have hz : its.length = 0 := by simpa using hz
    exact ⟨d, H, I.kept (t' := tk) fun b u e => hk' b u e, rd, q0 (List.eq_nil_of_length_eq_zero (by omega))⟩
  · obtain ⟨h', tk, rfl, hk'⟩ := PySem.W.moved_old (s := s) rfl rfl m
    obtain ⟨t, rfl⟩ := hval _ v hP
    have hp : 0 < its.length := by simpa using hp
    obtain ⟨b1, b2⟩ := argBest_lt (fun i => is.getD i 0) (its.toArray.size - 1)
    have hsz : its.toArray.size = its.length := List.size_toArray ..
    have hne2 : is ≠ [] := fun z => by
      rw [z] at hlv
      have : its.length = 0 := hlv
      omega
    refine ⟨.int _, H, I.kept (t' := tk) fun b u e => hk' b u e, ⟨t, rfl⟩, q hne2 _ ?_ fun j hj => ?_⟩
    · have hb : argBest (fun i j => decide (is.getD i 0 < is.getD j 0)) (its.toArray.size - 1) < is.length := by omega
      rw [List.getD_eq_getElem?_getD, List.getElem?_eq_getElem hb]
      exact List.getElem_mem hb
    · obtain ⟨i, hi, e⟩ := List.mem_iff_getElem.mp hj
      have e2 : is.getD i 0 = j := by rw [List.getD_eq_getElem?_getD, List.getElem?_eq_getElem hi, ← e] <;> rfl
      rw [← e2]
      exact b2 i (by omega)
end
/-- over the int keys of a dict that is locked -/
theorem lc_keysI {d : Addr} {o : Obj} {kvs : List (Key × V)} {is : List Int} (hk : kvs.map (·.1) = is.map Sum.inl) {g : TG} {tt : TT} {te : TE} {vs : List Nat} {σ : L2.St} {H1 : Hp} {D : Addr} {Qd : Hp → Prop} (Pv : Nat → Hp → Prop) (h0 : Pv 0 (upd H1 D (.lst []))) (hl : ∀ i H, i ≤ is.length → Pv i H → H d = some (.frz o (.dK kvs)))
    (hs : ∀ i n H, is[i]? = some n → Pv i H → g (.int n) (wipe σ vs) H fun σ2 H2 => wipe σ2 vs = wipe σ vs ∧ tt σ2 H2 fun b H3 =>
      if b = true then te σ2 H3 fun y H4 => ∃ ac, H4 D = some (.lst ac) ∧ ac.length < sizeLine ∧ Pv (i + 1) (upd H4 D (.lst (ac ++ [y]))) else Pv (i + 1) H3) (hd : ∀ H, Pv is.length H → Qd H) :
    ∃ W : Nat → Nat → Hp → Prop, (∃ m, W 0 m (upd H1 D (.lst []))) ∧ ∀ i m H, W i m H →
      ((Itk d o kvs).stop i H ∧ Qd H) ∨ ((Itk d o kvs).go i H ∧ ∃ Nx : Hp → Prop, (∀ H', Nx H' → ∃ m', m' < m ∧ W (i + 1) m' H') ∧ ∀ x H', (Itk d o kvs).yld i H x H' → g x (wipe σ vs) H' fun σ2 H2 => wipe σ2 vs = wipe σ vs ∧ tt σ2 H2 fun b H3 =>
        if b = true then te σ2 H3 fun y H4 => ∃ ac, H4 D = some (.lst ac) ∧ ac.length < sizeLine ∧ Nx (upd H4 D (.lst (ac ++ [y]))) else Nx H3) := by
  have ln : kvs.length = is.length := by
    have e1 := congrArg List.length hk
    rw [List.length_map, List.length_map] at e1
    exact e1
  refine ⟨fun i m H => m = is.length - i ∧ i ≤ is.length ∧ Pv i H, ⟨is.length, by simp, Nat.zero_le _, h0⟩, ?_⟩
  rintro i m H ⟨rfl, hi, p⟩
  have q := hl i H hi p
  by_cases hlt : i < is.length
  · refine .inr ⟨⟨q, by omega⟩, Pv (i + 1), fun H' p' => ⟨is.length - (i + 1), by omega, rfl, hlt, p'⟩, fun x H' y => ?_⟩
    obtain ⟨rfl, k, v, e1, rfl⟩ := y
    have e2 : (kvs.map (·.1))[i]? = some k := by rw [List.getElem?_map, e1]; rfl
    rw [hk, List.getElem?_map] at e2
    obtain ⟨n, en, rfl⟩ := Option.map_eq_some_iff.mp e2
    exact hs i n H' en p
  · have e : i = is.length := by omega
    subst e
    exact .inl ⟨⟨q, by omega⟩, hd H p⟩
/-- a dict over a list that stays -/
theorem dc_listK {K : PySem.W.Frag} {a : Addr} {xs : List V} {g : TG} {tt : TT} {tk tv : TE} {vs : List Nat} {σ : L2.St} {H1 : Hp} {D : Addr} {Qd : Hp → Prop} (Pv : Nat → Hp → Prop) (h0 : Pv 0 (upd H1 D (.dK []))) (hl : ∀ i H, i ≤ xs.length → Pv i H → SqL K H a xs)
    (hs : ∀ i x H, xs[i]? = some x → Pv i H → g x (wipe σ vs) H fun σ2 H2 => wipe σ2 vs = wipe σ vs ∧ tt σ2 H2 fun b H3 =>
      if b = true then tk σ2 H3 fun y H4 => tv σ2 H4 fun z H5 => ∃ kz kk, y = kV kk ∧ H5 D = some (.dK kz) ∧ kz.length < sizeLine ∧ Pv (i + 1) (upd H5 D (.dK (putK kz kk z))) else Pv (i + 1) H3) (hd : ∀ H, Pv xs.length H → Qd H) :
    ∃ W : Nat → Nat → Hp → Prop, (∃ m, W 0 m (upd H1 D (.dK []))) ∧ ∀ i m H, W i m H →
      ((Itl K a).stop i H ∧ Qd H) ∨ ((Itl K a).go i H ∧ ∃ Nx : Hp → Prop, (∀ H', Nx H' → ∃ m', m' < m ∧ W (i + 1) m' H') ∧ ∀ x H', (Itl K a).yld i H x H' → g x (wipe σ vs) H' fun σ2 H2 => wipe σ2 vs = wipe σ vs ∧ tt σ2 H2 fun b H3 =>
        if b = true then tk σ2 H3 fun y H4 => tv σ2 H4 fun z H5 => ∃ kz kk, y = kV kk ∧ H5 D = some (.dK kz) ∧ kz.length < sizeLine ∧ Nx (upd H5 D (.dK (putK kz kk z))) else Nx H3) := by
  refine ⟨fun i m H => m = xs.length - i ∧ i ≤ xs.length ∧ Pv i H, ⟨xs.length, by omega, Nat.zero_le _, h0⟩, ?_⟩
  rintro i m H ⟨rfl, hi, p⟩
  have q := hl i H hi p
  by_cases hlt : i < xs.length
  · refine .inr ⟨⟨xs, xs[i], q, by rw [List.getElem?_eq_getElem hlt]⟩, Pv (i + 1), fun H' p' => ⟨xs.length - (i + 1), by omega, rfl, hlt, p'⟩, fun x H' y => ?_⟩
    obtain ⟨rfl, y⟩ := y
    exact hs i x _ (y xs q) p
  · have e : i = xs.length := by omega
    rw [e] at p
    exact .inl ⟨⟨xs, q, by omega⟩, hd H p⟩
section
variable {X : Cx}
/-- y = {k: v for ..}: the name is bound within -/
theorem ps_setDcI {i : Nat} {y : Str} {py : Pos} {kx vx tg iter : Expr} {ifs : List Expr} {scope : Scope} {own : List (Str × Nat)} {pos spos : Pos} {wi : TI} {g : TG} {tt : TT} {tk tv : TE} (cm : X.calm = true) (nN : X.N.Nodup) (at_ : X.N[i]? = some y) (loc : X.env.scope.names.lookup y = some .local) (sw : swapsWith (.DictComp kx vx [⟨tg, iter, ifs, 0⟩] scope pos) (some (.Name y py)) spos.line X.env = pure true)
    (it : PI X tg iter wi) (bk : BlkOk X.N X.env.scope scope own) (pg : ∀ (s : Shared) (H : Hp) (C : Addr) (cl : List (Str × Addr)) (fp : List Addr), PG (X.blk s H scope (compEnvC scope cl C X.env) fp) tg g) (pt : ∀ (s : Shared) (H : Hp) (C : Addr) (cl : List (Str × Addr)) (fp : List Addr), PTs (X.blk s H scope (compEnvC scope cl C X.env) fp) ifs tt)
    (pk : ∀ (s : Shared) (H : Hp) (C : Addr) (cl : List (Str × Addr)) (fp : List Addr), PE (X.blk s H scope (compEnvC scope cl C X.env) fp) kx tk) (pv' : ∀ (s : Shared) (H : Hp) (C : Addr) (cl : List (Str × Addr)) (fp : List Addr), PE (X.blk s H scope (compEnvC scope cl C X.env) fp) vx tv) (fo : ∀ x, foldedSetIterable iter X.env x = pure x := by intro _; rfl) :
    PS X (.Assign [.Name y py] (.DictComp kx vx [⟨tg, iter, ifs, 0⟩] scope pos) spos) (tAsg (tDc wi g tt tk tv (own.map (·.2))) (gName i)) := by
  constructor
  intro pins s σ H D I w
  rw [exec_Assign_Name_used _ _ _ _ sw]
  refine wpAny_bind (wpAny_standAt (wpAny_bind ?_))
  have w : tDc wi g tt tk tv (own.map (·.2)) σ H (fun x H1 => gName i x σ H1 D.nx) := w
  show wpAny _ X.A (do let _ ← comprehension (.DictComp kx vx [⟨tg, iter, ifs, 0⟩] scope pos) scope X.env (firstIterPos [⟨tg, iter, ifs, 0⟩] pos) newDict false (eval iter X.env) (some (assign (.Name y py) X.env))) _ _ s
  have core := dc_core (use := some (assign (.Name y py) X.env)) (pos' := firstIterPos [⟨tg, iter, ifs, 0⟩] pos) (pos := pos) (Qf := fun _ s1 => SP X pins D .next s1) cm nN I it bk pg pt pk pv' fo w fun d c s1 m H1 I1 q ns fp => by
    show wpAny _ _ (assign (.Name y py) X.env (.ref d)) _ _ _
    refine wpAny_assign_Name (store_ok2 (v := V.ref d) I1 nN at_ (.inl loc) rfl ?_ (.inr loc))
    rintro s2 I2 ⟨a, sb, ha⟩
    obtain ⟨f0, f1, f2, f3, f4, f5⟩ := fp
    have ne : c ≠ a := ha.elim (fun z => z ▸ f1) fun z e => f4 y a z e.symm
    exact ⟨m, ns.sameBut sb ne, fun h3 sb3 => ⟨_, H1, I2.turned (t' := s2.toks) (fun b o hb e => (sb3.2 b hb).trans e) f0 f1 f3 f4 f5, q⟩⟩
  exact wpAny_bind (thn core fun _ s1 hq => wpAny_pure (wpAny_pure hq))
theorem sw_trueD {kx vx : Expr} {gs : List Comprehension} {scope : Scope} {pos py : Pos} {y : Str} {l : Nat} {env : Env} (hk : env.scope.kind = .function) (hy : env.scope.names.lookup y = some .local) (hl : (py.line == pos.line) = true) (ha : (scope.names.any fun (n, k) => n == y && (k == .local || k == .cell)) = false) : swapsWith (.DictComp kx vx gs scope pos) (some (.Name y py)) l env = pure true := by
  have b1 : env.kindOf y = some .local := hy
  have b2 : env.blockKind = .function := by
    unfold Env.blockKind
    rw [hk]
    rfl
  unfold swapsWith
  simp only [b2, b1, ha, Expr.pos, hl]
  first | rfl | trivial
end
end My
namespace My
open PySem PySem.Spec PyProof.Rows L2
abbrev sWays : Stmt := top 19 /-ways_before-/
abbrev Way := Int × List Int
def wKv (W : List Way) (ts : List Addr) : List (Key × V) := List.zipWith (fun w t => (Sum.inl w.1, V.ref t)) W ts
def Asc (W : List Way) : Prop := (W.map (·.1)).Pairwise (· < ·)
/-- a dict of ways -/
structure WyAt (H : Hp) (d : Addr) (W : List Way) (ts : List Addr) : Prop where
  d : H d = some (.dK (wKv W ts))
  l : Paired (fun (t : Addr) (w : Way) => H t = some (.lst (w.2.map V.int))) ts W
theorem wKv_keys : ∀ {W : List Way} {ts : List Addr}, ts.length = W.length → (wKv W ts).map (·.1) = (W.map (·.1)).map Sum.inl
  | [], _, _ => rfl
  | w :: W, [], h => by cases h
  | w :: W, t :: ts, h => by
    show Sum.inl w.1 :: (wKv W ts).map (·.1) = Sum.inl w.1 :: (W.map (·.1)).map Sum.inl
    rw [wKv_keys (by simpa using h)]
theorem wKv_get : ∀ {W : List Way} {ts : List Addr} {i : Nat} {w : Way} {t : Addr}, Asc W → W[i]? = some w → ts[i]? = some t → valV (wKv W ts) (.inl w.1) = some (.ref t)
  | [], _, i, _, _, _, h, _ => by cases h
  | w :: W, [], i, _, _, _, _, h => by cases h
  | w :: W, t :: ts, 0, _, _, ha, h1, h2 => by
    cases h1
    cases h2
    exact valV_pos rfl
  | w :: W, t :: ts, i + 1, w', t', ha, h1, h2 => by
    have ha : ((w.1) :: W.map (·.1)).Pairwise (· < ·) := ha
    rw [List.pairwise_cons] at ha
    have h1 : W[i]? = some w' := h1
    have lt := ha.1 w'.1 (List.mem_map.mpr ⟨w', List.mem_of_getElem? h1, rfl⟩)
    have ih := wKv_get (W := W) (ts := ts) ha.2 h1 h2
    have ne : ¬ ((Sum.inl w.1 : Key) = Sum.inl w'.1) := fun z => by
      injection z with z
      omega
    show valV ((Sum.inl w.1, V.ref t) :: wKv W ts) _ = _
    unfold valV
    rw [List.find?_cons, decide_eq_false ne]
    exact ih
theorem wKv_put {W : List Way} {ts : List Addr} {o : Int} {l : List Int} {t : Addr} (h : ts.length = W.length) (n : ∀ w ∈ W, w.1 ≠ o) : putK (wKv W ts) (.inl o) (.ref t) = wKv (W ++ [(o, l)]) (ts ++ [t]) := by
  have no : (wKv W ts).any (fun kv => decide (kv.1 = (Sum.inl o : Key))) = false := by
    rw [List.any_eq_false]
    intro kv hk
    have : kv.1 ∈ (wKv W ts).map (·.1) := List.mem_map.mpr ⟨kv, hk, rfl⟩
    rw [wKv_keys h, List.map_map] at this
    obtain ⟨w, hw, e⟩ := List.mem_map.mp this
    intro z
    have z := of_decide_eq_true z
    rw [← e] at z
    have z : (Sum.inl w.1 : Key) = Sum.inl o := z
    injection z with z
    exact n w hw z
  unfold putK
  rw [if_neg (by rw [no]; exact Bool.false_ne_true)]
  unfold wKv
  rw [List.zipWith_append (by omega)]
  rfl
/-- the way from an offset on, or none -/
def stepW (N : NetD) (es : List EntD) (s : StrD) (h : Nat) (W : List Way) (o : Int) : Option Way :=
  match W.find? (fun w => decide (o + travel N s h + 2 * N.er ≤ w.1)) with
  | none => none
  | some w => if (decide ((wtOf N ⟨s, List.replicate h 0 ++ (o :: w.2)⟩ (h + 1)).2.1 > (wtOf N ⟨s, List.replicate h 0 ++ (o :: w.2)⟩ (h + 1)).2.2) || (waitsAt N es (s.path.getD (h + 1) 0, s.path.getD (h + 2) 0)).any (meetB (wtOf N ⟨s, List.replicate h 0 ++ (o :: w.2)⟩ (h + 1)))) = true then none else some (o, o :: w.2)
def waysB (N : NetD) (es : List EntD) (s : StrD) (h : Nat) (W : List Way) : List Way := (offsL es s h).filterMap (stepW N es s h W)
/-- the least key that is far enough -/
theorem min_find {W : List Way} (ha : Asc W) {e m : Int} {is : List Int} (his : is = (W.map (·.1)).filter (fun x => decide (e ≤ x))) (hm : m ∈ is) (hl : ∀ j ∈ is, m ≤ j) : ∃ (w : Way) (i : Nat), W.find? (fun w => decide (e ≤ w.1)) = some w ∧ w.1 = m ∧ W[i]? = some w := by
  subst his
  obtain ⟨h1, h2⟩ := List.mem_filter.mp hm
  cases f : W.find? (fun w => decide (e ≤ w.1)) with
  | none =>
    obtain ⟨w, hw, rfl⟩ := List.mem_map.mp h1
    exact absurd h2 (List.find?_eq_none.mp f w hw)
  | some w =>
    have wm := List.mem_of_find?_eq_some f
    have wp := List.find?_some f
    obtain ⟨i, hi⟩ := List.mem_iff_getElem?.mp wm
    refine ⟨w, i, rfl, ?_, hi⟩
    have le := hl w.1 (List.mem_filter.mpr ⟨List.mem_map.mpr ⟨w, wm, rfl⟩, wp⟩)
    -- the first one is the least
    obtain ⟨v, hv, ev⟩ := List.mem_map.mp h1
    obtain ⟨pre, post, e1, e2⟩ := List.find?_eq_some_iff_append.mp f |>.2
    rw [e1] at hv
    rcases List.mem_append.mp hv with hv | hv
    · have := e2 v hv
      rw [ev, h2] at this
      cases this
    · rcases List.mem_cons.mp hv with hv | hv
      · rw [← ev, hv]
      · unfold Asc at ha
        rw [e1, List.map_append, List.map_cons, List.pairwise_append, List.pairwise_cons] at ha
        have := ha.2.1.1 v.1 (List.mem_map.mpr ⟨v, hv, rfl⟩)
        omega
theorem find_none {W : List Way} {e : Int} (h : (W.map (·.1)).filter (fun x => decide (e ≤ x)) = []) : W.find? (fun w => decide (e ≤ w.1)) = none := by
  rw [List.find?_eq_none]
  intro w hw
  exact List.filter_eq_nil_iff.mp h w.1 (List.mem_map.mpr ⟨w, hw, rfl⟩)
theorem step_fst {N : NetD} {es : List EntD} {s : StrD} {h : Nat} {W : List Way} {o : Int} {w : Way} (e : stepW N es s h W o = some w) : w.1 = o := by
  unfold stepW at e
  split at e
  · cases e
  · split at e
    · cases e
    · cases e
      rfl
theorem fmap_keys {g : Int → Option Way} (hg : ∀ o w, g o = some w → w.1 = o) : ∀ (l : List Int), (l.filterMap g).map (·.1) = l.filter fun o => (g o).isSome
  | [] => rfl
  | o :: l => by
    rw [List.filterMap_cons, List.filter_cons]
    cases e : g o with
    | none => exact fmap_keys hg l
    | some w =>
      show w.1 :: _ = o :: _
      rw [hg o w e, fmap_keys hg l]
theorem offs_asc (es : List EntD) (s : StrD) (h : Nat) : (offsL es s h).Pairwise (· < ·) := by
  unfold offsL
  refine List.Pairwise.filter _ ?_
  rw [List.pairwise_map]
  exact List.Pairwise.imp (fun h => by omega) List.pairwise_lt_range
theorem waysB_asc (N : NetD) (es : List EntD) (s : StrD) (h : Nat) (W : List Way) : Asc (waysB N es s h W) := by
  unfold Asc waysB
  rw [fmap_keys fun o w e => step_fst e]
  exact (offs_asc es s h).filter _
theorem offs_bd {es : List EntD} {s : StrD} {h : Nat} : ∀ o ∈ offsL es s h, 0 ≤ o ∧ o < s.dl := fun o ho => by
  obtain ⟨h1, _⟩ := List.mem_filter.mp ho
  obtain ⟨j, hj, rfl⟩ := List.mem_map.mp h1
  have := List.mem_range.mp hj
  omega
theorem offs_len {es : List EntD} {s : StrD} {h : Nat} : (offsL es s h).length ≤ s.dl.toNat := by
  have h1 := List.length_filter_le (freeAt es s h) ((List.range s.dl.toNat).map fun (j : Nat) => (j : Int))
  rw [List.length_map, List.length_range] at h1
  exact h1
end My
namespace My
open PySem PySem.Spec PyProof.Rows L2
/-- what a stream is asked to be -/
structure SOk (N : NetD) (s : StrD) : Prop where
  po : PathOk N s
  p0 : 1 ≤ s.pe
  p1 : s.pe ≤ 60
  l0 : 1 ≤ s.ln
  d0 : -1000 ≤ s.dl
  d1 : s.dl ≤ 1000
theorem SOk.eok {N : NetD} {s : StrD} (h : SOk N s) {os : List Int} (hl : os.length + 1 = s.path.length) : EOk N ⟨s, os⟩ := ⟨h.po, hl, h.p0, h.p1, h.l0⟩
/-- the plan, as the defs of admission want it -/
structure POk (N : NetD) (es : List EntD) : Prop where
  d : Dist N.ls
  ok : ∀ e ∈ es, EOk N e
  len : es.length ≤ 1000
/-- a port behind the first hop of a path is no first port -/
theorem sw_port {N : NetD} {e : EntD} {s : StrD} {h j : Nat} (he : EOk N e) (hs : PathOk N s) (hh : h + 2 < s.path.length) (hj : j < e.os.length) (p : portE e j = (s.path.getD (h + 1) 0, s.path.getD (h + 2) 0)) : 1 ≤ j := by
  have hl := he.len
  have h1 := hs.is.hs (h + 1) (by omega)
  have h2 := he.po.is.hs j (by omega)
  injection p with p1 _
  have p1 : e.s.path.getD j 0 = s.path.getD (h + 1) 0 := p1
  rw [p1, h1] at h2
  rw [decide_eq_false (by omega), decide_eq_false (by omega)] at h2
  by_cases z : j = 0
  · rw [decide_eq_true z] at h2
    cases h2
  · omega
theorem waits_wp {N : NetD} {es : List EntD} {p : Nat × Nat} (h : ∀ e ∈ es, EOk N e) : ∀ w ∈ waitsAt N es p, WP w := fun w hw => by
  obtain ⟨e, he, hw⟩ := List.mem_flatMap.mp hw
  obtain ⟨j, _, rfl⟩ := List.mem_map.mp hw
  have h1 := wtOf_l (N := N) (e := e) j
  have h2 := (h e he).p0
  exact ⟨by omega, by show 0 < e.s.pe; omega⟩
theorem waits_len {N : NetD} {es : List EntD} {p : Nat × Nat} (h : ∀ e ∈ es, EOk N e) : (waitsAt N es p).length ≤ es.length := by
  refine fm_le fun e he => ?_
  rw [List.length_map]
  exact hits_le (h e he).po.is.nd (h e he).len
theorem keys_new {g : Int → Option Way} (hg : ∀ o w, g o = some w → w.1 = o) {l : List Int} {i : Nat} {o : Int} (hl : l.Pairwise (· < ·)) (h : l[i]? = some o) : ∀ w ∈ (l.take i).filterMap g, w.1 ≠ o := fun w hw e => by
  obtain ⟨x, hx, ex⟩ := List.mem_filterMap.mp hw
  have e2 := hg x w ex
  obtain ⟨j, hj⟩ := List.mem_iff_getElem?.mp hx
  have ji : j < i := by
    have := (List.getElem?_eq_some_iff.mp hj).1
    rw [List.length_take] at this
    omega
  rw [List.getElem?_take_of_lt ji] at hj
  obtain ⟨j1, j2⟩ := List.getElem?_eq_some_iff.mp hj
  obtain ⟨i1, i2⟩ := List.getElem?_eq_some_iff.mp h
  have := List.pairwise_iff_getElem.mp hl j i j1 i1 ji
  omega
section
variable {P : Program} {w : World} {K : PySem.W.Frag} {mg : Str → Option Value} {base : Heap}
theorem scWays : FnScope ["net", "plan", "stream", "hop", "ways", "waits", "found", "offset", "earliest", "following", "way", "wait", "later", "other"] ["net", "plan", "stream", "hop", "ways"] (defScope sWays) := ⟨rfl, rfl, rfl, by decide +kernel, rfl, by decide +kernel, by decide +kernel⟩
def spWays (K : PySem.W.Frag) (C C2 : Addr) : Sp := fun vs H Q _ => ∃ (np pl u wd : Addr) (N : NetD) (ts : List Addr) (es : List EntD) (s : StrD) (h : Nat) (W : List Way) (wts : List Addr), vs = [.ref np, .ref pl, .ref u, .int (h : Int), .ref wd] ∧ NetAt K C H np N ∧ POk N es ∧ SqL K H pl (ts.map V.ref) ∧ EntsAt K C2 H ts es ∧ StreamAt C2 H u s ∧ SOk N s ∧ h + 2 < s.path.length ∧ WyAt H wd W wts ∧ Asc W ∧ (∀ x ∈ W, x.2.length + h + 2 = s.path.length) ∧ W.length ≤ 1000 ∧
  ∀ (H' : Hp) (fd : Addr) (fts : List Addr), Same H H' → H fd = none → (∀ t ∈ fts, H t = none) → WyAt H' fd (waysB N es s h W) fts → Q (.ref fd) H'
theorem ok_ways {f C C2 fWa fPo fOf fTr fWt fTL fMe : Addr} {fd fdWa fdPo fdOf fdTr fdWt fdTL fdMe : FuncData} {k : Nat} (F : Fun K "ways_before" "ways_before" sWays f fd) (hmin : mg "min" = none) (hany : mg "any" = none) (c : NetC K C) (c2 : StrC K C2)
    (GWa : Callee P w K mg base 5 "waits_at" ["net", "plan", "port"] (spWaitsAt K C C2) fWa fdWa) (GPo : Callee P w K mg base 1 "ports_of" ["path"] (spPo K) fPo fdPo) (GOf : Callee P w K mg base 3 "offsets_at" ["plan", "stream", "hop"] (spOffs K C2) fOf fdOf) (GTr : Callee P w K mg base 2 "travel_of" ["net", "stream", "hop"] (spTravel K C C2) fTr fdTr) (GWt : Callee P w K mg base 4 "wait_of" ["net", "entry", "hop"] (spWait K C C2) fWt fdWt) (GTL : Callee P w K mg base 1 "waits_too_long" ["wait"] (spTooLong K) fTL fdTL) (GMe : Callee P w K mg base 1 "meet" ["first", "second"] (spMeet K) fMe fdMe) : FnOk P w K mg base CX0 (k + 6) f fd ["net", "plan", "stream", "hop", "ways"] (spWays K C C2) := by
  refine F.ok scWays (fun vs H Q E h => ?_) (fun cdv A0 outer s0 H vs Q E hr h => ?_)
  · obtain ⟨np, pl, u, wd, N, ts, es, s, h, W, wts, rfl, _⟩ := h
    rfl
  · obtain ⟨np, pl, u, wd, N, ts, es, s, h, W, wts, rfl, hN, po, hpl, hE, hS, so, hh, hW, asc, hlen, hW1, q⟩ := h
    have nd := scWays.nd
    have hu := hu_of hr
    have hr1 : Room 1 _ := hr.mono (by omega)
    have hr2 : Room 2 _ := hr.mono (by omega)
    have hr3 : Room 3 _ := hr.mono (by omega)
    have hr4 : Room 4 _ := hr.mono (by omega)
    have hr5 : Room 5 _ := hr.mono (by omega)
    -- ["net", "plan", "stream", "hop", "ways", "waits", "found", "offset", "earliest", "following", "way", "wait", "later", "other"]
    refine ⟨_, pss_cons (ps_set (i := 5) nd rfl (.inl rfl) (pe_call GWa.ok hr5 (by rfl) GWa.mg GWa.kp GWa.b .nil pass0 (pa_cons (pv 0) (pa_cons (pv 1) (pa_cons (pe_ix ix_list (pe_call GPo.ok hr1 (by rfl) GPo.mg GPo.kp GPo.b .nil pass0 (pa_cons (pe_fld (pv 2) rfl) pa_nil)) (pe_op op_add (pv 3) pe_int) (fun _ _ => rfl)) pa_nil))))) <| pss_cons (ps_set (i := 6) nd rfl (.inl rfl) pe_dnewK) <| pss_cons (ps_for PassesOwn.never rfl (pi_list (pe_call GOf.ok hr3 (by rfl) GOf.mg GOf.kp GOf.b .nil pass0 (pa_cons (pv 1) (pa_cons (pv 2) (pa_cons (pv 3) pa_nil))))) (pg_name (i := 7) nd rfl (.inl rfl)) (pss_cons (ps_set (i := 8) nd rfl (.inr rfl) (pe_op op_add (pe_op op_add (pv 7) (pe_call GTr.ok hr2 (by rfl) GTr.mg GTr.kp GTr.b .nil pass0 (pa_cons (pv 0) (pa_cons (pv 2) (pa_cons (pv 3) pa_nil))))) (pe_op op_mul pe_int (pe_fld (pv 0) rfl)))) <| pss_cons (ps_lock (ps_set (i := 9) nd rfl (.inl rfl) (pe_callBK (cr_minLD rfl) (by rfl) hmin rfl (pa_cons (pe_lc (own := [("later", 12)]) (g := gName 12) rfl nd (pi_keys (pv 4)) (blkOk_by (own := [("later", 12)]) (N := ["net", "plan", "stream", "hop", "ways", "waits", "found", "offset", "earliest", "following", "way", "wait", "later", "other"]) (sc := defScope sWays) (by decide +kernel)) (fun _ _ _ _ _ => pg_name (i := 12) nd rfl (Or.inl rfl)) (fun _ _ _ _ _ => pts_one (pt_cmpR op_ge (pv 12) (pv 8) (nomark _))) (fun _ _ _ _ _ => (pv 12))) pa_nil) (pk_cons pe_non pk_nil)))) <| pss_cons (ps_if (pt_cmpR op_isN (pv 9) pe_non (nomark _)) (pss_one (ps_continue)) (pss_nil)) <| pss_cons (ps_set (i := 10) nd rfl (.inl rfl) (pe_op op_cat (pe_lst (pa_cons (pv 7) pa_nil)) (pe_dget hu (pv 4) (pv 9) (fun _ _ => rfl)))) <| pss_cons (ps_set (i := 11) nd rfl (.inr rfl) (pe_call GWt.ok hr4 (by rfl) GWt.mg GWt.kp GWt.b .nil pass0 (pa_cons (pv 0) (pa_cons (pe_tup (pa_cons (pv 2) (pa_cons (pe_op op_cat (pe_op op_rep (pe_lst (pa_cons pe_int pa_nil)) (pv 3)) (pv 10)) pa_nil))) (pa_cons (pe_op op_add (pv 3) pe_int) pa_nil))))) <| pss_one (ps_if (PW.pt (pw_and (pt_not (pt_val (pe_call GTL.ok hr1 (by rfl) GTL.mg GTL.kp GTL.b .nil pass0 (pa_cons (pv 11) pa_nil)))) (pw_and1 (pt_not (pt_val (pe_callB (cr_any rfl) (by rfl) hany (by decide +kernel) (pa_cons (pe_lc (own := [("other", 13)]) (g := gName 13) (tt := tYes) rfl nd (pi_list (pv 5)) (blkOk_by (own := [("other", 13)]) (N := ["net", "plan", "stream", "hop", "ways", "waits", "found", "offset", "earliest", "following", "way", "wait", "later", "other"]) (sc := defScope sWays) (by decide +kernel)) (fun _ _ _ _ _ => pg_name (i := 13) nd rfl (Or.inl rfl)) (fun _ _ _ _ _ => pts_nil) (fun _ _ _ _ _ => (pe_call GMe.ok hr1 (by rfl) GMe.mg GMe.kp GMe.b .nil pass0 (pa_cons (pv 11) (pa_cons (pv 13) pa_nil))))) pa_nil))))))) (pss_one (ps_dput hu (pv 6) (pv 7) (pv 10) rfl)) (pss_nil)))) <| pss_one (ps_ret (pv 6)), ?_⟩
    obtain ⟨dxs, lp, e1, e2⟩ := id hS
    have lwt : wts.length = W.length := hW.l.length
    -- waits
    refine ⟨_, rfl, _, rfl, _, rfl, u, C2, dxs, _, _, rfl, e1, c2.cl, c2.n4, sg4, lp, s.path, rfl, e2, fun H1 y ys s1 ny hy hP => ?_⟩
    have lys : ys.length = (portsOf s.path).length := hP.length
    have eport := ports_at (r := s.path) (k := h + 1) hh
    obtain ⟨tq, etq⟩ : ∃ t, ys[h + 1]? = some t := ⟨_, List.getElem?_eq_getElem (by rw [lys]; exact (List.getElem?_eq_some_iff.mp eport).1)⟩
    obtain ⟨p', ep', hT⟩ := Paired.at hP etq
    rw [eport] at ep'
    cases Option.some.inj ep'
    have aty : atI (ys.map V.ref) ((h : Int) + 1) = some (V.ref tq) := by
      rw [show (h : Int) + 1 = ((h + 1 : Nat) : Int) by omega]
      exact atI_nat (by rw [List.getElem?_map, etq]; rfl)
    refine ⟨_, rfl, _, _, rfl, rfl, y, _, _, V.ref tq, rfl, rfl, SqL.of hy, aty, np, pl, tq, N, ts, es, _, rfl, hN.same s1, po.d, s1.seq hpl, hE.same s1, hT, po.ok, fun e he j hj p => sw_port (po.ok e he) so.po hh hj p, po.len, fun H2 wl us s2 nwl hwl hWl => ?_⟩
    have S2 := s1.trans s2
    -- found
    refine fun fA nfd => ?_
    have sf := same_new (o := .dK []) nfd
    have hf := upd_same (H := H2) (a := fA) (o := .dK [])
    revert sf hf
    generalize upd H2 fA (.dK []) = H3
    intro sf hf
    have S3 := S2.trans sf
    refine ⟨_, rfl, _, rfl, _, rfl, pl, u, ts, es, s, h, rfl, S3.seq hpl, hE.same S3, hS.same S3, fun e he => ?_, po.len, by have := so.l0; omega, by have := so.p0; omega, ⟨so.d0, so.d1⟩, by omega, fun H4 ol s4 nol hol => ?_⟩
    · have eo := po.ok e he
      exact ⟨eo.po.is.nd, eo.len, by have := eo.l0; omega, by have := eo.p0; omega⟩
    have hf4 := s4 _ _ hf
    have S4 := S3.trans s4
    have olen : (offsL es s h).length ≤ 1000 := by
      have := offs_len (es := es) (s := s) (h := h)
      have := so.d1
      omega
    have eport2 : waitsAt N es (s.path.getD (h + 1) 0, s.path.getD (h + 1 + 1) 0) = waitsAt N es (s.path.getD (h + 1) 0, s.path.getD (h + 2) 0) := rfl
    rw [eport2] at hWl
    refine ⟨ol, rfl, ⟨_, SqL.of hol⟩, for_list (K := K) (a := ol) (xs := (offsL es s h).map V.int) (fun i σ H' => ∃ (v7 v8 v9 v10 v11 : Option V) (fts : List Addr), σ = [some (.ref np), some (.ref pl), some (.ref u), some (.int (h : Int)), some (.ref wd), some (.ref wl), some (.ref fA), v7, v8, v9, v10, v11, none, none] ∧ But fA H4 H' ∧ (∀ t ∈ fts, H t = none) ∧ WyAt H' fA (((offsL es s h).take i).filterMap (stepW N es s h W)) fts) ⟨none, none, none, none, none, [], rfl, fun _ _ z _ => z, fun t ht => absurd ht List.not_mem_nil, ⟨hf4, .nil⟩⟩ (fun i σ H' _ ⟨_, _, _, _, _, _, _, b, _⟩ => SqL.of (b _ _ hol (ne_of hol hf4 (by intro y; cases y)))) ?_ ?_⟩
    · rintro i x σ H5 hi ⟨v7, v8, v9, v10, v11, fts, rfl, b5, fre, hF⟩
      obtain ⟨o, eo, rfl⟩ := ints_at hi
      have ob := offs_bd o (List.mem_of_getElem? eo)
      -- what stood before found was made
      have S5 : Same H H5 := fun b v z => b5 _ _ (S4 _ _ z) (fun y => by
        rw [y] at z
        have z2 := S2 _ _ z
        rw [nfd] at z2
        cases z2)
      have s25 : Same H2 H5 := fun b v z => b5 _ _ (s4 _ _ (sf _ _ z)) (ne_of_none z nfd)
      obtain ⟨dxn, lkn, lln, ldn, ltsn, n1, n2, n3, n4, n5⟩ := id hN
      refine ⟨_, rfl, _, rfl, _, rfl, _, rfl, np, u, N, s, h, rfl, hN.same S5, po.d, hS.same S5, so.po, by omega, fun H6 s6 => ?_⟩
      have S6 := S5.trans s6
      refine ⟨_, _, rfl, rfl, _, rfl, np, C, dxn, _, _, rfl, S6 _ _ n1, c.cl, c.n4, g4, _, _, rfl, rfl, .inl ⟨by decide, by decide⟩, _, _, rfl, rfl, ?_⟩
      have hwd6 := S6 _ _ hW.d
      dsimp only [gName, tSeq]
      obtain ⟨ea, eea⟩ : ∃ ea : Int, o + travel N s h + 2 * N.er = ea := ⟨_, rfl⟩
      rw [eea]
      have stp : (offsL es s h).take (i + 1) = (offsL es s h).take i ++ [o] := take_snoc eo
      have key : ∀ (H' : Hp) (σ : L2.St) (fts' : List Addr), True := fun _ _ _ => True.intro
      refine ⟨wd, .dK (wKv W wts), hwd6, True.intro, fun od => ?_⟩
      have b7 : But wd H6 (upd H6 wd (.frz od (.dK (wKv W wts)))) := but_self
      have hw7 := upd_same (H := H6) (a := wd) (o := .frz od (.dK (wKv W wts)))
      revert b7 hw7
      generalize upd H6 wd (.frz od (.dK (wKv W wts))) = H7
      intro b7 hw7
      refine ⟨_, rfl, wd, od, rfl, .inl ⟨_, hw7, fun D nD => ?_⟩⟩
      refine lc_keysI (is := W.map (·.1)) (wKv_keys lwt) (fun j H' => Same H7 H' ∧ H' D = some (.lst ((((W.map (·.1)).take j).filter fun x => decide (ea ≤ x)).map V.int))) ⟨same_new nD, upd_same⟩ (fun j H' _ z => z.1 _ _ hw7) ?_ ?_
      · rintro j n H8 hj ⟨sm, hD⟩
        refine ⟨rfl, ?_⟩
        have jl : j < W.length := by
          have := (List.getElem?_eq_some_iff.mp hj).1
          rw [List.length_map] at this
          exact this
        refine ⟨_, rfl, _, rfl, _, _, rfl, rfl, _, rfl, ite2 (fun z => ?_) (fun z => ?_)⟩
        · have lz : ((((W.map (·.1)).take j).filter fun x => decide (ea ≤ x)).map V.int).length < sizeLine := by
            refine szl ?_
            have h1 := List.length_filter_le (fun x => decide (ea ≤ x)) ((W.map (·.1)).take j)
            have h2 : ((W.map (·.1)).take j).length ≤ j := by
              rw [List.length_take]
              exact Nat.min_le_left _ _
            rw [List.length_map]
            omega
          refine ⟨_, rfl, _, hD, lz, same_but sm nD but_self, ?_⟩
          rw [upd_same, take_snoc hj, List.filter_append, List.filter_cons, if_pos z, List.map_append]
          rfl
        · refine ⟨sm, ?_⟩
          rw [take_snoc hj, List.filter_append, List.filter_cons, if_neg z]
          exact hD.trans (by rw [show ([] : List Int).filter (fun x => decide (ea ≤ x)) = [] from rfl, List.append_nil])
      rintro H8 ⟨s8, hD8⟩
      rw [List.take_length] at hD8
      have hw8 := s8 _ _ hw7
      have S69 : Same H6 (upd H8 wd (.dK (wKv W wts))) := fun b v z => by
        by_cases e : b = wd
        · rw [e] at z ⊢
          rw [upd_same, ← hwd6]
          exact z
        · rw [upd_ne e]
          exact s8 _ _ (b7 _ _ z e)
      revert S69
      generalize hH9 : upd H8 wd (.dK (wKv W wts)) = H9
      intro S69
      have S9 := S6.trans S69
      have b9 : But fA H4 H9 := fun b v z n => S69 _ _ (s6 _ _ (b5 _ _ z n))
      have hf9 := S69 _ _ (s6 _ _ hF.d)
      have hF9 : WyAt H9 fA (((offsL es s h).take i).filterMap (stepW N es s h W)) fts := ⟨hf9, Paired.imp hF.l fun t w z => S69 _ _ (s6 _ _ z)⟩
      have hN9 := hN.same S9
      have hS9 := hS.same S9
      have hwd9 := S9 _ _ hW.d
      have s29 : Same H2 H9 := s25.trans (s6.trans S69)
      refine ⟨D, _, .non, rfl, rfl, SqL.of hD8, fun hnil => ?_, fun _ m hm hl => ?_⟩
      · refine ⟨hw8, ?_⟩
        rw [hH9]
        have st : stepW N es s h W o = none := by
          unfold stepW
          rw [eea, find_none hnil]
        refine ⟨_, rfl, rfl, _, rfl, ite2 (fun _ => ?_) (fun z => absurd (decide_eq_true rfl) z)⟩
        refine ⟨_, _, _, _, _, fts, rfl, b9, fre, ?_⟩
        rw [stp, List.filterMap_append, List.filterMap_cons, st]
        show WyAt H9 fA (_ ++ List.filterMap (stepW N es s h W) []) fts
        rw [List.filterMap_nil, List.append_nil]
        exact hF9
      · refine ⟨hw8, ?_⟩
        rw [hH9]
        obtain ⟨w, j, hfind, ewm, hj⟩ := min_find asc rfl hm hl
        obtain ⟨tw, etw⟩ : ∃ t, wts[j]? = some t := ⟨_, List.getElem?_eq_getElem (by rw [lwt]; exact (List.getElem?_eq_some_iff.mp hj).1)⟩
        obtain ⟨w', ew', htw⟩ := Paired.at hW.l etw
        rw [hj] at ew'
        cases Option.some.inj ew'
        have hget : valV (wKv W wts) (.inl m) = some (.ref tw) := by
          rw [← ewm]
          exact wKv_get asc hj etw
        have wl2 := hlen w (List.mem_of_getElem? hj)
        have p10 := so.po.le
        refine ⟨_, rfl, rfl, _, rfl, ite2 (fun z => absurd (of_decide_eq_true z) (by intro y; cases y)) (fun _ => ?_)⟩
        dsimp only [tNext, tSeq]
        -- way
        refine ⟨_, rfl, by show 1 ≤ sizeLine; decide, fun l1 nl1 => ?_⟩
        have sl1 := same_new (o := .lst [V.int o]) nl1
        have hl1 := upd_same (H := H9) (a := l1) (o := .lst [V.int o])
        revert sl1 hl1
        generalize upd H9 l1 (.lst [V.int o]) = Ha
        intro sl1 hl1
        have dg : DGet Ha wd (.int m) (some (.ref tw)) := by
          have := DGet.k (k := .inl m) (sl1 _ _ hwd9)
          rw [hget] at this
          exact this
        have lcd : [V.int o].length + (w.2.map V.int).length ≤ sizeLine := by
          refine Nat.le_of_lt (szl ?_)
          rw [List.length_map]
          show 1 + w.2.length < _
          omega
        refine ⟨_, rfl, _, rfl, wd, .ref tw, rfl, dg, l1, tw, [V.int o], w.2.map V.int, rfl, rfl, hl1, sl1 _ _ (S9 _ _ htw), lcd, fun l2 nl2 => ?_⟩
        have sl2 := same_new (o := .lst ([V.int o] ++ w.2.map V.int)) nl2
        have hl2 : (upd Ha l2 (.lst ([V.int o] ++ w.2.map V.int))) l2 = some (.lst ((o :: w.2).map V.int)) := upd_same
        revert sl2 hl2
        generalize upd Ha l2 (.lst ([V.int o] ++ w.2.map V.int)) = Hb
        intro sl2 hl2
        have s9b := sl1.trans sl2
        -- wait
        refine ⟨_, rfl, _, rfl, by show 1 ≤ sizeLine; decide, fun l3 nl3 => ?_⟩
        have sl3 := same_new (o := .lst [V.int 0]) nl3
        refine ⟨_, rfl, l3, (h : Int), [V.int 0], rfl, rfl, upd_same, by omega, by omega, (by show 1 * (h : Int).toNat ≤ sizeLine; rw [Nat.one_mul, Int.toNat_natCast]; exact Nat.le_of_lt (szl (by omega))), fun l4 nl4 => ?_⟩
        rw [Int.toNat_natCast, rep_ints]
        have sl4 := same_new (o := .lst ((List.replicate h (0 : Int)).map V.int)) nl4
        have s34 := sl3.trans sl4
        have hl4 := upd_same (H := upd Hb l3 (.lst [V.int 0])) (a := l4) (o := .lst ((List.replicate h (0 : Int)).map V.int))
        revert s34 hl4
        generalize upd (upd Hb l3 (.lst [V.int 0])) l4 (.lst ((List.replicate h (0 : Int)).map V.int)) = Hc
        intro s34 hl4
        have lcd2 : ((List.replicate h (0 : Int)).map V.int).length + ((o :: w.2).map V.int).length ≤ sizeLine := by
          refine Nat.le_of_lt (szl ?_)
          rw [List.length_map, List.length_map, List.length_replicate]
          show h + (w.2.length + 1) < _
          omega
        refine ⟨_, rfl, l4, l2, _, _, rfl, rfl, hl4, s34 _ _ hl2, lcd2, fun l5 nl5 => ?_⟩
        rw [← List.map_append]
        have sl5 := same_new (o := .lst ((List.replicate h 0 ++ o :: w.2).map V.int)) nl5
        have hl5 := upd_same (H := Hc) (a := l5) (o := .lst ((List.replicate h 0 ++ o :: w.2).map V.int))
        revert sl5 hl5
        generalize upd Hc l5 (.lst ((List.replicate h 0 ++ o :: w.2).map V.int)) = Hd
        intro sl5 hl5
        refine ⟨by show 2 ≤ sizeLine; decide, fun tt ntt => ?_⟩
        have stt := same_new (o := .tup [V.ref u, V.ref l5]) ntt
        have htt := upd_same (H := Hd) (a := tt) (o := .tup [V.ref u, V.ref l5])
        revert stt htt
        generalize upd Hd tt (.tup [V.ref u, V.ref l5]) = He
        intro stt htt
        have sbe := s34.trans (sl5.trans stt)
        have s9e := s9b.trans sbe
        have osl : (List.replicate h (0 : Int) ++ o :: w.2).length = h + (w.2.length + 1) := by
          rw [List.length_append, List.length_replicate]
          rfl
        refine ⟨_, rfl, _, _, rfl, rfl, np, tt, N, ⟨s, List.replicate h 0 ++ o :: w.2⟩, h + 1, congrArg (fun z => [V.ref np, V.ref tt, V.int z]) (by omega : ((h : Int) + 1) = ((h + 1 : Nat) : Int)), hN9.same s9e, po.d, ⟨u, l5, SqT.of htt, hS9.same s9e, SqL.of (stt _ _ hl5)⟩, so.eok (by rw [osl]; omega), by omega, by show h + 1 < (List.replicate h (0 : Int) ++ o :: w.2).length; rw [osl]; omega, fun Hf wt sft nwt hwt => ?_⟩
        have s9f := s9e.trans sft
        obtain ⟨wv, ewv⟩ : ∃ wv : Win, wtOf N ⟨s, List.replicate h 0 ++ o :: w.2⟩ (h + 1) = wv := ⟨_, rfl⟩
        have wvp : WP wv := by
          have h1 := wtOf_l (N := N) (e := ⟨s, List.replicate h 0 ++ o :: w.2⟩) (h + 1)
          rw [ewv] at h1
          have h2 : wv.2.2 = s.pe := by rw [← ewv]; rfl
          have := so.p0
          exact ⟨by omega, by omega⟩
        rw [ewv] at hwt
        have stw : stepW N es s h W o = if (decide (wv.2.1 > wv.2.2) || (waitsAt N es (s.path.getD (h + 1) 0, s.path.getD (h + 2) 0)).any (meetB wv)) = true then none else some (o, o :: w.2) := by
          unfold stepW
          rw [eea, hfind]
          show (if (decide ((wtOf N ⟨s, List.replicate h 0 ++ (o :: w.2)⟩ (h + 1)).2.1 > (wtOf N ⟨s, List.replicate h 0 ++ (o :: w.2)⟩ (h + 1)).2.2) || _) = true then none else _) = _
          rw [ewv]
        have lus : us.length = (waitsAt N es (s.path.getD (h + 1) 0, s.path.getD (h + 2) 0)).length := hWl.length
        have lus2 : us.length ≤ 1000 := by
          rw [lus]
          exact Nat.le_trans (waits_len po.ok) po.len
        have s2f := s29.trans s9f
        have hwlf := s2f _ _ hwl
        have hWlf := hWl.same s2f
        have wpp := waits_wp (p := (s.path.getD (h + 1) 0, s.path.getD (h + 2) 0)) po.ok
        dsimp only [gName, tSeq]
        refine and_read2 (a := !decide (wv.2.1 > wv.2.2)) (b := !(waitsAt N es (s.path.getD (h + 1) 0, s.path.getD (h + 2) 0)).any (meetB wv)) (fun Q hq => ?_) (fun _ Hg sg Q hq => ?_) (fun Hg sg => ?_)
        · exact ⟨_, rfl, wt, wv, rfl, SqT.of hwt, _, rfl, hq _ (Same.refl _)⟩
        · have hwlg := sg _ _ hwlf
          have hWlg := hWlf.same sg
          refine ⟨_, rfl, wl, rfl, ⟨_, SqL.of hwlg⟩, fun D2 nD2 => ?_⟩
          refine lc_list (K := K) (a := wl) (xs := us.map V.ref) (fun j H' => Same Hg H' ∧ H' D2 = some (.lst ((((waitsAt N es (s.path.getD (h + 1) 0, s.path.getD (h + 2) 0)).take j).map (meetB wv)).map V.bl))) ⟨same_new nD2, upd_same⟩ (fun j H' _ z => SqL.of (z.1 _ _ hwlg)) ?_ ?_
          · rintro j v H5' hj' ⟨sm5, hD5⟩
            obtain ⟨t, et, rfl⟩ := refs_at hj'
            obtain ⟨w2, ew2, hTw⟩ := Paired.at hWlg et
            have jl := (List.getElem?_eq_some_iff.mp et).1
            refine ⟨rfl, _, rfl, _, rfl, wt, t, wv, w2, rfl, SqT.of (sm5 _ _ (sg _ _ hwt)), same_tup sm5 hTw, wvp, wpp w2 (List.mem_of_getElem? ew2), ?_⟩
            refine ⟨_, hD5, szl (by rw [List.length_map, List.length_map, List.length_take]; omega), same_but sm5 nD2 but_self, ?_⟩
            rw [upd_same, take_snoc ew2, List.map_append, List.map_append]
            rfl
          rintro Hh ⟨sh, hDh⟩
          rw [List.length_map, lus, List.take_length] at hDh
          refine ⟨D2, _, rfl, SqL.of hDh, _, rfl, ?_⟩
          rw [List.any_map]
          exact hq _ sh
        · have s9g := s9f.trans sg
          have bg : But fA H4 Hg := fun b v z n => s9g _ _ (b9 _ _ z n)
          have hFg : WyAt Hg fA (((offsL es s h).take i).filterMap (stepW N es s h W)) fts := ⟨s9g _ _ hf9, Paired.imp hF9.l fun t w z => s9g _ _ z⟩
          have hl2g : Hg l2 = some (.lst ((o :: w.2).map V.int)) := sg _ _ (sft _ _ (sbe _ _ hl2))
          have lfts : fts.length = (((offsL es s h).take i).filterMap (stepW N es s h W)).length := hF.l.length
          have nk := keys_new (fun o w e => step_fst (N := N) (es := es) (s := s) (h := h) (W := W) e) (offs_asc es s h) eo
          refine ite2 (fun z => ?_) (fun z => ?_)
          · obtain ⟨z1, z2⟩ := (Bool.and_eq_true _ _).mp z
            have st : stepW N es s h W o = some (o, o :: w.2) := by
              rw [stw, if_neg]
              intro y
              rcases (Bool.or_eq_true _ _).mp y with y | y
              · rw [y] at z1; cases z1
              · rw [y] at z2; cases z2
            have ll : (wKv (((offsL es s h).take i).filterMap (stepW N es s h W)) fts).length < sizeLine := by
              refine szl ?_
              have h1 : (wKv (((offsL es s h).take i).filterMap (stepW N es s h W)) fts).length = (((offsL es s h).take i).filterMap (stepW N es s h W)).length := by
                have := congrArg List.length (wKv_keys lfts)
                rw [List.length_map, List.length_map, List.length_map] at this
                exact this
              have h2 := List.length_filterMap_le (stepW N es s h W) ((offsL es s h).take i)
              have h3 : ((offsL es s h).take i).length ≤ (offsL es s h).length := by
                rw [List.length_take]
                exact Nat.min_le_right _ _
              omega
            refine ⟨_, rfl, _, rfl, _, rfl, fA, _, rfl, DPut.k (k := .inl o) (v := .ref l2) hFg.d ll, ?_⟩
            have nf : ∀ b ys, Hg b = some (.lst ys) → b ≠ fA := fun b ys z => ne_of z hFg.d (by intro y; cases y)
            refine ⟨_, _, _, _, _, fts ++ [l2], rfl, fun b v z n => by rw [upd_ne n]; exact bg _ _ z n, fun t ht => (List.mem_append.mp ht).elim (fre t) fun ht => by rw [List.mem_singleton.mp ht]; exact (S9.trans sl1).free nl2, ⟨?_, ?_⟩⟩
            · rw [upd_same, stp, List.filterMap_append, List.filterMap_cons, st, wKv_put (l := o :: w.2) lfts nk]
              rfl
            · rw [stp, List.filterMap_append, List.filterMap_cons, st]
              refine Paired.snoc (F := fun (t : Addr) (w : Way) => (upd Hg fA _) t = some (.lst (w.2.map V.int))) ?_ (Paired.imp hFg.l fun t w z => by rw [upd_ne (nf _ _ z)]; exact z)
              rw [upd_ne (nf _ _ hl2g)]
              exact hl2g
          · have st : stepW N es s h W o = none := by
              rw [stw, if_pos]
              cases c1 : decide (wv.2.1 > wv.2.2) with
              | true => rfl
              | false =>
                cases c2 : (waitsAt N es (s.path.getD (h + 1) 0, s.path.getD (h + 2) 0)).any (meetB wv) with
                | true => rfl
                | false =>
                  rw [c1, c2] at z
                  exact absurd rfl z
            refine ⟨_, _, _, _, _, fts, rfl, bg, fre, ?_⟩
            rw [stp, List.filterMap_append, List.filterMap_cons, st]
            show WyAt Hg fA (_ ++ List.filterMap (stepW N es s h W) []) fts
            rw [List.filterMap_nil, List.append_nil]
            exact hFg
    · rintro σ H5 ⟨v7, v8, v9, v10, v11, fts, rfl, b5, fre, hF⟩
      rw [List.length_map, List.take_length] at hF
      have S5 : Same H H5 := fun b v z => b5 _ _ (S4 _ _ z) (fun y => by
        rw [y] at z
        have z2 := S2 _ _ z
        rw [nfd] at z2
        cases z2)
      exact ⟨_, rfl, q H5 fA fts S5 (S2.free nfd) fre hF⟩
end
end My
namespace My
open PySem PySem.Spec PyProof.Rows L2
abbrev sAdmit : Stmt := top 16 /-admit-/
def okLast (N : NetD) (s : StrD) (l : Nat) (o : Int) : Bool := decide (o ≤ s.dl - N.er - travel N s l)
def ways0 (N : NetD) (es : List EntD) (s : StrD) (l : Nat) : List Way := ((offsL es s l).filter (okLast N s l)).map fun o => (o, [o])
def wK (N : NetD) (es : List EntD) (s : StrD) (l : Nat) : Nat → List Way
  | 0 => ways0 N es s l
  | k + 1 => waysB N es s (l - (k + 1)) (wK N es s l k)
/-- what admit returns -/
def admitD (N : NetD) (es : List EntD) (s : StrD) : Option (List Int) := (wK N es s (s.path.length - 2) (s.path.length - 2)).head?.map (·.2)
theorem ways0_asc (N : NetD) (es : List EntD) (s : StrD) (l : Nat) : Asc (ways0 N es s l) := by
  unfold Asc ways0
  rw [List.map_map]
  show (List.map (fun o => o) _).Pairwise _
  rw [List.map_id']
  exact (offs_asc es s l).filter _
theorem wK_asc (N : NetD) (es : List EntD) (s : StrD) (l : Nat) : ∀ k, Asc (wK N es s l k)
  | 0 => ways0_asc N es s l
  | k + 1 => waysB_asc N es s _ _
theorem wK_few {N : NetD} {es : List EntD} {s : StrD} (hd : s.dl ≤ 1000) (l : Nat) : ∀ k, (wK N es s l k).length ≤ 1000
  | 0 => by
    show (((offsL es s l).filter (okLast N s l)).map fun o => ((o, [o]) : Way)).length ≤ 1000
    have h1 := List.length_filter_le (okLast N s l) (offsL es s l)
    have h2 := offs_len (es := es) (s := s) (h := l)
    rw [List.length_map]
    omega
  | k + 1 => by
    show ((offsL es s (l - (k + 1))).filterMap _).length ≤ 1000
    have h1 := List.length_filterMap_le (stepW N es s (l - (k + 1)) (wK N es s l k)) (offsL es s (l - (k + 1)))
    have h2 := offs_len (es := es) (s := s) (h := l - (k + 1))
    omega
theorem step_len {N : NetD} {es : List EntD} {s : StrD} {h : Nat} {W : List Way} {o : Int} {w : Way} {m : Nat} (hW : ∀ x ∈ W, x.2.length = m) (e : stepW N es s h W o = some w) : w.2.length = m + 1 := by
  unfold stepW at e
  split at e
  · cases e
  · rename_i x hx
    split at e
    · cases e
    · cases e
      show x.2.length + 1 = m + 1
      rw [hW x (List.mem_of_find?_eq_some hx)]
theorem wK_len {N : NetD} {es : List EntD} {s : StrD} {l : Nat} : ∀ k, ∀ x ∈ wK N es s l k, x.2.length = k + 1
  | 0, x, hx => by
    obtain ⟨o, _, rfl⟩ := List.mem_map.mp hx
    rfl
  | k + 1, x, hx => by
    obtain ⟨o, _, e⟩ := List.mem_filterMap.mp hx
    exact step_len (wK_len k) e
section
variable {P : Program} {w : World} {K : PySem.W.Frag} {mg : Str → Option Value} {base : Heap}
theorem scAdmit : FnScope ["net", "plan", "stream", "hop", "latest", "ways", "offset"] ["net", "plan", "stream"] (defScope sAdmit) := ⟨rfl, rfl, rfl, by decide +kernel, rfl, by decide +kernel, by decide +kernel⟩
def spAdmit (K : PySem.W.Frag) (C C2 : Addr) : Sp := fun vs H Q _ => ∃ (np pl u : Addr) (N : NetD) (ts : List Addr) (es : List EntD) (s : StrD), vs = [.ref np, .ref pl, .ref u] ∧ NetAt K C H np N ∧ POk N es ∧ SqL K H pl (ts.map V.ref) ∧ EntsAt K C2 H ts es ∧ StreamAt C2 H u s ∧ SOk N s ∧
  (admitD N es s = none → ∀ H', Same H H' → Q .non H') ∧ (∀ l, admitD N es s = some l → ∀ (H' : Hp) (r : Addr), Same H H' → H r = none → H' r = some (.lst (l.map V.int)) → Q (.ref r) H')
theorem ok_admit {f C C2 fOf fTr fWy : Addr} {fd fdOf fdTr fdWy : FuncData} {k : Nat} (F : Fun K "admit" "admit" sAdmit f fd) (hmin : mg "min" = none) (hlen : mg "len" = none) (c : NetC K C) (c2 : StrC K C2)
    (GOf : Callee P w K mg base 3 "offsets_at" ["plan", "stream", "hop"] (spOffs K C2) fOf fdOf) (GTr : Callee P w K mg base 2 "travel_of" ["net", "stream", "hop"] (spTravel K C C2) fTr fdTr) (GWy : Callee P w K mg base 6 "ways_before" ["net", "plan", "stream", "hop", "ways"] (spWays K C C2) fWy fdWy) : FnOk P w K mg base CX0 (k + 7) f fd ["net", "plan", "stream"] (spAdmit K C C2) := by
  refine F.ok scAdmit (fun vs H Q E h => ?_) (fun cdv A0 outer s0 H vs Q E hr h => ?_)
  · obtain ⟨np, pl, u, N, ts, es, s, rfl, _⟩ := h
    rfl
  · obtain ⟨np, pl, u, N, ts, es, s, rfl, hN, po, hpl, hE, hS, so, q0, q1⟩ := h
    have nd := scAdmit.nd
    have hu := hu_of hr
    have hr2 : Room 2 _ := hr.mono (by omega)
    have hr3 : Room 3 _ := hr.mono (by omega)
    have hr6 : Room 6 _ := hr.mono (by omega)
    -- ["net", "plan", "stream", "hop", "latest", "ways", "offset"]
    refine ⟨_, pss_cons (ps_set (i := 3) nd rfl (.inl rfl) (pe_op op_sub (pe_callB call_len_seq (by rfl) hlen PySem.boot_len (pa_cons (pe_fld (pv 2) rfl) pa_nil)) pe_int)) <| pss_cons (ps_set (i := 4) nd rfl (.inr rfl) (pe_op op_sub (pe_op op_sub (pe_fld (pv 2) rfl) (pe_fld (pv 0) rfl)) (pe_call GTr.ok hr2 (by rfl) GTr.mg GTr.kp GTr.b .nil pass0 (pa_cons (pv 0) (pa_cons (pv 2) (pa_cons (pv 3) pa_nil)))))) <| pss_cons (ps_setDcI (i := 5) (own := [("offset", 6)]) (g := gName 6) rfl nd rfl rfl (sw_trueD rfl rfl rfl (by decide +kernel)) (pi_list (pe_call GOf.ok hr3 (by rfl) GOf.mg GOf.kp GOf.b .nil pass0 (pa_cons (pv 1) (pa_cons (pv 2) (pa_cons (pv 3) pa_nil))))) (blkOk_by (own := [("offset", 6)]) (N := ["net", "plan", "stream", "hop", "latest", "ways", "offset"]) (sc := defScope sAdmit) (by decide +kernel)) (fun _ _ _ _ _ => pg_name (i := 6) nd rfl (Or.inl rfl)) (fun _ _ _ _ _ => pts_one (pt_cmpR op_le (pv 6) (pv 4) (nomark _))) (fun _ _ _ _ _ => (pv 6)) (fun _ _ _ _ _ => (pe_lst (pa_cons (pv 6) pa_nil)))) <| pss_cons (ps_while PassesOwn.never (pt_cmpR op_gt (pv 3) pe_int (nomark _)) (pss_cons (ps_aug (i := 3) nd rfl (.inl rfl) pe_int ip_sub) <| pss_one (ps_set (i := 5) nd rfl (.inl rfl) (pe_call GWy.ok hr6 (by rfl) GWy.mg GWy.kp GWy.b .nil pass0 (pa_cons (pv 0) (pa_cons (pv 1) (pa_cons (pv 2) (pa_cons (pv 3) (pa_cons (pv 5) pa_nil))))))))) <| pss_one (ps_ret (pe_ifExp (pt_truth (pv 5) (by intro _; rfl)) (pe_dget hu (pv 5) (pe_callB (cr_minK rfl) (by rfl) hmin rfl (pa_cons (pv 5) pa_nil)) (fun _ _ => rfl)) pe_non)), ?_⟩
    obtain ⟨dxs, lp, e1, e2⟩ := id hS
    obtain ⟨dxn, lkn, lln, ldn, ltsn, n1, n2, n3, n4, n5⟩ := id hN
    have two := so.po.is.two
    have ten := so.po.le
    -- hop
    refine ⟨_, rfl, u, C2, dxs, _, _, rfl, e1, c2.cl, c2.n4, sg4, lp, _, rfl, .inl (SqL.of e2), _, _, rfl, rfl, ?_⟩
    obtain ⟨l, el⟩ : ∃ l : Nat, (((natsV s.path).length : Nat) : Int) - 2 = (l : Int) := ⟨s.path.length - 2, by rw [natsV_len]; omega⟩
    have el2 : l = s.path.length - 2 := by rw [natsV_len] at el; omega
    dsimp only [gName, tSeq]
    rw [el]
    -- latest
    refine ⟨_, rfl, u, C2, dxs, _, _, rfl, e1, c2.cl, c2.n3, sg3, _, rfl, np, C, dxn, _, _, rfl, n1, c.cl, c.n4, g4, _, _, rfl, rfl, _, rfl, _, rfl, _, rfl, np, u, N, s, l, rfl, hN, po.d, hS, so.po, by omega, fun H1 s1 => ⟨_, _, rfl, rfl, ?_⟩⟩
    -- ways
    refine ⟨_, rfl, _, rfl, _, rfl, pl, u, ts, es, s, l, rfl, s1.seq hpl, hE.same s1, hS.same s1, fun e he => ?_, po.len, by have := so.l0; omega, by have := so.p0; omega, ⟨so.d0, so.d1⟩, by omega, fun H2 ol s2 nol hol => ?_⟩
    · have eo := po.ok e he
      exact ⟨eo.po.is.nd, eo.len, by have := eo.l0; omega, by have := eo.p0; omega⟩
    have S2 := s1.trans s2
    have olen : (offsL es s l).length ≤ 1000 := by
      have := offs_len (es := es) (s := s) (h := l)
      have := so.d1
      omega
    refine ⟨ol, rfl, ⟨_, SqL.of hol⟩, fun D nD => ?_⟩
    have asc0 := offs_asc es s l
    refine dc_listK (K := K) (a := ol) (xs := (offsL es s l).map V.int) (fun i H' => Same H2 H' ∧ ∃ fts : List Addr, (∀ t ∈ fts, H t = none) ∧ WyAt H' D ((((offsL es s l).take i).filter (okLast N s l)).map fun o => (o, [o])) fts) ⟨same_new nD, [], fun t ht => absurd ht List.not_mem_nil, ⟨upd_same, .nil⟩⟩ (fun i H' _ z => SqL.of (z.1 _ _ hol)) ?_ ?_
    · rintro i x H' hi ⟨sm, fts, fre, hW⟩
      obtain ⟨o, eo, rfl⟩ := ints_at hi
      have stp : (offsL es s l).take (i + 1) = (offsL es s l).take i ++ [o] := take_snoc eo
      refine ⟨rfl, ?_⟩
      refine ⟨_, rfl, _, rfl, _, _, rfl, rfl, _, rfl, ite2 (fun z => ?_) (fun z => ?_)⟩
      · have z : okLast N s l o = true := z
        have lfts : fts.length = ((((offsL es s l).take i).filter (okLast N s l)).map fun o => ((o, [o]) : Way)).length := hW.l.length
        have ll : (wKv ((((offsL es s l).take i).filter (okLast N s l)).map fun o => ((o, [o]) : Way)) fts).length < sizeLine := by
          refine szl ?_
          have h1 := congrArg List.length (wKv_keys lfts)
          rw [List.length_map, List.length_map, List.length_map, List.length_map] at h1
          have h2 := List.length_filter_le (okLast N s l) ((offsL es s l).take i)
          have h3 : ((offsL es s l).take i).length ≤ (offsL es s l).length := by
            rw [List.length_take]
            exact Nat.min_le_right _ _
          omega
        have nk : ∀ w ∈ (((offsL es s l).take i).filter (okLast N s l)).map (fun o => ((o, [o]) : Way)), w.1 ≠ o := by
          have := keys_new (g := fun o => if okLast N s l o = true then some (o, [o]) else none) (fun o w e => by
            split at e
            · cases e; rfl
            · cases e) asc0 eo
          intro w hw
          obtain ⟨x, hx, rfl⟩ := List.mem_map.mp hw
          obtain ⟨x1, x2⟩ := List.mem_filter.mp hx
          exact this (x, [x]) (List.mem_filterMap.mpr ⟨x, x1, by rw [if_pos x2]⟩)
        refine ⟨_, rfl, _, rfl, by show 1 ≤ sizeLine; decide, fun l1 nl1 => ?_⟩
        have sl1 := same_new (o := .lst [V.int o]) nl1
        have hl1 := upd_same (H := H') (a := l1) (o := .lst [V.int o])
        revert sl1 hl1
        generalize upd H' l1 (.lst [V.int o]) = Ha
        intro sl1 hl1
        have hd1 := sl1 _ _ hW.d
        have nf : ∀ b ys, Ha b = some (.lst ys) → b ≠ D := fun b ys z => ne_of z hd1 (by intro y; cases y)
        refine ⟨_, .inl o, rfl, hd1, ll, same_mut (sm.trans sl1) nD, fts ++ [l1], fun t ht => (List.mem_append.mp ht).elim (fre t) fun ht => by rw [List.mem_singleton.mp ht]; exact (S2.trans sm).free nl1, ⟨?_, ?_⟩⟩
        · rw [upd_same, stp, List.filter_append, List.filter_cons, if_pos z, List.map_append, wKv_put (l := [o]) lfts nk]
          rfl
        · rw [stp, List.filter_append, List.filter_cons, if_pos z, List.map_append]
          refine Paired.snoc (F := fun (t : Addr) (w : Way) => (upd Ha D _) t = some (.lst (w.2.map V.int))) ?_ (Paired.imp hW.l fun t w z => by rw [upd_ne (nf _ _ (sl1 _ _ z))]; exact sl1 _ _ z)
          rw [upd_ne (nf _ _ hl1)]
          exact hl1
      · have z : ¬ okLast N s l o = true := z
        refine ⟨sm, fts, fre, ?_⟩
        rw [stp, List.filter_append, List.filter_cons, if_neg z]
        show WyAt H' D (List.map _ (_ ++ [])) fts
        rw [List.append_nil]
        exact hW
    rintro H3 ⟨s3, fts, fre, hW⟩
    rw [List.length_map, List.take_length] at hW
    have hW : WyAt H3 D (wK N es s l 0) fts := hW
    have S3 := S2.trans s3
    refine ⟨fun m σ H' => ∃ (k : Nat) (wd : Addr) (wts : List Addr), k + m = l ∧ σ = [some (.ref np), some (.ref pl), some (.ref u), some (.int (m : Int)), some (.int (s.dl - N.er - travel N s l)), some (.ref wd), none] ∧ Same H H' ∧ (∀ t ∈ wts, H t = none) ∧ WyAt H' wd (wK N es s l k) wts, ⟨l, 0, D, fts, by omega, rfl, S3, fre, hW⟩, ?_⟩
    rintro m σ H4 ⟨k', wd, wts, ekm, rfl, S4, fre4, hW4⟩
    refine ⟨_, rfl, _, _, rfl, rfl, _, rfl, ite2 (fun z => ?_) (fun z => ?_)⟩
    · have z : 0 < m := by
        have := of_decide_eq_true z
        omega
      refine ⟨_, fun σ' H' w => ⟨m - 1, by omega, w⟩, ?_⟩
      refine ⟨_, rfl, (m : Int), 1, rfl, rfl, ?_⟩
      refine ⟨_, rfl, _, rfl, _, rfl, _, rfl, _, rfl, np, pl, u, wd, N, ts, es, s, m - 1, wK N es s l k', wts, congrArg (fun z => [V.ref np, V.ref pl, V.ref u, V.int z, V.ref wd]) (by omega : ((m : Int) - 1) = ((m - 1 : Nat) : Int)), hN.same S4, po, S4.seq hpl, hE.same S4, hS.same S4, so, by omega, hW4, wK_asc N es s l k', fun x hx => by rw [wK_len k' x hx]; omega, wK_few so.d1 l k', fun H5 fd fts5 s5 nfd fre5 hW5 => ?_⟩
      refine ⟨k' + 1, fd, fts5, by omega, ?_, S4.trans s5, fun t ht => S4.free (fre5 t ht), ?_⟩
      · show [_, _, _, some (V.int ((m : Int) - 1)), _, _, _] = _
        rw [show (m : Int) - 1 = ((m - 1 : Nat) : Int) by omega]
      · show WyAt H5 fd (waysB N es s (l - (k' + 1)) (wK N es s l k')) fts5
        rw [show l - (k' + 1) = m - 1 by omega]
        exact hW5
    · have z : m = 0 := by
        have : ¬ 0 < (m : Int) := fun y => z (decide_eq_true y)
        omega
      have ek : k' = l := by omega
      subst ek
      have ead : admitD N es s = (wK N es s k' k').head?.map (·.2) := by
        unfold admitD
        rw [← el2]
      have lwt : wts.length = (wK N es s k' k').length := hW4.l.length
      refine ⟨_, rfl, _, .inr (.inr ⟨_, hW4.d, rfl⟩), ?_⟩
      have asc := wK_asc N es s k' k'
      cases hWK : wK N es s k' k' with
      | nil =>
        rw [hWK] at ead
        refine iteF ?_
        exact q0 ead H4 S4
      | cons w W =>
        rw [hWK] at ead hW4 lwt asc
        cases wts with
        | nil => cases lwt
        | cons t wts =>
          refine iteT ?_
          refine ⟨_, rfl, _, rfl, wd, _, (w :: W).map (·.1), rfl, hW4.d, wKv_keys lwt, (by intro z; cases z), fun m' hm hl => ?_⟩
          have em : m' = w.1 := by
            have h1 := hl w.1 List.mem_cons_self
            have asc : (w.1 :: W.map (·.1)).Pairwise (· < ·) := asc
            rw [List.pairwise_cons] at asc
            rcases List.mem_cons.mp (show m' ∈ w.1 :: W.map (·.1) from hm) with h | h
            · exact h
            · have := asc.1 m' h
              omega
          have hg : valV (wKv (w :: W) (t :: wts)) (.inl m') = some (.ref t) := by
            rw [em]
            exact wKv_get asc (i := 0) rfl rfl
          have dg : DGet H4 wd (.int m') (some (.ref t)) := by
            have := DGet.k (k := .inl m') hW4.d
            rw [hg] at this
            exact this
          obtain ⟨w', ew', ht⟩ := Paired.at hW4.l (i := 0) (show (t :: wts)[0]? = some t from rfl)
          cases ew'
          exact ⟨wd, .ref t, rfl, dg, q1 _ ead H4 t S4 (fre4 t List.mem_cons_self) ht⟩
end
end My
/-! The least offsets. No row. -/
namespace My
open PySem PySem.Spec PyProof.Rows L2
def lexI : List Int → List Int → Prop
  | [], _ => True
  | _ :: _, [] => False
  | a :: l, b :: m => a < b ∨ (a = b ∧ lexI l m)
theorem lexI_anti : ∀ {l m : List Int}, lexI l m → lexI m l → l = m
  | [], [], _, _ => rfl
  | [], _ :: _, _, h => h.elim
  | _ :: _, [], h, _ => h.elim
  | a :: l, b :: m, h, h' => by
    have h : a < b ∨ (a = b ∧ lexI l m) := h
    have h' : b < a ∨ (b = a ∧ lexI m l) := h'
    have e : a = b := by omega
    subst e
    rw [lexI_anti (h.elim (fun z => by omega) (·.2)) (h'.elim (fun z => by omega) (·.2))]
section
variable (N : NetD) (es : List EntD) (s : StrD)
/-- the wait between two offsets -/
def wtL (h : Nat) (o o' : Int) : Win := (o + travel N s h - 2 * N.er, (if o' - (o + travel N s h) + 2 * N.er > 1 then o' - (o + travel N s h) + 2 * N.er else 1), s.pe)
def waitB (h : Nat) (o o' : Int) : Bool := !(decide ((wtL N s h o o').2.1 > (wtL N s h o o').2.2) || (waitsAt N es (s.path.getD (h + 1) 0, s.path.getD (h + 2) 0)).any (meetB (wtL N s h o o')))
/-- a list of offsets from a hop on; k hops are left -/
def Cmp : Nat → Nat → Int → List Int → Prop
  | 0, h, o, L => o ∈ offsL es s h ∧ okLast N s h o = true ∧ L = [o]
  | k + 1, h, o, L => o ∈ offsL es s h ∧ ∃ (o' : Int) (R : List Int), L = o :: R ∧ Cmp k (h + 1) o' R ∧ o + travel N s h + 2 * N.er ≤ o' ∧ waitB N es s h o o' = true
end
section
variable {N : NetD} {es : List EntD} {s : StrD}
theorem wt_wtL {h : Nat} {o o' : Int} {R : List Int} : wtOf N ⟨s, List.replicate h 0 ++ (o :: o' :: R)⟩ (h + 1) = wtL N s h o o' := by
  have g0 : (List.replicate h (0 : Int) ++ (o :: o' :: R)).getD h 0 = o := by
    rw [List.getD_eq_getElem?_getD, List.getElem?_append_right (by rw [List.length_replicate]; exact Nat.le_refl _), List.length_replicate, Nat.sub_self]
    rfl
  have g1 : (List.replicate h (0 : Int) ++ (o :: o' :: R)).getD (h + 1) 0 = o' := by
    rw [List.getD_eq_getElem?_getD, List.getElem?_append_right (by rw [List.length_replicate]; omega), List.length_replicate, show h + 1 - h = 1 by omega]
    rfl
  unfold wtOf wtL arr
  show ((List.replicate h (0 : Int) ++ (o :: o' :: R)).getD h 0 + travel N s h - 2 * N.er, (if (List.replicate h (0 : Int) ++ (o :: o' :: R)).getD (h + 1) 0 - ((List.replicate h (0 : Int) ++ (o :: o' :: R)).getD h 0 + travel N s h) + 2 * N.er > 1 then (List.replicate h (0 : Int) ++ (o :: o' :: R)).getD (h + 1) 0 - ((List.replicate h (0 : Int) ++ (o :: o' :: R)).getD h 0 + travel N s h) + 2 * N.er else 1), s.pe) = _
  rw [g0, g1]
theorem cmp_head : ∀ {k h : Nat} {o : Int} {L : List Int}, Cmp N es s k h o L → ∃ R, L = o :: R
  | 0, h, o, L, c => ⟨[], c.2.2⟩
  | k + 1, h, o, L, ⟨_, o', R, e, _⟩ => ⟨R, e⟩
/-- a longer window meets what a shorter one meets -/
theorem meet_mono {w v x : Win} (e1 : w.1 = v.1) (e2 : w.2.2 = v.2.2) (h : w.2.1 ≤ v.2.1) (w0 : 0 ≤ w.2.1) (p : 0 < w.2.2) (hx : WP x) (m : meetB w x = true) : meetB v x = true := by
  obtain ⟨k, j, c⟩ := (meet_iff w0 hx.l p hx.p).mp m
  obtain ⟨c1, c2, c3, c4⟩ := (cm_iff w0 hx.l).mp c
  refine (meet_iff (by omega) hx.l (by omega) hx.p).mpr ⟨k, j, (cm_iff (by omega) hx.l).mpr ⟨by omega, c2, ?_, ?_⟩⟩
  · show st v k < st x j + x.2.1
    have : st v k = st w k := by unfold st; rw [e1, e2]
    omega
  · show st x j < st v k + v.2.1
    have : st v k = st w k := by unfold st; rw [e1, e2]
    omega
theorem wait_mono (so : SOk N s) (ok : ∀ e ∈ es, EOk N e) {h : Nat} {o a b : Int} (hab : a ≤ b) (w : waitB N es s h o b = true) : waitB N es s h o a = true := by
  unfold waitB at w ⊢
  have p0 := so.p0
  have l1 : (wtL N s h o a).2.1 ≤ (wtL N s h o b).2.1 := by
    unfold wtL
    dsimp only
    split <;> split <;> omega
  have l0 : 1 ≤ (wtL N s h o a).2.1 := by
    unfold wtL
    dsimp only
    split <;> omega
  have ep : (wtL N s h o a).2.2 = (wtL N s h o b).2.2 := rfl
  rw [Bool.not_eq_true', Bool.or_eq_false_iff, decide_eq_false_iff_not] at w ⊢
  refine ⟨by omega, ?_⟩
  rw [List.any_eq_false] at w ⊢
  intro x hx m
  exact w.2 x hx (meet_mono (w := wtL N s h o a) (v := wtL N s h o b) rfl ep l1 (by omega) (by show 0 < s.pe; omega) (waits_wp ok x hx) m)
/-- the ways are the least lists -/
theorem wK_cmp (so : SOk N s) (ok : ∀ e ∈ es, EOk N e) {l : Nat} : ∀ k, k ≤ l → (∀ w ∈ wK N es s l k, Cmp N es s k (l - k) w.1 w.2 ∧ ∀ L, Cmp N es s k (l - k) w.1 L → lexI w.2 L) ∧ ∀ o L, Cmp N es s k (l - k) o L → ∃ w ∈ wK N es s l k, w.1 = o
  | 0, _ => by
    rw [Nat.sub_zero]
    refine ⟨fun w hw => ?_, fun o L c => ?_⟩
    · obtain ⟨o, ho, rfl⟩ := List.mem_map.mp hw
      obtain ⟨h1, h2⟩ := List.mem_filter.mp ho
      refine ⟨⟨h1, h2, rfl⟩, fun L c => ?_⟩
      rw [c.2.2]
      exact .inr ⟨rfl, True.intro⟩
    · obtain ⟨c1, c2, rfl⟩ := c
      exact ⟨_, List.mem_map.mpr ⟨o, List.mem_filter.mpr ⟨c1, c2⟩, rfl⟩, rfl⟩
  | k + 1, hk => by
    obtain ⟨i1, i2⟩ := wK_cmp so ok (l := l) k (by omega)
    have eh : l - k = l - (k + 1) + 1 := by omega
    rw [eh] at i1 i2
    have asc := wK_asc N es s l k
    have mem : ∀ w, w ∈ wK N es s l (k + 1) ↔ ∃ o ∈ offsL es s (l - (k + 1)), stepW N es s (l - (k + 1)) (wK N es s l k) o = some w := fun w => List.mem_filterMap
    generalize l - (k + 1) = h at i1 i2 mem ⊢
    have stp : ∀ o, stepW N es s h (wK N es s l k) o = match (wK N es s l k).find? (fun w => decide (o + travel N s h + 2 * N.er ≤ w.1)) with
      | none => none
      | some w => if waitB N es s h o w.1 = true then some (o, o :: w.2) else none := fun o => by
      unfold stepW
      cases f : (wK N es s l k).find? (fun w => decide (o + travel N s h + 2 * N.er ≤ w.1)) with
      | none => rfl
      | some w =>
        obtain ⟨R, eR⟩ := cmp_head (i1 w (List.mem_of_find?_eq_some f)).1
        have e := wt_wtL (N := N) (s := s) (h := h) (o := o) (o' := w.1) (R := R)
        rw [← eR] at e
        show (if (decide ((wtOf N ⟨s, List.replicate h 0 ++ (o :: w.2)⟩ (h + 1)).2.1 > (wtOf N ⟨s, List.replicate h 0 ++ (o :: w.2)⟩ (h + 1)).2.2) || (waitsAt N es (s.path.getD (h + 1) 0, s.path.getD (h + 2) 0)).any (meetB (wtOf N ⟨s, List.replicate h 0 ++ (o :: w.2)⟩ (h + 1)))) = true then none else some (o, o :: w.2)) = (if waitB N es s h o w.1 = true then some (o, o :: w.2) else none)
        rw [e]
        unfold waitB
        cases (decide ((wtL N s h o w.1).2.1 > (wtL N s h o w.1).2.2) || (waitsAt N es (s.path.getD (h + 1) 0, s.path.getD (h + 2) 0)).any (meetB (wtL N s h o w.1))) <;> rfl
    -- the first that is far enough
    have fst : ∀ (o : Int) (v : Way), v ∈ wK N es s l k → o + travel N s h + 2 * N.er ≤ v.1 → ∃ w, (wK N es s l k).find? (fun w => decide (o + travel N s h + 2 * N.er ≤ w.1)) = some w ∧ w ∈ wK N es s l k ∧ o + travel N s h + 2 * N.er ≤ w.1 ∧ w.1 ≤ v.1 := fun o v hv le => by
      cases f : (wK N es s l k).find? (fun w => decide (o + travel N s h + 2 * N.er ≤ w.1)) with
      | none => exact absurd (decide_eq_true le) (List.find?_eq_none.mp f v hv)
      | some w =>
        have wm := List.mem_of_find?_eq_some f
        have wp : o + travel N s h + 2 * N.er ≤ w.1 := by
          have := List.find?_some f
          exact of_decide_eq_true this
        refine ⟨w, rfl, wm, wp, ?_⟩
        obtain ⟨pre, post, e1, e2⟩ := (List.find?_eq_some_iff_append.mp f).2
        rw [e1] at hv
        rcases List.mem_append.mp hv with hv | hv
        · have := e2 v hv
          rw [decide_eq_true le] at this
          cases this
        · rcases List.mem_cons.mp hv with hv | hv
          · rw [hv]
            exact Int.le_refl _
          · unfold Asc at asc
            rw [e1, List.map_append, List.map_cons, List.pairwise_append, List.pairwise_cons] at asc
            have := asc.2.1.1 v.1 (List.mem_map.mpr ⟨v, hv, rfl⟩)
            omega
    refine ⟨fun w hw => ?_, fun o L c => ?_⟩
    · obtain ⟨o, ho, e⟩ := (mem w).mp hw
      rw [stp] at e
      cases f : (wK N es s l k).find? (fun w => decide (o + travel N s h + 2 * N.er ≤ w.1)) with
      | none => rw [f] at e; cases e
      | some v =>
        rw [f] at e
        have vm := List.mem_of_find?_eq_some f
        have vp : o + travel N s h + 2 * N.er ≤ v.1 := by
          have := List.find?_some f
          exact of_decide_eq_true this
        by_cases wb : waitB N es s h o v.1 = true
        · have e : (if waitB N es s h o v.1 = true then some (o, o :: v.2) else none) = some w := e
          rw [if_pos wb] at e
          cases e
          obtain ⟨c1, c2⟩ := i1 v vm
          refine ⟨⟨ho, v.1, v.2, rfl, c1, vp, wb⟩, ?_⟩
          rintro L ⟨_, o', R, rfl, cR, le, wR⟩
          refine .inr ⟨rfl, ?_⟩
          obtain ⟨u, um, eu⟩ := i2 o' R cR
          obtain ⟨w2, f2, wm2, wp2, wl2⟩ := fst o u um (by rw [eu]; exact le)
          rw [f] at f2
          cases f2
          obtain ⟨R1, e1⟩ := cmp_head c1
          obtain ⟨R2, e2⟩ := cmp_head cR
          by_cases z : v.1 = o'
          · exact c2 R (by rw [z]; exact cR)
          · show lexI v.2 R
            rw [e1, e2]
            exact .inl (by omega)
        · have e : (if waitB N es s h o v.1 = true then some (o, o :: v.2) else none) = some w := e
          rw [if_neg wb] at e
          cases e
    · obtain ⟨ho, o', R, rfl, cR, le, wR⟩ := c
      obtain ⟨u, um, eu⟩ := i2 o' R cR
      obtain ⟨v, f2, vm, vp, vl⟩ := fst o u um (by rw [eu]; exact le)
      refine ⟨(o, o :: v.2), (mem _).mpr ⟨o, ho, ?_⟩, rfl⟩
      rw [stp, f2]
      show (if waitB N es s h o v.1 = true then some (o, o :: v.2) else none) = _
      rw [if_pos (wait_mono so ok (by omega) wR)]
/-- a list that fits -/
def Fits (N : NetD) (es : List EntD) (s : StrD) (L : List Int) : Prop := ∃ o, Cmp N es s (s.path.length - 2) 0 o L
theorem admit_least (so : SOk N s) (ok : ∀ e ∈ es, EOk N e) : (admitD N es s = none → ∀ L, ¬ Fits N es s L) ∧ ∀ A, admitD N es s = some A → Fits N es s A ∧ ∀ L, Fits N es s L → lexI A L := by
  obtain ⟨i1, i2⟩ := wK_cmp so ok (l := s.path.length - 2) (s.path.length - 2) (Nat.le_refl _)
  rw [Nat.sub_self] at i1 i2
  have asc := wK_asc N es s (s.path.length - 2) (s.path.length - 2)
  unfold admitD
  cases e : wK N es s (s.path.length - 2) (s.path.length - 2) with
  | nil =>
    rw [e] at i2
    refine ⟨fun _ L ⟨o, c⟩ => ?_, fun A h => by cases h⟩
    obtain ⟨w, hw, _⟩ := i2 o L c
    cases hw
  | cons w W =>
    rw [e] at i1 i2 asc
    refine ⟨fun h => (by cases h), fun A h => ?_⟩
    cases h
    obtain ⟨c1, c2⟩ := i1 w List.mem_cons_self
    refine ⟨⟨w.1, c1⟩, fun L ⟨o, c⟩ => ?_⟩
    obtain ⟨u, hu, eu⟩ := i2 o L c
    have asc : (w.1 :: W.map (·.1)).Pairwise (· < ·) := asc
    rw [List.pairwise_cons] at asc
    by_cases z : w.1 = o
    · exact c2 L (by rw [z]; exact c)
    · have lt : w.1 < o := by
        rcases List.mem_cons.mp hu with h | h
        · rw [h] at eu
          exact absurd eu z
        · rw [← eu]
          exact asc.1 u.1 (List.mem_map.mpr ⟨u, h, rfl⟩)
      obtain ⟨R1, e1⟩ := cmp_head c1
      obtain ⟨R2, e2⟩ := cmp_head c
      show lexI w.2 L
      rw [e1, e2]
      exact .inl lt
end
end My
/-! A list fits exactly if the plan has no fault with it. No row. -/
namespace My
open PySem PySem.Spec PyProof.Rows L2
section
variable {N : NetD} {es : List EntD} {s : StrD}
theorem cmp_iff : ∀ {k h : Nat} {L : List Int}, (∃ o, Cmp N es s k h o L) ↔ L.length = k + 1 ∧ (∀ j, j ≤ k → L.getD j 0 ∈ offsL es s (h + j)) ∧ (∀ j, j < k → L.getD j 0 + travel N s (h + j) + 2 * N.er ≤ L.getD (j + 1) 0 ∧ waitB N es s (h + j) (L.getD j 0) (L.getD (j + 1) 0) = true) ∧ okLast N s (h + k) (L.getD k 0) = true
  | 0, h, L => by
    constructor
    · rintro ⟨o, c1, c2, rfl⟩
      exact ⟨rfl, fun j hj => by have : j = 0 := by omega
                                 subst this; exact c1, fun j hj => absurd hj (Nat.not_lt_zero j), c2⟩
    · rintro ⟨h1, h2, h3, h4⟩
      match L, h1 with
      | [o], _ => exact ⟨o, h2 0 (Nat.le_refl _), h4, rfl⟩
  | k + 1, h, L => by
    constructor
    · rintro ⟨o, c1, o', R, rfl, cR, le, wb⟩
      obtain ⟨r1, r2, r3, r4⟩ := cmp_iff.mp ⟨o', cR⟩
      obtain ⟨R', eR⟩ := cmp_head cR
      have g0 : R.getD 0 0 = o' := by rw [eR]; rfl
      refine ⟨by rw [List.length_cons, r1], fun j hj => ?_, fun j hj => ?_, ?_⟩
      · cases j with
        | zero => exact c1
        | succ j =>
          have := r2 j (by omega)
          rw [show h + 1 + j = h + (j + 1) by omega] at this
          exact this
      · cases j with
        | zero =>
          show o + travel N s h + 2 * N.er ≤ R.getD 0 0 ∧ waitB N es s h o (R.getD 0 0) = true
          rw [g0]
          exact ⟨le, wb⟩
        | succ j =>
          have := r3 j (by omega)
          rw [show h + 1 + j = h + (j + 1) by omega] at this
          exact this
      · rw [show h + 1 + k = h + (k + 1) by omega] at r4
        exact r4
    · rintro ⟨h1, h2, h3, h4⟩
      match L, h1 with
      | o :: R, h1 =>
        have hR : R.length = k + 1 := by simpa using h1
        obtain ⟨o', cR⟩ := cmp_iff (k := k) (h := h + 1) (L := R) |>.mpr ⟨hR, fun j hj => by
          have := h2 (j + 1) (by omega)
          rw [show h + 1 + j = h + (j + 1) by omega]
          exact this, fun j hj => by
          have := h3 (j + 1) (by omega)
          rw [show h + 1 + j = h + (j + 1) by omega]
          exact this, by
          rw [show h + 1 + k = h + (k + 1) by omega]
          exact h4⟩
        obtain ⟨R', eR⟩ := cmp_head cR
        have g0 : R.getD 0 0 = o' := by rw [eR]; rfl
        have z := h3 0 (Nat.succ_pos _)
        have z : o + travel N s h + 2 * N.er ≤ R.getD 0 0 ∧ waitB N es s h o (R.getD 0 0) = true := z
        rw [g0] at z
        exact ⟨o, h2 0 (Nat.zero_le _), o', R, rfl, cR, z.1, z.2⟩
theorem pair_ne {e1 e2 : EntD} {i j h o : Nat} (n : i ≠ j) : pairF N e1 e2 i j h o = none ↔ meetB (winOf e1 h) (winOf e2 o) = false ∧ (0 < h → 0 < o → meetB (wtOf N e1 h) (wtOf N e2 o) = false) := by
  unfold pairF
  rw [decide_eq_false n, Bool.not_false, Bool.true_and, Bool.true_and, Bool.false_and, Bool.or_false]
  cases a : meetB (winOf e1 h) (winOf e2 o) with
  | true => simp
  | false =>
    by_cases b : h = 0 ∨ o = 0
    · have : (decide (h = 0) || decide (o = 0)) = true := by rw [Bool.or_eq_true, decide_eq_true_eq, decide_eq_true_eq]; exact b
      rw [if_neg Bool.false_ne_true, if_pos this]
      exact ⟨fun _ => ⟨rfl, fun h1 h2 => by omega⟩, fun _ => rfl⟩
    · have : ¬ (decide (h = 0) || decide (o = 0)) = true := by rw [Bool.or_eq_true, decide_eq_true_eq, decide_eq_true_eq]; exact b
      rw [if_neg Bool.false_ne_true, if_neg this]
      cases c : meetB (wtOf N e1 h) (wtOf N e2 o) with
      | true =>
        rw [if_pos rfl]
        exact ⟨fun z => (by cases z), fun z => absurd (z.2 (by omega) (by omega)) (by decide)⟩
      | false =>
        rw [if_neg Bool.false_ne_true]
        exact ⟨fun _ => ⟨rfl, fun _ _ => rfl⟩, fun _ => rfl⟩
theorem pair_self {e : EntD} {i h : Nat} : pairF N e e i i h h = none ↔ (0 < h → ¬ (wtOf N e h).2.1 > (wtOf N e h).2.2) := by
  unfold pairF
  rw [decide_eq_true (rfl : i = i), Bool.not_true, Bool.false_and, Bool.false_and, Bool.true_and, Bool.false_or, if_neg Bool.false_ne_true, Bool.or_self]
  by_cases b : h = 0
  · rw [if_pos (decide_eq_true b)]
    exact ⟨fun _ h1 => by omega, fun _ => rfl⟩
  · rw [if_neg (fun z => b (of_decide_eq_true z))]
    by_cases c : (wtOf N e h).2.1 > (wtOf N e h).2.2
    · rw [if_pos (decide_eq_true c)]
      exact ⟨fun z => (by cases z), fun z => absurd c (z (by omega))⟩
    · rw [if_neg (fun z => c (of_decide_eq_true z))]
      exact ⟨fun _ _ => c, fun _ => rfl⟩
theorem mem_hits {e : EntD} {p : Nat × Nat} {h : Nat} : h ∈ hitsE e p ↔ h < e.os.length ∧ portE e h = p := by
  unfold hitsE
  rw [List.mem_filter, List.mem_range, decide_eq_true_eq]
  exact Iff.rfl
theorem free_iff (ok : ∀ e ∈ es, EOk N e) (so : SOk N s) {h : Nat} {o : Int} {os : List Int} (ho : os.getD h 0 = o) : freeAt es s h o = true ↔ ∀ i, i < es.length → ∀ j, j < (es.getD i nilE).os.length → portE (es.getD i nilE) j = (s.path.getD h 0, s.path.getD (h + 1) 0) → meetB (winOf (es.getD i nilE) j) (winOf ⟨s, os⟩ h) = false := by
  unfold freeAt
  rw [Bool.not_eq_true', List.any_eq_false]
  have ew : winOf ⟨s, os⟩ h = (o, s.ln, s.pe) := by rw [← ho]; rfl
  have l0 := so.l0
  have p0 := so.p0
  constructor
  · intro H i hi j hj p
    have em := List.mem_of_getElem? (getE_lt hi)
    have eo := ok _ em
    have := H (winOf (es.getD i nilE) j) (List.mem_flatMap.mpr ⟨_, em, List.mem_map.mpr ⟨j, mem_hits.mpr ⟨hj, p⟩, rfl⟩⟩)
    have e0 := eo.l0
    have e1 := eo.p0
    rw [ew, ← meet_symm (w := winOf (es.getD i nilE) j) (v := (o, s.ln, s.pe)) (by show 0 ≤ (es.getD i nilE).s.ln; omega) (by show 0 ≤ s.ln; omega) (by show 0 < (es.getD i nilE).s.pe; omega) (by show 0 < s.pe; omega)]
    exact Bool.eq_false_iff.mpr this
  · intro H w hw m
    obtain ⟨e, he, hw⟩ := List.mem_flatMap.mp hw
    obtain ⟨j, hj, rfl⟩ := List.mem_map.mp hw
    obtain ⟨hj1, hj2⟩ := mem_hits.mp hj
    obtain ⟨i, hi⟩ := List.mem_iff_getElem?.mp he
    obtain ⟨il, ie⟩ := List.getElem?_eq_some_iff.mp hi
    have ge : es.getD i nilE = e := by rw [List.getD_eq_getElem?_getD, hi]; rfl
    have := H i il j (by rw [ge]; exact hj1) (by rw [ge]; exact hj2)
    have eo := ok e he
    have e0 := eo.l0
    have e1 := eo.p0
    rw [ge, ew, meet_symm (w := (o, s.ln, s.pe)) (v := winOf e j) (by show 0 ≤ s.ln; omega) (by show 0 ≤ e.s.ln; omega) (by show 0 < s.pe; omega) (by show 0 < e.s.pe; omega)] at this
    rw [this] at m
    cases m
theorem waits_iff (ok : ∀ e ∈ es, EOk N e) {p : Nat × Nat} {w : Win} (hw : WP w) : (waitsAt N es p).any (meetB w) = false ↔ ∀ i, i < es.length → ∀ j, j < (es.getD i nilE).os.length → portE (es.getD i nilE) j = p → meetB (wtOf N (es.getD i nilE) j) w = false := by
  rw [List.any_eq_false]
  have wp : ∀ e ∈ es, ∀ j, WP (wtOf N e j) := fun e he j => by
    have h1 := wtOf_l (N := N) (e := e) j
    have h2 := (ok e he).p0
    exact ⟨by omega, by show 0 < e.s.pe; omega⟩
  constructor
  · intro H i hi j hj q
    have em := List.mem_of_getElem? (getE_lt hi)
    have := H (wtOf N (es.getD i nilE) j) (List.mem_flatMap.mpr ⟨_, em, List.mem_map.mpr ⟨j, mem_hits.mpr ⟨hj, q⟩, rfl⟩⟩)
    have x := wp _ em j
    rw [← meet_symm x.l hw.l x.p hw.p]
    exact Bool.eq_false_iff.mpr this
  · intro H v hv m
    obtain ⟨e, he, hv⟩ := List.mem_flatMap.mp hv
    obtain ⟨j, hj, rfl⟩ := List.mem_map.mp hv
    obtain ⟨hj1, hj2⟩ := mem_hits.mp hj
    obtain ⟨i, hi⟩ := List.mem_iff_getElem?.mp he
    obtain ⟨il, ie⟩ := List.getElem?_eq_some_iff.mp hi
    have ge : es.getD i nilE = e := by rw [List.getD_eq_getElem?_getD, hi]; rfl
    have := H i il j (by rw [ge]; exact hj1) (by rw [ge]; exact hj2)
    have x := wp e he j
    rw [ge, meet_symm hw.l x.l hw.p x.p] at this
    rw [this] at m
    cases m
theorem getD_app {i : Nat} {e : EntD} : (es ++ [e]).getD i nilE = if i < es.length then es.getD i nilE else if i = es.length then e else nilE := by
  split
  · rename_i h
    rw [List.getD_eq_getElem?_getD, List.getElem?_append_left h, ← List.getD_eq_getElem?_getD]
  · rename_i h
    rw [List.getD_eq_getElem?_getD, List.getElem?_append_right (by omega)]
    split
    · rename_i e'
      rw [e', Nat.sub_self]
      rfl
    · rw [List.getElem?_eq_none (by show 1 ≤ i - es.length; omega)]
      rfl
theorem judged_app {e : EntD} (hj : judged N es = none) : judged N (es ++ [e]) = none ↔ alone N e es.length = none ∧ (∀ i, i < es.length → tog N (es.getD i nilE) e i es.length = none) ∧ tog N e e es.length es.length = none := by
  obtain ⟨j1, j2⟩ := judged_none.mp hj
  have g1 : ∀ i, i < es.length → (es ++ [e]).getD i nilE = es.getD i nilE := fun i hi => by rw [getD_app, if_pos hi]
  have g2 : (es ++ [e]).getD es.length nilE = e := by rw [getD_app, if_neg (Nat.lt_irrefl _), if_pos rfl]
  have ln : (es ++ [e]).length = es.length + 1 := by rw [List.length_append]; rfl
  rw [judged_none, ln]
  constructor
  · rintro ⟨h1, h2⟩
    refine ⟨?_, fun i hi => ?_, ?_⟩
    · have := h1 es.length (by omega)
      rwa [g2] at this
    · have := h2 es.length (by omega) i (by omega)
      rwa [g1 i hi, g2] at this
    · have := h2 es.length (by omega) es.length (Nat.le_refl _)
      rwa [g2] at this
  · rintro ⟨h1, h2, h3⟩
    refine ⟨fun i hi => ?_, fun j hj i hij => ?_⟩
    · by_cases z : i < es.length
      · rw [g1 i z]; exact j1 i z
      · have : i = es.length := by omega
        rw [this, g2]; exact h1
    · by_cases z : j < es.length
      · rw [g1 j z, g1 i (by omega)]; exact j2 j z i hij
      · have ej : j = es.length := by omega
        rw [ej, g2]
        by_cases y : i < es.length
        · rw [g1 i y]; exact h2 i y
        · have : i = es.length := by omega
          rw [this, g2]; exact h3
/-- a list of the right length fits exactly if the plan has no fault with it -/
theorem fits_iff (so : SOk N s) (ok : ∀ e ∈ es, EOk N e) (e0 : 0 ≤ N.er) (tr : ∀ h, 1 ≤ travel N s h) (hj : judged N es = none) {L : List Int} (hl : L.length + 1 = s.path.length) (nn : ∀ x ∈ L, 0 ≤ x) : judged N (es ++ [⟨s, L⟩]) = none ↔ Fits N es s L := by
  have two := so.po.is.two
  obtain ⟨n, en⟩ : ∃ n, s.path.length - 2 = n := ⟨_, rfl⟩
  have lL : L.length = n + 1 := by omega
  have eo : EOk N ⟨s, L⟩ := so.eok hl
  have gw : ∀ h, wtOf N ⟨s, L⟩ (h + 1) = wtL N s h (L.getD h 0) (L.getD (h + 1) 0) := fun h => rfl
  unfold Fits
  rw [en, cmp_iff, judged_app hj, alone_none]
  have nnj : ∀ j, j ≤ n → 0 ≤ L.getD j 0 := fun j hj => nn _ (getD_mem (by omega))
  have wpL : ∀ h, WP (wtOf N ⟨s, L⟩ h) := fun h => by
    have h1 := wtOf_l (N := N) (e := ⟨s, L⟩) h
    have h2 := so.p0
    exact ⟨by omega, by show 0 < s.pe; omega⟩
  have early : ∀ h, earlyAt N ⟨s, L⟩ h = false ↔ L.getD h 0 + travel N s h + 2 * N.er ≤ L.getD (h + 1) 0 := fun h => by
    unfold earlyAt arr
    rw [decide_eq_false_iff_not]
    show ¬ L.getD (h + 1) 0 < L.getD h 0 + travel N s h + 2 * N.er ↔ _
    omega
  have last : arr N ⟨s, L⟩ (L.length - 1) + N.er ≤ s.dl ↔ okLast N s (0 + n) (L.getD n 0) = true := by
    unfold okLast arr
    rw [decide_eq_true_eq, lL, Nat.add_sub_cancel, Nat.zero_add]
    show L.getD n 0 + travel N s n + N.er ≤ s.dl ↔ _
    omega
  have toge : (∀ i, i < es.length → tog N (es.getD i nilE) ⟨s, L⟩ i es.length = none) ↔ (∀ h, h ≤ n → freeAt es s h (L.getD h 0) = true) ∧ ∀ h, h < n → (waitsAt N es (s.path.getD (h + 1) 0, s.path.getD (h + 2) 0)).any (meetB (wtOf N ⟨s, L⟩ (h + 1))) = false := by
    constructor
    · intro H
      refine ⟨fun h hh => (free_iff ok so rfl).mpr fun i hi j hj p => ?_, fun h hh => (waits_iff ok (wpL _)).mpr fun i hi j hj p => ?_⟩
      · have := tog_none.mp (H i hi) j hj h (by show h < L.length; omega) p
        exact ((pair_ne (by omega)).mp this).1
      · have := tog_none.mp (H i hi) j hj (h + 1) (by show h + 1 < L.length; omega) p
        have j1 := sw_port (ok _ (List.mem_of_getElem? (getE_lt hi))) so.po (by omega) hj p
        exact ((pair_ne (by omega)).mp this).2 (by omega) (Nat.succ_pos _)
    · rintro ⟨H1, H2⟩ i hi
      refine tog_none.mpr fun j hj h hh p => (pair_ne (by omega)).mpr ⟨?_, fun j0 h0 => ?_⟩
      · have hh : h < L.length := hh
        exact (free_iff ok so rfl).mp (H1 h (by omega)) i hi j hj p
      · have hh : h < L.length := hh
        obtain ⟨h', rfl⟩ : ∃ h', h = h' + 1 := ⟨h - 1, by omega⟩
        exact (waits_iff ok (wpL _)).mp (H2 h' (by omega)) i hi j hj p
  have togs : tog N ⟨s, L⟩ ⟨s, L⟩ es.length es.length = none ↔ ∀ h, h < n → ¬ (wtOf N ⟨s, L⟩ (h + 1)).2.1 > (wtOf N ⟨s, L⟩ (h + 1)).2.2 := by
    rw [tog_none]
    constructor
    · intro H h hh
      have := H (h + 1) (by show h + 1 < L.length; omega) (h + 1) (by show h + 1 < L.length; omega) rfl
      exact pair_self.mp this (Nat.succ_pos _)
    · intro H h hh o ho p
      have eq : h = o := port_inj eo hh ho p
      subst eq
      refine pair_self.mpr fun h0 => ?_
      have hh : h < L.length := hh
      obtain ⟨h', rfl⟩ : ∃ h', h = h' + 1 := ⟨h - 1, by omega⟩
      exact H h' (by omega)
  rw [toge, togs]
  constructor
  · rintro ⟨⟨a1, a2⟩, ⟨b1, b2⟩, c1⟩
    have a1' : ∀ h, h < n → L.getD h 0 + travel N s h + 2 * N.er ≤ L.getD (h + 1) 0 := fun h hh => (early h).mp (a1 h (by show h < L.length - 1; omega))
    have a2' := last.mp a2
    have dl : ∀ d, d ≤ n → L.getD (n - d) 0 < s.dl := fun d => by
      induction d with
      | zero =>
        intro _
        have := of_decide_eq_true a2'
        have := tr (0 + n)
        rw [Nat.sub_zero]
        omega
      | succ d ih =>
        intro hd
        have h1 := ih (by omega)
        have h2 := a1' (n - (d + 1)) (by omega)
        rw [show n - (d + 1) + 1 = n - d by omega] at h2
        have := tr (n - (d + 1))
        omega
    refine ⟨lL, fun j hj => ?_, fun j hj => ?_, a2'⟩
    · rw [Nat.zero_add]
      have h1 := nnj j hj
      have h2 := dl (n - j) (by omega)
      rw [show n - (n - j) = j by omega] at h2
      exact List.mem_filter.mpr ⟨List.mem_map.mpr ⟨(L.getD j 0).toNat, List.mem_range.mpr (by omega), Int.toNat_of_nonneg h1⟩, b1 j hj⟩
    · rw [Nat.zero_add]
      refine ⟨a1' j hj, ?_⟩
      unfold waitB
      rw [← gw, Bool.not_eq_true', Bool.or_eq_false_iff, decide_eq_false_iff_not]
      exact ⟨c1 j hj, b2 j hj⟩
  · rintro ⟨_, h2, h3, h4⟩
    have wb : ∀ j, j < n → ¬ (wtOf N ⟨s, L⟩ (j + 1)).2.1 > (wtOf N ⟨s, L⟩ (j + 1)).2.2 ∧ (waitsAt N es (s.path.getD (j + 1) 0, s.path.getD (j + 2) 0)).any (meetB (wtOf N ⟨s, L⟩ (j + 1))) = false := fun j hj => by
      have := (h3 j hj).2
      rw [Nat.zero_add] at this
      unfold waitB at this
      rw [← gw, Bool.not_eq_true', Bool.or_eq_false_iff, decide_eq_false_iff_not] at this
      exact this
    refine ⟨⟨fun h hh => (early h).mpr ?_, last.mpr h4⟩, ⟨fun h hh => ?_, fun h hh => (wb h hh).2⟩, fun h hh => (wb h hh).1⟩
    · have hh : h < L.length - 1 := hh
      have := (h3 h (by omega)).1
      rwa [Nat.zero_add] at this
    · have := h2 h hh
      rw [Nat.zero_add] at this
      exact (List.mem_filter.mp this).2
end
end My
/-! All lists in their order; the first one that fits. No row. -/
namespace My
open PySem PySem.Spec PyProof.Rows L2
def ltI : List Int → List Int → Prop
  | a :: l, b :: m => a < b ∨ (a = b ∧ ltI l m)
  | _, _ => False
theorem ltI_lex : ∀ {l m : List Int}, ltI l m → lexI l m
  | [], _, h => h.elim
  | _ :: _, [], h => h.elim
  | a :: l, b :: m, h => by
    have h : a < b ∨ (a = b ∧ ltI l m) := h
    exact h.imp id fun z => ⟨z.1, ltI_lex z.2⟩
theorem ltI_app : ∀ {l m x y : List Int}, ltI l m → ltI (l ++ x) (m ++ y)
  | [], _, _, _, h => h.elim
  | _ :: _, [], _, _, h => h.elim
  | a :: l, b :: m, x, y, h => by
    have h : a < b ∨ (a = b ∧ ltI l m) := h
    exact h.imp id fun z => ⟨z.1, ltI_app z.2⟩
theorem ltI_one {a b : Int} (h : a < b) : ∀ r : List Int, ltI (r ++ [a]) (r ++ [b])
  | [] => .inl h
  | x :: r => .inr ⟨rfl, ltI_one h r⟩
def lowI (s : StrD) (r : List Int) : Int := if r.length = 0 then 0 else r.getD (r.length - 1) 0 + s.ln
def extI (s : StrD) (r : List Int) : List (List Int) := (List.range (s.dl + 1 - lowI s r).toNat).map fun (j : Nat) => r ++ [lowI s r + (j : Int)]
def rowsI (s : StrD) : Nat → List (List Int)
  | 0 => [[]]
  | k + 1 => (rowsI s k).flatMap (extI s)
theorem rowsI_pw (s : StrD) : ∀ k, (rowsI s k).Pairwise ltI
  | 0 => List.pairwise_singleton _ _
  | k + 1 => by
    show ((rowsI s k).flatMap (extI s)).Pairwise ltI
    rw [List.pairwise_flatMap]
    refine ⟨fun r _ => ?_, List.Pairwise.imp (fun {r r'} h x hx y hy => ?_) (rowsI_pw s k)⟩
    · unfold extI
      rw [List.pairwise_map]
      exact List.Pairwise.imp (fun {a b} h => ltI_one (by omega) r) List.pairwise_lt_range
    · obtain ⟨j, _, rfl⟩ := List.mem_map.mp hx
      obtain ⟨i, _, rfl⟩ := List.mem_map.mp hy
      exact ltI_app h
theorem rowsI_len {s : StrD} : ∀ k, ∀ r ∈ rowsI s k, r.length = k
  | 0, r, h => by rw [List.mem_singleton.mp h]; rfl
  | k + 1, r, h => by
    obtain ⟨a, ha, hr⟩ := List.mem_flatMap.mp h
    obtain ⟨j, _, rfl⟩ := List.mem_map.mp hr
    rw [List.length_append, rowsI_len k a ha]
    rfl
theorem lowI_nn {s : StrD} (h : 0 ≤ s.ln) {r : List Int} (hr : ∀ x ∈ r, 0 ≤ x) : 0 ≤ lowI s r := by
  unfold lowI
  split
  · omega
  · have := hr (r.getD (r.length - 1) 0) (getD_mem (by omega))
    omega
theorem rowsI_nn {s : StrD} (h0 : 0 ≤ s.ln) : ∀ k, ∀ r ∈ rowsI s k, ∀ x ∈ r, 0 ≤ x
  | 0, r, h, x, hx => by rw [List.mem_singleton.mp h] at hx; exact absurd hx List.not_mem_nil
  | k + 1, r, h, x, hx => by
    obtain ⟨a, ha, hr⟩ := List.mem_flatMap.mp h
    obtain ⟨j, _, rfl⟩ := List.mem_map.mp hr
    have nn := rowsI_nn h0 k a ha
    rcases List.mem_append.mp hx with hx | hx
    · exact nn x hx
    · rw [List.mem_singleton.mp hx]
      have := lowI_nn h0 nn
      omega
theorem mem_rowsI {s : StrD} : ∀ (k : Nat) (L : List Int), L.length = k → (∀ j, j < k → 0 ≤ L.getD j 0 ∧ L.getD j 0 ≤ s.dl) → (∀ j, j + 1 < k → L.getD j 0 + s.ln ≤ L.getD (j + 1) 0) → L ∈ rowsI s k
  | 0, L, h, _, _ => by rw [List.length_eq_zero_iff.mp h]; exact List.mem_singleton.mpr rfl
  | k + 1, L, h, hb, hs => by
    have hne : L ≠ [] := fun z => by rw [z] at h; cases h
    obtain ⟨a, x, rfl⟩ : ∃ a x, L = a ++ [x] := ⟨L.dropLast, L.getLast hne, (List.dropLast_concat_getLast hne).symm⟩
    have la : a.length = k := by
      rw [List.length_append] at h
      have h : a.length + 1 = k + 1 := h
      omega
    have ga : ∀ j, j < k → (a ++ [x]).getD j 0 = a.getD j 0 := fun j hj => by
      rw [List.getD_eq_getElem?_getD, List.getElem?_append_left (by omega), ← List.getD_eq_getElem?_getD]
    have gx : (a ++ [x]).getD k 0 = x := by
      rw [List.getD_eq_getElem?_getD, List.getElem?_append_right (by omega), la, Nat.sub_self]
      rfl
    have ma := mem_rowsI k a la (fun j hj => by rw [← ga j hj]; exact hb j (by omega)) fun j hj => by rw [← ga j (by omega), ← ga (j + 1) hj]; exact hs j (by omega)
    refine List.mem_flatMap.mpr ⟨a, ma, List.mem_map.mpr ⟨(x - lowI s a).toNat, ?_, ?_⟩⟩
    all_goals
      have hx := hb k (by omega)
      rw [gx] at hx
      have hl : lowI s a ≤ x := by
        unfold lowI
        split
        · exact hx.1
        · have := hs (k - 1) (by omega)
          rw [show k - 1 + 1 = k by omega, gx, ga (k - 1) (by omega)] at this
          rw [la]
          exact this
    · exact List.mem_range.mpr (by omega)
    · show a ++ [lowI s a + (((x - lowI s a).toNat : Nat) : Int)] = a ++ [x]
      rw [Int.toNat_of_nonneg (by omega), show lowI s a + (x - lowI s a) = x by omega]
theorem findI_first {R : List Int → List Int → Prop} {p : List Int → Bool} : ∀ {l : List (List Int)}, l.Pairwise R → ∀ {r a : List Int}, l.find? p = some r → a ∈ l → p a = true → r = a ∨ R r a
  | x :: l, hl, r, a, hf, ha, hp => by
    rw [List.pairwise_cons] at hl
    rw [List.find?_cons] at hf
    cases hx : p x with
    | true =>
      rw [hx] at hf
      cases hf
      rcases List.mem_cons.mp ha with h | h
      · exact .inl h.symm
      · exact .inr (hl.1 a h)
    | false =>
      rw [hx] at hf
      rcases List.mem_cons.mp ha with h | h
      · rw [h, hx] at hp
        cases hp
      · exact findI_first hl.2 hf h hp
/-- what the law finds -/
def leastD (N : NetD) (es : List EntD) (s : StrD) : Option (List Int) := (rowsI s (s.path.length - 1)).find? fun r => (judged N (es ++ [⟨s, r⟩])).isNone
theorem least_admit {N : NetD} {es : List EntD} {s : StrD} (so : SOk N s) (ok : ∀ e ∈ es, EOk N e) (e0 : 0 ≤ N.er) (tr : ∀ h, s.ln ≤ travel N s h) (hj : judged N es = none) : leastD N es s = admitD N es s := by
  have two := so.po.is.two
  have l0 := so.l0
  obtain ⟨a0, a1⟩ := admit_least so ok
  have fit : ∀ r ∈ rowsI s (s.path.length - 1), (judged N (es ++ [⟨s, r⟩])).isNone = true ↔ Fits N es s r := fun r hr => by
    have lr := rowsI_len _ r hr
    rw [Option.isNone_iff_eq_none]
    exact fits_iff so ok e0 (fun h => by have := tr h; omega) hj (by omega) (rowsI_nn (by omega) _ r hr)
  have inn : ∀ L, Fits N es s L → L ∈ rowsI s (s.path.length - 1) := fun L hL => by
    obtain ⟨c1, c2, c3, c4⟩ := cmp_iff.mp hL
    refine mem_rowsI _ L (by omega) (fun j hj => ?_) fun j hj => ?_
    · have := offs_bd _ (c2 j (by omega))
      omega
    · have := (c3 j (by omega)).1
      have := tr (0 + j)
      omega
  unfold leastD
  cases e : admitD N es s with
  | none =>
    rw [List.find?_eq_none]
    intro r hr h
    exact a0 e r ((fit r hr).mp h)
  | some A =>
    obtain ⟨f1, f2⟩ := a1 A e
    have mA := inn A f1
    cases f : (rowsI s (s.path.length - 1)).find? fun r => (judged N (es ++ [⟨s, r⟩])).isNone with
    | none => exact absurd ((fit A mA).mpr f1) (List.find?_eq_none.mp f A mA)
    | some r =>
      have rm := List.mem_of_find?_eq_some f
      have rp := List.find?_some f
      have l1 := f2 r ((fit r rm).mp rp)
      rcases findI_first (rowsI_pw s _) f mA ((fit A mA).mpr f1) with h | h
      · rw [h]
      · rw [lexI_anti (ltI_lex h) l1]
/-- a plan with an admitted stream has no fault -/
theorem admit_judged {N : NetD} {es : List EntD} {s : StrD} (so : SOk N s) (ok : ∀ e ∈ es, EOk N e) (e0 : 0 ≤ N.er) (tr : ∀ h, s.ln ≤ travel N s h) (hj : judged N es = none) {A : List Int} (h : admitD N es s = some A) : judged N (es ++ [⟨s, A⟩]) = none ∧ A.length + 1 = s.path.length ∧ ∀ x ∈ A, 0 ≤ x ∧ x < s.dl := by
  have two := so.po.is.two
  have l0 := so.l0
  obtain ⟨f1, _⟩ := (admit_least so ok).2 A h
  obtain ⟨c1, c2, c3, c4⟩ := cmp_iff.mp f1
  have nn : ∀ x ∈ A, 0 ≤ x ∧ x < s.dl := fun x hx => by
    obtain ⟨j, hj⟩ := List.mem_iff_getElem?.mp hx
    obtain ⟨jl, je⟩ := List.getElem?_eq_some_iff.mp hj
    have := offs_bd _ (c2 j (by omega))
    rw [getD_lt 0 jl, je] at this
    exact this
  exact ⟨(fits_iff so ok e0 (fun h => by have := tr h; omega) hj (by omega) fun x hx => (nn x hx).1).mpr f1, by omega, nn⟩
theorem joined_ge {N : NetD} (wf : NetWf N) (a b : Nat) : 0 ≤ (joined N a b).getD 0 := by
  unfold joined
  cases e : N.ls.find? (hits a b) with
  | none => exact Int.le_refl _
  | some l => exact (wf.ls.dl l (List.mem_of_find?_eq_some e)).1
theorem travel_ge {N : NetD} (wf : NetWf N) (s : StrD) (h : Nat) : s.ln ≤ travel N s h := by
  have h1 := joined_ge wf (s.path.getD h 0) (s.path.getD (h + 1) 0)
  have h2 := wf.p0
  unfold travel
  split <;> omega
end My
namespace My
open PySem PySem.Spec PyProof.Rows L2
abbrev sLedger : Stmt := top 17 /-Ledger-/
abbrev sLdInit : Stmt := inClass sLedger 0 /-Ledger.__init__-/
abbrev sReq : Stmt := inClass sLedger 1 /-Ledger.request-/
abbrev sRel : Stmt := inClass sLedger 2 /-Ledger.release-/
abbrev sLdNames : Stmt := inClass sLedger 3 /-Ledger.names-/
abbrev sLdPlan : Stmt := inClass sLedger 4 /-Ledger.plan-/
abbrev sCopy : Stmt := top 21 /-copy_of-/
def ldF (np d : Addr) : List (Str × V) := [(("net" : Str), .ref np), ("entries", .ref d)]
theorem lf1 {np : Addr} : putF "net" (.ref np) [] = [(("net" : Str), V.ref np)] := rfl
theorem lf2 {np d : Addr} : putF "entries" (.ref d) [(("net" : Str), V.ref np)] = ldF np d := rfl
theorem lg1 {np d : Addr} : (ldF np d).lookup ("net" : Str) = some (.ref np) := rfl
theorem lg2 {np d : Addr} : (ldF np d).lookup ("entries" : Str) = some (.ref d) := rfl
theorem lm1 {np d : Addr} : (ldF np d).lookup ("request" : Str) = none := rfl
theorem lm2 {np d : Addr} : (ldF np d).lookup ("release" : Str) = none := rfl
theorem lm3 {np d : Addr} : (ldF np d).lookup ("names" : Str) = none := rfl
theorem lm4 {np d : Addr} : (ldF np d).lookup ("plan" : Str) = none := rfl
structure LedC (K : PySem.W.Frag) (C : Addr) : Prop where
  cl : Cls K C
  n1 : NoAttr K C "net"
  n2 : NoAttr K C "entries"
/-- what the ledger holds: names and entries -/
abbrev Led := List (Str × EntD)
/-- everything but one dict -/
theorem sql_butK {K : PySem.W.Frag} {H H' : Hp} {d a : Addr} {kvs : List (Key × V)} {xs : List V} (h : SqL K H a xs) (hd : H d = some (.dK kvs)) (kb : But d H H') : SqL K H' a xs := by
  rcases h with (h | ⟨o, h⟩) | h
  · exact .inl (.inl (kb _ _ h (ne_of h hd (by intro z; cases z))))
  · exact .inl (.inr ⟨o, kb _ _ h (ne_of h hd (by intro z; cases z))⟩)
  · exact .inr h
theorem sqt_butK {K : PySem.W.Frag} {H H' : Hp} {d a : Addr} {kvs : List (Key × V)} {xs : List V} (h : SqT K H a xs) (hd : H d = some (.dK kvs)) (kb : But d H H') : SqT K H' a xs := by
  rcases h with (h | ⟨o, h⟩) | h
  · exact .inl (.inl (kb _ _ h (ne_of h hd (by intro z; cases z))))
  · exact .inl (.inr ⟨o, kb _ _ h (ne_of h hd (by intro z; cases z))⟩)
  · exact .inr h
theorem sql_butF {K : PySem.W.Frag} {H H' : Hp} {d a : Addr} {ob : Obj} {kvs : List (Key × V)} {xs : List V} (h : SqL K H a xs) (hd : H d = some (.frz ob (.dK kvs))) (kb : But d H H') : SqL K H' a xs := by
  rcases h with (h | ⟨o, h⟩) | h
  · exact .inl (.inl (kb _ _ h (ne_of h hd (by intro z; cases z))))
  · exact .inl (.inr ⟨o, kb _ _ h (ne_of h hd (by intro z; cases z))⟩)
  · exact .inr h
theorem sqt_butF {K : PySem.W.Frag} {H H' : Hp} {d a : Addr} {ob : Obj} {kvs : List (Key × V)} {xs : List V} (h : SqT K H a xs) (hd : H d = some (.frz ob (.dK kvs))) (kb : But d H H') : SqT K H' a xs := by
  rcases h with (h | ⟨o, h⟩) | h
  · exact .inl (.inl (kb _ _ h (ne_of h hd (by intro z; cases z))))
  · exact .inl (.inr ⟨o, kb _ _ h (ne_of h hd (by intro z; cases z))⟩)
  · exact .inr h
section
variable {K : PySem.W.Frag} {C C2 : Addr} {H H' : Hp} {d : Addr} {kvs : List (Key × V)} {ob : Obj}
theorem StreamAt.butK {p : Addr} {s : StrD} (h : StreamAt C2 H p s) (hd : H d = some (.dK kvs)) (kb : But d H H') : StreamAt C2 H' p s := by
  obtain ⟨dx, lp, h1, h2⟩ := h
  exact ⟨dx, lp, kb _ _ h1 (ne_of h1 hd (by intro z; cases z)), kb _ _ h2 (ne_of h2 hd (by intro z; cases z))⟩
theorem StreamAt.butF {p : Addr} {s : StrD} (h : StreamAt C2 H p s) (hd : H d = some (.frz ob (.dK kvs))) (kb : But d H H') : StreamAt C2 H' p s := by
  obtain ⟨dx, lp, h1, h2⟩ := h
  exact ⟨dx, lp, kb _ _ h1 (ne_of h1 hd (by intro z; cases z)), kb _ _ h2 (ne_of h2 hd (by intro z; cases z))⟩
theorem EntAt.butK {t : Addr} {e : EntD} (h : EntAt K C2 H t e) (hd : H d = some (.dK kvs)) (kb : But d H H') : EntAt K C2 H' t e := by
  obtain ⟨u, lo, h1, h2, h3⟩ := h
  exact ⟨u, lo, sqt_butK h1 hd kb, h2.butK hd kb, sql_butK h3 hd kb⟩
theorem EntAt.butF {t : Addr} {e : EntD} (h : EntAt K C2 H t e) (hd : H d = some (.frz ob (.dK kvs))) (kb : But d H H') : EntAt K C2 H' t e := by
  obtain ⟨u, lo, h1, h2, h3⟩ := h
  exact ⟨u, lo, sqt_butF h1 hd kb, h2.butF hd kb, sql_butF h3 hd kb⟩
theorem NetAt.butK {p : Addr} {N : NetD} (h : NetAt K C H p N) (hd : H d = some (.dK kvs)) (kb : But d H H') : NetAt K C H' p N := by
  obtain ⟨dx, lk, ll, ld, ts, h1, h2, h3, h4, h5⟩ := h
  exact ⟨dx, lk, ll, ld, ts, kb _ _ h1 (ne_of h1 hd (by intro z; cases z)), kb _ _ h2 (ne_of h2 hd (by intro z; cases z)), kb _ _ h3 (ne_of h3 hd (by intro z; cases z)), Paired.imp h4 fun t l z => sqt_butK z hd kb, kb _ _ h5 (ne_of h5 hd (by intro z; cases z))⟩
theorem EntsAt.butK {ts : List Addr} {es : List EntD} (h : EntsAt K C2 H ts es) (hd : H d = some (.dK kvs)) (kb : But d H H') : EntsAt K C2 H' ts es := Paired.imp h fun _ _ z => z.butK hd kb
end
/-- the dict of a ledger -/
abbrev LkAt (K : PySem.W.Frag) (C2 : Addr) (H : Hp) (kvs : List (Key × V)) (E : Led) : Prop := Paired (fun (kv : Key × V) (e : Str × EntD) => kv.1 = Sum.inr e.1 ∧ ∃ t, kv.2 = V.ref t ∧ EntAt K C2 H t e.2) kvs E
theorem LkAt.same {K : PySem.W.Frag} {C2 : Addr} {H H' : Hp} {kvs : List (Key × V)} {E : Led} (h : LkAt K C2 H kvs E) (e : Same H H') : LkAt K C2 H' kvs E := Paired.imp h fun _ _ ⟨z, t, z1, z2⟩ => ⟨z, t, z1, z2.same e⟩
theorem LkAt.butK {K : PySem.W.Frag} {C2 : Addr} {H H' : Hp} {d : Addr} {k2 kvs : List (Key × V)} {E : Led} (h : LkAt K C2 H kvs E) (hd : H d = some (.dK k2)) (kb : But d H H') : LkAt K C2 H' kvs E := Paired.imp h fun _ _ ⟨z, t, z1, z2⟩ => ⟨z, t, z1, z2.butK hd kb⟩
theorem LkAt.names {K : PySem.W.Frag} {C2 : Addr} {H : Hp} : ∀ {kvs : List (Key × V)} {E : Led}, LkAt K C2 H kvs E → (kvs.map fun kv => kV kv.1) = E.map fun e => V.str e.1
  | _, _, .nil => rfl
  | _, _, .cons ⟨a, _⟩ t => by
    rw [List.map_cons, List.map_cons, a, LkAt.names t]
    rfl
theorem LkAt.drop {K : PySem.W.Frag} {C2 : Addr} {H : Hp} {x : Str} : ∀ {kvs : List (Key × V)} {E : Led}, LkAt K C2 H kvs E → LkAt K C2 H (dropK kvs (.inr x)) (E.filter fun e => decide (e.1 ≠ x))
  | _, _, .nil => .nil
  | kv :: kvs, e :: E, .cons r t => by
    have ih := LkAt.drop (x := x) t
    have r1 := r.1
    unfold dropK at ih ⊢
    rw [List.filter_cons, List.filter_cons]
    by_cases z : e.1 = x
    · have z2 : kv.1 = Sum.inr x := by rw [r1, z]
      rw [decide_eq_false (by simpa using z2), decide_eq_false (by simpa using z)]
      exact ih
    · have z2 : ¬ kv.1 = Sum.inr x := by
        rw [r1]
        intro y
        injection y with y
        exact z y
      rw [decide_eq_true z2, decide_eq_true z]
      exact .cons r ih
theorem LkAt.get {K : PySem.W.Frag} {C2 : Addr} {H : Hp} {x : Str} : ∀ {kvs : List (Key × V)} {E : Led}, LkAt K C2 H kvs E → (valV kvs (.inr x)).isSome = decide (x ∈ E.map (·.1))
  | _, _, .nil => rfl
  | kv :: kvs, e :: E, .cons r t => by
    have ih := LkAt.get (x := x) t
    have r1 := r.1
    by_cases z : e.1 = x
    · have z2 : kv.1 = Sum.inr x := by rw [r1, z]
      rw [valV_pos z2, decide_eq_true (by rw [List.map_cons, z]; exact List.mem_cons_self)]
      rfl
    · have z2 : ¬ kv.1 = Sum.inr x := by
        rw [r1]
        intro y
        injection y with y
        exact z y
      rw [valV_neg z2, ih, decide_eq_decide, List.map_cons, List.mem_cons]
      exact ⟨.inr, fun y => y.resolve_left fun w => z w.symm⟩
theorem LkAt.put {K : PySem.W.Frag} {C2 : Addr} {H : Hp} {x : Str} {kvs : List (Key × V)} {E : Led} {t : Addr} {e : EntD} (h : LkAt K C2 H kvs E) (n : x ∉ E.map (·.1)) (hT : EntAt K C2 H t e) : LkAt K C2 H (putK kvs (.inr x) (.ref t)) (E ++ [(x, e)]) := by
  have g := h.get (x := x)
  rw [decide_eq_false n, ← valV_any] at g
  unfold putK
  rw [if_neg (by rw [g]; exact Bool.false_ne_true)]
  exact Paired.snoc (F := fun (kv : Key × V) (e : Str × EntD) => kv.1 = Sum.inr e.1 ∧ ∃ t, kv.2 = V.ref t ∧ EntAt K C2 H t e.2) ⟨rfl, t, rfl, hT⟩ h
/-- a ledger stands at p, its dict at d, its net at np -/
def LedAt (K : PySem.W.Frag) (C C2 C3 : Addr) (H : Hp) (p np d : Addr) (N : NetD) (E : Led) : Prop := ∃ dx kvs, H p = some (.ins C3 dx (ldF np d)) ∧ H d = some (.dK kvs) ∧ LkAt K C2 H kvs E ∧ NetAt K C H np N
theorem LedAt.same {K : PySem.W.Frag} {C C2 C3 : Addr} {H H' : Hp} {p np d : Addr} {N : NetD} {E : Led} (h : LedAt K C C2 C3 H p np d N E) (e : Same H H') : LedAt K C C2 C3 H' p np d N E := by
  obtain ⟨dx, kvs, h1, h2, h3, h4⟩ := h
  exact ⟨dx, kvs, e _ _ h1, e _ _ h2, h3.same e, h4.same e⟩
/-- a copy of an entry, all of it new -/
def CopyAt (C2 : Addr) (H H' : Hp) (t : Addr) (e : EntD) : Prop := ∃ u lo, H' t = some (.tup [.ref u, .ref lo]) ∧ StreamNew C2 H H' u e.s ∧ H' lo = some (.lst (e.os.map V.int)) ∧ H t = none ∧ H u = none ∧ H lo = none
theorem CopyAt.ent {K : PySem.W.Frag} {C2 : Addr} {H H' : Hp} {t : Addr} {e : EntD} (h : CopyAt C2 H H' t e) : EntAt K C2 H' t e := by
  obtain ⟨u, lo, h1, h2, h3, _⟩ := h
  exact ⟨u, lo, SqT.of h1, h2.at, SqL.of h3⟩
theorem CopyAt.same {C2 : Addr} {H H1 H2 : Hp} {t : Addr} {e : EntD} (h : CopyAt C2 H H1 t e) (s : Same H1 H2) : CopyAt C2 H H2 t e := by
  obtain ⟨u, lo, h1, h2, h3, h4⟩ := h
  obtain ⟨dx, lp, g1, g2, g3⟩ := h2
  exact ⟨u, lo, s _ _ h1, ⟨dx, lp, s _ _ g1, s _ _ g2, g3⟩, s _ _ h3, h4⟩
section
variable {P : Program} {w : World} {K : PySem.W.Frag} {mg : Str → Option Value} {base : Heap}
/-! ### copy_of -/
theorem scCopy : FnScope ["entry", "stream", "offsets"] ["entry"] (defScope sCopy) := ⟨rfl, rfl, rfl, by decide +kernel, rfl, by decide +kernel, by decide +kernel⟩
def spCopy (K : PySem.W.Frag) (C2 : Addr) : Sp := fun vs H Q _ => ∃ (t : Addr) (e : EntD), vs = [.ref t] ∧ EntAt K C2 H t e ∧ ∀ H' t', Same H H' → CopyAt C2 H H' t' e → Q (.ref t') H'
theorem ok_copy {f C2 fS : Addr} {fd fdS : FuncData} {k : Nat} (F : Fun K "copy_of" "copy_of" sCopy f fd) (T : Blt mg) (c2 : StrC K C2) (GS : StrMk P w K mg base C2 fS fdS) : FnOk P w K mg base CX0 (k + 3) f fd ["entry"] (spCopy K C2) := by
  refine F.ok scCopy (fun vs H Q E h => ?_) (fun cdv A0 outer s0 H vs Q E hr h => ?_)
  · obtain ⟨t, e, rfl, _⟩ := h
    rfl
  · obtain ⟨t, e, rfl, hE, q⟩ := h
    have nd := scCopy.nd
    have hr2 : Room 2 _ := hr.mono (by omega)
    refine ⟨_, pss_cons (ps_asg (pv 0) (pg_tup rfl (pgs_cons (pg_name (i := 1) nd rfl (.inl rfl)) (pgs_cons (pg_name (i := 2) nd rfl (.inl rfl)) pgs_nil)))) <| pss_one (ps_ret (pe_tup (pa_cons (pe_make GS.mkC GS.ok hr2 (by rfl) GS.mg GS.b .nil pass0 (pa_cons (pe_fld (pv 1) rfl) (pa_cons (pe_fld (pv 1) rfl) (pa_cons (pe_fld (pv 1) rfl) (pa_cons (pe_fld (pv 1) rfl) pa_nil))))) (pa_cons (pe_callTy call_list_of (by rfl) T.list (by decide +kernel) (pa_cons (pv 2) pa_nil)) pa_nil)))), ?_⟩
    obtain ⟨u, lo, h1, hS, hlo⟩ := id hE
    obtain ⟨dx, lp, e1, e2⟩ := id hS
    refine ⟨_, rfl, t, _, rfl, h1, rfl, _, _, rfl, _, _, rfl, rfl, ?_⟩
    refine ⟨_, rfl, u, C2, dx, _, _, rfl, e1, c2.cl, c2.n1, sg1, _, rfl, u, C2, dx, _, _, rfl, e1, c2.cl, c2.n2, sg2, _, rfl, u, C2, dx, _, _, rfl, e1, c2.cl, c2.n3, sg3, _, rfl, u, C2, dx, _, _, rfl, e1, c2.cl, c2.n4, sg4, ?_⟩
    refine fun x dy nx ndy nex => ⟨x, dy, lp, e.s, rfl, upd_same, SqL.of (same_make0 nx ndy _ _ e2), fun H6 kb6 hS6 => ⟨rfl, ?_⟩⟩
    have s6 := same_make nx ndy kb6
    refine ⟨_, rfl, lo, _, rfl, .inl (s6.seq hlo), fun l nl => ⟨by show 2 ≤ sizeLine; decide, fun t' nt' => ?_⟩⟩
    have w1 := same_new (o := .lst (e.os.map V.int)) nl
    have w2 := same_new (o := .tup [V.ref x, V.ref l]) nt'
    obtain ⟨dz, lz, z1, z2, z3⟩ := hS6
    have z4 : H lz = none := by
      cases z : H lz with
      | none => rfl
      | some o => rw [same_make0 nx ndy _ _ z] at z3; cases z3
    exact q _ t' (s6.trans (w1.trans w2)) ⟨x, l, upd_same, ⟨dz, lz, (w1.trans w2) _ _ z1, (w1.trans w2) _ _ z2, z4⟩, w2 _ _ upd_same, (s6.trans w1).free nt', nx, s6.free nl⟩
/-! ### Ledger.__init__ -/
theorem scLdInit : FnScope ["self", "net"] ["self", "net"] (defScope sLdInit) := ⟨rfl, rfl, rfl, by decide +kernel, rfl, by decide +kernel, by decide +kernel⟩
def spLdInit (C3 : Addr) : Sp := fun vs H Q _ => ∃ (p dx np : Addr), vs = [.ref p, .ref np] ∧ H p = some (.ins C3 dx []) ∧ ∀ (H' : Hp) (d : Addr), But p H H' → H d = none → H' p = some (.ins C3 dx (ldF np d)) → H' d = some (.dK []) → Q .non H'
theorem ok_ldinit {f C3 : Addr} {fd : FuncData} {k : Nat} (F : Fun K "__init__" "Ledger.__init__" sLdInit f fd) (c : LedC K C3) : FnOk P w K mg base CX0 (k + 1) f fd ["self", "net"] (spLdInit C3) := by
  refine F.ok scLdInit (fun vs H Q E h => ?_) (fun cdv A0 outer s0 H vs Q E hr h => ?_)
  · obtain ⟨p, dx, np, rfl, _⟩ := h
    rfl
  · obtain ⟨p, dx, np, rfl, hp, q⟩ := h
    have nd := scLdInit.nd
    refine ⟨_, PSs.nox (pss_cons (ps_fld (pv 0) (pv 1) rfl) <| pss_one (ps_fld (pv 0) pe_dnewK rfl)), ?_⟩
    refine ⟨_, rfl, _, rfl, p, C3, dx, [], rfl, hp, c.cl, c.n1, (by show 0 < 1000; decide), ?_⟩
    refine fun d nd => ?_
    rw [lf1] at nd ⊢
    have npd : p ≠ d := ne_of_none (upd_same (H := H) (a := p) (o := .ins C3 dx [(("net" : Str), V.ref np)])) nd
    refine ⟨_, rfl, p, C3, dx, _, rfl, (by rw [upd_ne npd]; exact upd_same), c.cl, c.n2, (by show 1 < 1000; decide), ?_⟩
    rw [lf2]
    have ndH : H d = none := by rw [upd_ne npd.symm] at nd; exact nd
    refine q _ d (fun b o z n => ?_) ndH upd_same (by rw [upd_ne npd.symm, upd_same])
    rw [upd_ne n, upd_ne (ne_of_none z ndH), upd_ne n]
    exact z
/-! ### names -/
theorem scLdNames : FnScope ["self"] ["self"] (defScope sLdNames) := ⟨rfl, rfl, rfl, by decide +kernel, rfl, by decide +kernel, by decide +kernel⟩
def spLdNames (K : PySem.W.Frag) (C C2 C3 : Addr) : Sp := fun vs H Q _ => ∃ (p np d : Addr) (N : NetD) (E : Led), vs = [.ref p] ∧ LedAt K C C2 C3 H p np d N E ∧ ∀ H' l, Same H H' → H l = none → H' l = some (.lst (E.map fun e => V.str e.1)) → Q (.ref l) H'
theorem ok_ldnames {f C C2 C3 : Addr} {fd : FuncData} {k : Nat} (F : Fun K "names" "Ledger.names" sLdNames f fd) (T : Blt mg) (c : LedC K C3) : FnOk P w K mg base CX0 (k + 1) f fd ["self"] (spLdNames K C C2 C3) := by
  refine F.ok scLdNames (fun vs H Q E h => ?_) (fun cdv A0 outer s0 H vs Q E hr h => ?_)
  · obtain ⟨p, np, d, N, E, rfl, _⟩ := h
    rfl
  · obtain ⟨p, np, d, N, E, rfl, ⟨dx, kvs, hp, hd, hk, _⟩, q⟩ := h
    have nd := scLdNames.nd
    refine ⟨_, pss_one (ps_ret (pe_callTy (call_list_dK rfl) (by rfl) T.list (by decide +kernel) (pa_cons (pe_fld (pv 0) rfl) pa_nil))), ?_⟩
    refine ⟨_, rfl, p, C3, dx, _, _, rfl, hp, c.cl, c.n2, lg2, d, kvs, rfl, hd, fun l nl => ?_⟩
    exact q _ l (same_new nl) nl (by rw [upd_same, hk.names])
end
end My
namespace My
open PySem PySem.Spec PyProof.Rows L2
/-- over the values of a dict that is locked -/
theorem lc_valsI {d : Addr} {o : Obj} {kvs : List (Key × V)} {g : TG} {tt : TT} {te : TE} {vs : List Nat} {σ : L2.St} {H1 : Hp} {D : Addr} {Qd : Hp → Prop} (Pv : Nat → Hp → Prop) (h0 : Pv 0 (upd H1 D (.lst []))) (hl : ∀ i H, i ≤ kvs.length → Pv i H → H d = some (.frz o (.dK kvs)))
    (hs : ∀ i kv H, kvs[i]? = some kv → Pv i H → g kv.2 (wipe σ vs) H fun σ2 H2 => wipe σ2 vs = wipe σ vs ∧ tt σ2 H2 fun b H3 =>
      if b = true then te σ2 H3 fun y H4 => ∃ ac, H4 D = some (.lst ac) ∧ ac.length < sizeLine ∧ Pv (i + 1) (upd H4 D (.lst (ac ++ [y]))) else Pv (i + 1) H3) (hd : ∀ H, Pv kvs.length H → Qd H) :
    ∃ W : Nat → Nat → Hp → Prop, (∃ m, W 0 m (upd H1 D (.lst []))) ∧ ∀ i m H, W i m H →
      ((Itd d o kvs).stop i H ∧ Qd H) ∨ ((Itd d o kvs).go i H ∧ ∃ Nx : Hp → Prop, (∀ H', Nx H' → ∃ m', m' < m ∧ W (i + 1) m' H') ∧ ∀ x H', (Itd d o kvs).yld i H x H' → g x (wipe σ vs) H' fun σ2 H2 => wipe σ2 vs = wipe σ vs ∧ tt σ2 H2 fun b H3 =>
        if b = true then te σ2 H3 fun y H4 => ∃ ac, H4 D = some (.lst ac) ∧ ac.length < sizeLine ∧ Nx (upd H4 D (.lst (ac ++ [y]))) else Nx H3) := by
  refine ⟨fun i m H => m = kvs.length - i ∧ i ≤ kvs.length ∧ Pv i H, ⟨kvs.length, by simp, Nat.zero_le _, h0⟩, ?_⟩
  rintro i m H ⟨rfl, hi, p⟩
  have q := hl i H hi p
  by_cases hlt : i < kvs.length
  · refine .inr ⟨⟨q, by omega⟩, Pv (i + 1), fun H' p' => ⟨kvs.length - (i + 1), by omega, rfl, hlt, p'⟩, fun x H' y => ?_⟩
    obtain ⟨rfl, k, e1⟩ := y
    exact hs i (k, x) H' e1 p
  · have e : i = kvs.length := by omega
    subst e
    exact .inl ⟨⟨q, by omega⟩, hd H p⟩
theorem CopyAt.butL {C2 : Addr} {H H1 H2 : Hp} {t D : Addr} {ts : List Addr} {e : EntD} (h : CopyAt C2 H H1 t e) (n1 : e.s.path ≠ []) (n2 : e.os ≠ []) (hD : H1 D = some (.lst (ts.map V.ref))) (kb : But D H1 H2) : CopyAt C2 H H2 t e := by
  obtain ⟨u, lo, h1, ⟨dx, lp, h2, h3, h6⟩, h4, h5⟩ := h
  have nlo : lo ≠ D := fun z => by
    subst z
    rw [hD] at h4
    injection h4 with h4
    injection h4 with h4
    cases z : e.os with
    | nil => exact n2 z
    | cons o r =>
      rw [z] at h4
      cases ts with
      | nil => cases h4
      | cons t r => injection h4 with h4 _; cases h4
  exact ⟨u, lo, kb _ _ h1 (ne_of h1 hD (by intro z; cases z)), ⟨dx, lp, kb _ _ h2 (ne_of h2 hD (by intro z; cases z)), kb _ _ h3 (row_ne n1 h3 hD), h6⟩, kb _ _ h4 nlo, h5⟩
section
variable {P : Program} {w : World} {K : PySem.W.Frag} {mg : Str → Option Value} {base : Heap}
/-! ### release -/
theorem scRel : FnScope ["self", "name"] ["self", "name"] (defScope sRel) := ⟨rfl, rfl, rfl, by decide +kernel, rfl, by decide +kernel, by decide +kernel⟩
def spRel (K : PySem.W.Frag) (C C2 C3 : Addr) : Sp := fun vs H Q _ => ∃ (p np d : Addr) (N : NetD) (E : Led) (x : Str), vs = [.ref p, .str x] ∧ LedAt K C C2 C3 H p np d N E ∧
  (x ∉ E.map (·.1) → ∀ H', Same H H' → Q (.bl false) H') ∧ (x ∈ E.map (·.1) → ∀ H', But d H H' → LedAt K C C2 C3 H' p np d N (E.filter fun e => decide (e.1 ≠ x)) → Q (.bl true) H')
theorem ok_rel {f C C2 C3 : Addr} {fd : FuncData} {k : Nat} (F : Fun K "release" "Ledger.release" sRel f fd) (c : LedC K C3) : FnOk P w K mg base CX0 (k + 1) f fd ["self", "name"] (spRel K C C2 C3) := by
  refine F.ok scRel (fun vs H Q E h => ?_) (fun cdv A0 outer s0 H vs Q E hr h => ?_)
  · obtain ⟨p, np, d, N, E, x, rfl, _⟩ := h
    rfl
  · obtain ⟨p, np, d, N, E, x, rfl, ⟨dx, kvs, hp, hd, hk, hN⟩, q0, q1⟩ := h
    have nd := scRel.nd
    have hu := hu_of hr
    refine ⟨_, pss_cons (ps_if (pt_cmp (pc_dnotin hu (pv 1) (pe_fld (pv 0) rfl))) (pss_one (ps_ret pe_bl)) (pss_nil)) <| pss_cons (ps_ddel (pe_fld (pv 0) rfl) (pv 1)) <| pss_one (ps_ret pe_bl), ?_⟩
    have g := hk.get (x := x)
    refine ⟨_, rfl, _, rfl, p, C3, dx, _, _, rfl, hp, c.cl, c.n2, lg2, d, _, rfl, DGet.k (k := .inr x) hd, _, rfl, ite2 (fun z => ?_) (fun z => ?_)⟩
    · have n : x ∉ E.map (·.1) := fun y => by
        rw [g, decide_eq_true y] at z
        cases z
      exact q0 n _ (Same.refl _)
    · have y : x ∈ E.map (·.1) := by
        refine Decidable.byContradiction fun n => z ?_
        rw [g, decide_eq_false n]
        rfl
      rw [decide_eq_true y] at g
      refine ⟨_, rfl, p, C3, dx, _, _, rfl, hp, c.cl, c.n2, lg2, _, rfl, d, kvs, .inr x, rfl, hd, rfl, g, ?_⟩
      have kb : But d H (upd H d (.dK (dropK kvs (.inr x)))) := but_self
      exact q1 y _ kb ⟨dx, _, kb _ _ hp (ne_of hp hd (by intro z; cases z)), upd_same, (hk.butK hd kb).drop, hN.butK hd kb⟩
/-! ### plan -/
theorem scLdPlan : FnScope ["self", "entry"] ["self"] (defScope sLdPlan) := ⟨rfl, rfl, rfl, by decide +kernel, rfl, by decide +kernel, by decide +kernel⟩
def spLdPlan (K : PySem.W.Frag) (C C2 C3 : Addr) : Sp := fun vs H Q _ => ∃ (p np d : Addr) (N : NetD) (E : Led), vs = [.ref p] ∧ LedAt K C C2 C3 H p np d N E ∧ E.length ≤ 100 ∧ (∀ e ∈ E, e.2.s.path ≠ [] ∧ e.2.os ≠ []) ∧ ∀ H' l us, Same H H' → H l = none → H' l = some (.lst (us.map V.ref)) → Paired (CopyAt C2 H H') us (E.map (·.2)) → Q (.ref l) H'
theorem ok_ldplan {f C C2 C3 fC : Addr} {fd fdC : FuncData} {k : Nat} (F : Fun K "plan" "Ledger.plan" sLdPlan f fd) (c : LedC K C3) (GC : Callee P w K mg base 3 "copy_of" ["entry"] (spCopy K C2) fC fdC) : FnOk P w K mg base CX0 (k + 4) f fd ["self"] (spLdPlan K C C2 C3) := by
  refine F.ok scLdPlan (fun vs H Q E h => ?_) (fun cdv A0 outer s0 H vs Q E hr h => ?_)
  · obtain ⟨p, np, d, N, E, rfl, _⟩ := h
    rfl
  · obtain ⟨p, np, d, N, E, rfl, ⟨dx, kvs, hp, hd, hk, hN⟩, le, hne, q⟩ := h
    have nd := scLdPlan.nd
    have hr3 : Room 3 _ := hr.mono (by omega)
    -- ["self", "entry"]
    refine ⟨_, pss_one (ps_lock (ps_ret (pe_lc (own := [("entry", 1)]) (g := gName 1) (tt := tYes) rfl nd (pi_values (pe_fld (pv 0) rfl)) (blkOk_by (own := [("entry", 1)]) (N := ["self", "entry"]) (sc := defScope sLdPlan) (by decide +kernel)) (fun _ _ _ _ _ => pg_name (i := 1) nd rfl (Or.inl rfl)) (fun _ _ _ _ _ => pts_nil) (fun _ _ _ _ _ => (pe_call GC.ok hr3 (by rfl) GC.mg GC.kp GC.b .nil pass0 (pa_cons (pv 1) pa_nil)))))), ?_⟩
    have lk : kvs.length = E.length := hk.length
    refine ⟨d, .dK kvs, hd, True.intro, fun od => ?_⟩
    have b7 : But d H (upd H d (.frz od (.dK kvs))) := but_self
    have hw7 := upd_same (H := H) (a := d) (o := .frz od (.dK kvs))
    have fr7 : ∀ a, (upd H d (.frz od (.dK kvs))) a = none → H a = none := fun a z => by
      by_cases e : a = d
      · rw [e, upd_same] at z
        cases z
      · rw [upd_ne e] at z
        exact z
    have hk7 : LkAt K C2 (upd H d (.frz od (.dK kvs))) kvs E := hk.butK hd b7
    revert b7 hw7 fr7 hk7
    generalize upd H d (.frz od (.dK kvs)) = H7
    intro b7 hw7 fr7 hk7
    refine ⟨_, rfl, p, C3, dx, _, _, rfl, b7 _ _ hp (ne_of hp hd (by intro z; cases z)), c.cl, c.n2, lg2, d, od, kvs, rfl, hw7, fun D nD => ?_⟩
    refine lc_valsI (fun j H' => Same H7 H' ∧ ∃ us : List Addr, H' D = some (.lst (us.map V.ref)) ∧ Paired (CopyAt C2 H7 H') us ((E.map (·.2)).take j) ∧ us.length = j) ⟨same_new nD, [], upd_same, .nil, rfl⟩ (fun j H' _ z => z.1 _ _ hw7) ?_ ?_
    · rintro j kv H8 hj ⟨sm, us, hD, hC, lu⟩
      obtain ⟨e, ee, e1, t, e2, hT⟩ := Paired.at hk7 hj
      have em := List.mem_of_getElem? ee
      have jl := (List.getElem?_eq_some_iff.mp ee).1
      have ne := hne e em
      rw [e2]
      refine ⟨rfl, _, rfl, t, e.2, rfl, hT.same sm, fun H9 t' s9 cp => ?_⟩
      have hD9 := s9 _ _ hD
      refine ⟨_, hD9, szl (by rw [List.length_map]; omega), same_but (sm.trans s9) nD but_self, us ++ [t'], ?_, ?_, by rw [List.length_append, lu]; rfl⟩
      · rw [upd_same, List.map_append]
        rfl
      · rw [take_snoc (by rw [List.getElem?_map, ee]; rfl)]
        have fr : ∀ a, H8 a = none → H7 a = none := fun a z => sm.free z
        have hne2 : ∀ e ∈ (E.map (·.2)).take j, e.s.path ≠ [] ∧ e.os ≠ [] := fun x hx => by
          obtain ⟨y, hy, rfl⟩ := List.mem_map.mp (List.mem_of_mem_take hx)
          exact hne y hy
        refine Paired.snoc (F := CopyAt C2 H7 _) ?_ (Paired.imp2 hC hne2 fun t e z w => (z.same s9).butL w.1 w.2 hD9 but_self)
        obtain ⟨u, lo, c1, ⟨dz, lz, z1, z2, z3⟩, c3, c4, c5, c6⟩ := cp
        exact CopyAt.butL ⟨u, lo, c1, ⟨dz, lz, z1, z2, fr _ z3⟩, c3, fr _ c4, fr _ c5, fr _ c6⟩ ne.1 ne.2 hD9 but_self
    rintro H8 ⟨s8, us, hD, hC, lu⟩
    rw [lk, ← List.length_map (f := (·.2)) (as := E), List.take_length] at hC
    have hw8 := s8 _ _ hw7
    refine ⟨hw8, ?_⟩
    have S8 : Same H (upd H8 d (.dK kvs)) := fun b v z => by
      by_cases e : b = d
      · rw [e] at z ⊢
        rw [upd_same, ← hd]
        exact z
      · rw [upd_ne e]
        exact s8 _ _ (b7 _ _ z e)
    have kb : But d H8 (upd H8 d (.dK kvs)) := but_self
    have lD := fr7 D nD
    refine q _ D us S8 lD (kb _ _ hD (ne_of hD hw8 (by intro z; cases z))) (Paired.imp hC fun t e z => ?_)
    obtain ⟨u, lo, c1, ⟨dz, lz, z1, z2, z3⟩, c3, c4, c5, c6⟩ := z
    exact ⟨u, lo, kb _ _ c1 (ne_of c1 hw8 (by intro z; cases z)), ⟨dz, lz, kb _ _ z1 (ne_of z1 hw8 (by intro z; cases z)), kb _ _ z2 (ne_of z2 hw8 (by intro z; cases z)), fr7 _ z3⟩, kb _ _ c3 (ne_of c3 hw8 (by intro z; cases z)), fr7 _ c4, fr7 _ c5, fr7 _ c6⟩
end
end My
namespace My
open PySem PySem.Spec PyProof.Rows L2
section
variable {P : Program} {w : World} {K : PySem.W.Frag} {mg : Str → Option Value} {base : Heap}
/-! ### request -/
theorem scReq : FnScope ["self", "name", "stream", "offsets"] ["self", "name", "stream"] (defScope sReq) := ⟨rfl, rfl, rfl, by decide +kernel, rfl, by decide +kernel, by decide +kernel⟩
abbrev esE (E : Led) : List EntD := E.map (·.2)
def spReq (K : PySem.W.Frag) (C C2 C3 : Addr) : Sp := fun vs H Q _ => ∃ (p np d u : Addr) (N : NetD) (E : Led) (x : Str) (s : StrD), vs = [.ref p, .str x, .ref u] ∧ LedAt K C C2 C3 H p np d N E ∧ POk N (esE E) ∧ E.length ≤ 100 ∧ StreamAt C2 H u s ∧ SOk N s ∧
  (x ∈ E.map (·.1) → ∀ H', Same H H' → Q .non H') ∧ (x ∉ E.map (·.1) → admitD N (esE E) s = none → ∀ H', Same H H' → Q .non H') ∧
  (x ∉ E.map (·.1) → ∀ l, admitD N (esE E) s = some l → ∀ (H' : Hp) (r : Addr), But d H H' → H r = none → H' r = some (.lst (l.map V.int)) → LedAt K C C2 C3 H' p np d N (E ++ [(x, ⟨s, l⟩)]) → (∀ zs, LedAt K C C2 C3 (upd H' r (.lst zs)) p np d N (E ++ [(x, ⟨s, l⟩)])) → Q (.ref r) H')
theorem ok_req {f C C2 C3 fA fP fC : Addr} {fd fdA fdP fdC : FuncData} {k : Nat} (F : Fun K "request" "Ledger.request" sReq f fd) (c : LedC K C3) (GAd : Callee P w K mg base 7 "admit" ["net", "plan", "stream"] (spAdmit K C C2) fA fdA) (mPl : Meth K C3 "plan" fP) (GPl : MethOf P w K mg base 4 ["self"] (spLdPlan K C C2 C3) fP fdP) (GC : Callee P w K mg base 3 "copy_of" ["entry"] (spCopy K C2) fC fdC) : FnOk P w K mg base CX0 (k + 8) f fd ["self", "name", "stream"] (spReq K C C2 C3) := by
  refine F.ok scReq (fun vs H Q E h => ?_) (fun cdv A0 outer s0 H vs Q E hr h => ?_)
  · obtain ⟨p, np, d, u, N, E, x, s, rfl, _⟩ := h
    rfl
  · obtain ⟨p, np, d, u, N, E, x, s, rfl, ⟨dx, kvs, hp, hd, hk, hN⟩, po, le, hS, so, q0, q1, q2⟩ := h
    have nd := scReq.nd
    have hu := hu_of hr
    have hr7 : Room 7 _ := hr.mono (by omega)
    have hr4 : Room 4 _ := hr.mono (by omega)
    have hr3 : Room 3 _ := hr.mono (by omega)
    -- ["self", "name", "stream", "offsets"]
    refine ⟨_, pss_cons (ps_if (pt_cmp (pc_din hu (pv 1) (pe_fld (pv 0) rfl))) (pss_one (ps_ret pe_non)) (pss_nil)) <| pss_cons (ps_set (i := 3) nd rfl (.inl rfl) (pe_call GAd.ok hr7 (by rfl) GAd.mg GAd.kp GAd.b .nil pass0 (pa_cons (pe_fld (pv 0) rfl) (pa_cons (pe_meth0 (pv 0) c.cl mPl GPl.ok hr4 GPl.b .nil pass0) (pa_cons (pv 2) pa_nil))))) <| pss_cons (ps_if (pt_cmpR op_notN (pv 3) pe_non (nomark _)) (pss_one (ps_dput hu (pe_fld (pv 0) rfl) (pv 1) (pe_call GC.ok hr3 (by rfl) GC.mg GC.kp GC.b .nil pass0 (pa_cons (pe_tup (pa_cons (pv 2) (pa_cons (pv 3) pa_nil))) pa_nil)) rfl)) (pss_nil)) <| pss_one (ps_ret (pv 3)), ?_⟩
    have g := hk.get (x := x)
    refine ⟨_, rfl, _, rfl, p, C3, dx, _, _, rfl, hp, c.cl, c.n2, lg2, d, _, rfl, DGet.k (k := .inr x) hd, _, rfl, ite2 (fun z => ?_) (fun z => ?_)⟩
    · have y : x ∈ E.map (·.1) := by
        refine Decidable.byContradiction fun n => ?_
        rw [g, decide_eq_false n] at z
        cases z
      exact q0 y _ (Same.refl _)
    have n : x ∉ E.map (·.1) := fun y => by
      rw [g, decide_eq_true y] at z
      exact z rfl
    have hne : ∀ e ∈ E, e.2.s.path ≠ [] ∧ e.2.os ≠ [] := fun e he => (po.ok e.2 (List.mem_map.mpr ⟨e, he, rfl⟩)).ne
    refine ⟨_, rfl, p, C3, dx, _, _, rfl, hp, c.cl, c.n1, lg1, _, rfl, p, dx, _, rfl, hp, lm4, p, np, d, N, E, rfl, ⟨dx, kvs, hp, hd, hk, hN⟩, le, hne, fun H1 l us s1 nl hl hC => ?_⟩
    have hE1 : EntsAt K C2 H1 us (esE E) := Paired.imp hC fun _ _ z => z.ent
    refine ⟨_, rfl, np, l, u, N, us, esE E, s, rfl, hN.same s1, po, SqL.of hl, hE1, hS.same s1, so, fun e H2 s2 => ?_, fun A e H2 r s2 nr hr => ?_⟩
    · exact ⟨_, rfl, rfl, _, rfl, iteF ⟨_, rfl, q1 n e _ (s1.trans s2)⟩⟩
    · have S2 := s1.trans s2
      refine ⟨_, rfl, rfl, _, rfl, iteT ?_⟩
      refine ⟨_, rfl, _, rfl, by show 2 ≤ sizeLine; decide, fun t nt => ?_⟩
      have w1 := same_new (o := .tup [V.ref u, V.ref r]) nt
      have S3 := S2.trans w1
      refine ⟨t, ⟨s, A⟩, rfl, ⟨u, r, SqT.of upd_same, hS.same S3, SqL.of (w1 _ _ hr)⟩, fun H4 t' s4 cp => ?_⟩
      have S4 := S3.trans s4
      have hd4 := S4 _ _ hd
      have nr0 : H r = none := s1.free nr
      have lk : kvs.length = E.length := hk.length
      refine ⟨_, rfl, p, C3, dx, _, _, rfl, S4 _ _ hp, c.cl, c.n2, lg2, _, rfl, d, upd H4 d (.dK (putK kvs (.inr x) (.ref t'))), rfl, DPut.k (k := .inr x) hd4 (szl (by omega)), ?_⟩
      have kb : But d H4 (upd H4 d (.dK (putK kvs (.inr x) (.ref t')))) := but_self
      have hr4 := (w1.trans s4) _ _ hr
      have nrd : r ≠ d := ne_of hr4 hd4 (by intro z; cases z)
      obtain ⟨u', lo, c1, ⟨dz, lz, z1, z2, z3⟩, c3, c4, c5, c6⟩ := id cp
      have hr3' := w1 _ _ hr
      have nr1 : ∀ a, (upd H2 t (.tup [V.ref u, V.ref r])) a = none → a ≠ r := fun a z y => by
        rw [y, hr3'] at z
        cases z
      have kb2 : ∀ zs, But d H (upd (upd H4 d (.dK (putK kvs (.inr x) (.ref t')))) r (.lst zs)) := fun zs b o z nb => by
        rw [upd_ne (ne_of_none z nr0), upd_ne nb]
        exact S4 _ _ z
      have mv : ∀ zs a o, H4 a = some o → a ≠ r → a ≠ d → (upd (upd H4 d (.dK (putK kvs (.inr x) (.ref t')))) r (.lst zs)) a = some o := fun zs a o z n1 n2 => by
        rw [upd_ne n1, upd_ne n2]
        exact z
      refine ⟨_, rfl, q2 n A e _ r (fun b o z nb => kb _ _ (S4 _ _ z) nb) nr0 (kb _ _ hr4 nrd) ⟨dx, _, kb _ _ (S4 _ _ hp) (ne_of (S4 _ _ hp) hd4 (by intro z; cases z)), upd_same, ((hk.same S4).butK hd4 kb).put n (cp.ent.butK hd4 kb), (hN.same S4).butK hd4 kb⟩ fun zs => ?_⟩
      refine ⟨dx, _, kb2 zs _ _ hp (ne_of hp hd (by intro z; cases z)), by rw [upd_ne nrd.symm, upd_same], (hk.butK hd (kb2 zs)).put n ⟨u', lo, SqT.of (mv zs _ _ c1 (nr1 _ c4) (ne_of c1 hd4 (by intro z; cases z))), ⟨dz, lz, mv zs _ _ z1 (nr1 _ c5) (ne_of z1 hd4 (by intro z; cases z)), mv zs _ _ z2 (nr1 _ z3) (ne_of z2 hd4 (by intro z; cases z))⟩, SqL.of (mv zs _ _ c3 (nr1 _ c6) (ne_of c3 hd4 (by intro z; cases z)))⟩, hN.butK hd (kb2 zs)⟩
end
end My
/-! A plan without a fault keeps its windows apart. No row. -/
namespace My
open PySem PySem.Spec PyProof.Rows L2
theorem apart {w v : Win} (hm : meetB w v = false) (hw : 1 ≤ w.2.1) (hv : 1 ≤ v.2.1) (pw : 0 < w.2.2) (k m : Int) : w.1 + k * w.2.2 + w.2.1 ≤ v.1 + m * v.2.2 ∨ v.1 + m * v.2.2 + v.2.1 ≤ w.1 + k * w.2.2 := by
  refine Classical.byContradiction fun n => ?_
  have n1 : v.1 + m * v.2.2 - (w.1 + k * w.2.2) < w.2.1 := by omega
  have n2 : -(v.1 + m * v.2.2 - (w.1 + k * w.2.2)) < v.2.1 := by omega
  have g0 : 0 < gcdW w v := by
    unfold gcdW
    have := Nat.gcd_pos_of_pos_left (v.2.2.natAbs) (show 0 < w.2.2.natAbs by omega)
    omega
  have d1 : gcdW w v ∣ w.2.2 := by
    unfold gcdW
    exact Int.ofNat_dvd_left.mpr (Nat.gcd_dvd_left _ _)
  have d2 : gcdW w v ∣ v.2.2 := by
    unfold gcdW
    exact Int.ofNat_dvd_left.mpr (Nat.gcd_dvd_right _ _)
  have d3 : gcdW w v ∣ k * w.2.2 - m * v.2.2 := Int.dvd_sub (Int.dvd_mul_of_dvd_right d1) (Int.dvd_mul_of_dvd_right d2)
  obtain ⟨t, ht⟩ := d3
  have hm' : (decide ((v.1 - w.1) % gcdW w v < w.2.1) || decide ((w.1 - v.1) % gcdW w v < v.2.1)) = false := by
    unfold meetB at hm
    rw [decide_eq_false (show ¬ w.2.1 = 0 by omega), decide_eq_false (show ¬ v.2.1 = 0 by omega)] at hm
    exact hm
  generalize gcdW w v = g at *
  have e1 : (v.1 - w.1) % g = (v.1 + m * v.2.2 - (w.1 + k * w.2.2)) % g := by
    rw [show v.1 - w.1 = (v.1 + m * v.2.2 - (w.1 + k * w.2.2)) + g * t by omega, Int.add_mul_emod_self_left]
  have e2 : (w.1 - v.1) % g = (-(v.1 + m * v.2.2 - (w.1 + k * w.2.2))) % g := by
    rw [show w.1 - v.1 = -(v.1 + m * v.2.2 - (w.1 + k * w.2.2)) + g * (-t) by rw [Int.mul_neg]; omega, Int.add_mul_emod_self_left]
  have le : ∀ a : Int, 0 ≤ a → a % g ≤ a := fun a ha => by
    by_cases z : a < g
    · rw [Int.emod_eq_of_lt ha z]; exact Int.le_refl _
    · have := Int.emod_lt_of_pos a g0
      omega
  rw [Bool.or_eq_false_iff, decide_eq_false_iff_not, decide_eq_false_iff_not, e1, e2] at hm'
  by_cases z : 0 ≤ v.1 + m * v.2.2 - (w.1 + k * w.2.2)
  · have := le _ z
    omega
  · have := le (-(v.1 + m * v.2.2 - (w.1 + k * w.2.2))) (by omega)
    omega
theorem fine_of {N : NetD} {es : List EntD} {er : List Int} {c : Nat} (hok : ∀ e ∈ es, EOk N e) (hln : ∀ e ∈ es, e.s.ln ≤ e.s.pe) (htr : ∀ e ∈ es, ∀ h, e.s.ln ≤ travel N e.s h) (hE : 0 ≤ N.er) (her : ∀ n, -N.er ≤ er.getD n 0 ∧ er.getD n 0 ≤ N.er) (hj : judged N es = none) : FineW N es er c := by
  obtain ⟨ja, jt⟩ := judged_none.mp hj
  have ent : ∀ {w : W3}, w ∈ wins es c → w.1 < es.length ∧ w.2.1 < (entW es w).os.length ∧ entW es w ∈ es := fun {w} hw => by
    obtain ⟨⟨a, b⟩, _⟩ := mem_wins.mp hw
    exact ⟨a, b, List.mem_of_getElem? (entW_at a)⟩
  have pf : ∀ {w x : W3}, w ∈ wins es c → x ∈ wins es c → w.1 ≤ x.1 → portW es w = portW es x → pairF N (entW es w) (entW es x) w.1 x.1 w.2.1 x.2.1 = none := fun {w x} hw hx hle hp => tog_none.mp (jt x.1 (ent hx).1 w.1 hle) w.2.1 (ent hw).2.1 x.2.1 (ent hx).2.1 hp
  have aw : ∀ w : W3, awW N es er w = arr N (entW es w) (w.2.1 - 1) + er.getD ((entW es w).s.path.getD (w.2.1 - 1) 0) 0 + (w.2.2 : Int) * (entW es w).s.pe := fun w => by
    unfold awW trW stW arr prW entW
    show (es.getD w.1 nilE).os.getD (w.2.1 - 1) 0 + er.getD ((es.getD w.1 nilE).s.path.getD (w.2.1 - 1) 0) 0 + (w.2.2 : Int) * (es.getD w.1 nilE).s.pe + travel N (es.getD w.1 nilE).s (w.2.1 - 1) = (es.getD w.1 nilE).os.getD (w.2.1 - 1) 0 + travel N (es.getD w.1 nilE).s (w.2.1 - 1) + er.getD ((es.getD w.1 nilE).s.path.getD (w.2.1 - 1) 0) 0 + (w.2.2 : Int) * (es.getD w.1 nilE).s.pe
    omega
  have f2' : ∀ w ∈ wins es c, 0 < w.2.1 → arr N (entW es w) (w.2.1 - 1) + 2 * N.er ≤ (entW es w).os.getD w.2.1 0 := fun w hw h0 => by
    have := (alone_none.mp (ja w.1 (ent hw).1)).1 (w.2.1 - 1) (by have := (ent hw).2.1; show w.2.1 - 1 < (entW es w).os.length - 1; omega)
    unfold earlyAt at this
    have := of_decide_eq_false this
    rw [show w.2.1 - 1 + 1 = w.2.1 by omega] at this
    show arr N (es.getD w.1 nilE) (w.2.1 - 1) + 2 * N.er ≤ (es.getD w.1 nilE).os.getD w.2.1 0
    omega
  have same : ∀ {w x : W3}, portW es w = portW es x → (entW es w).s.path.getD w.2.1 0 = (entW es x).s.path.getD x.2.1 0 := fun {w x} h => by
    have h : ((entW es w).s.path.getD w.2.1 0, (entW es w).s.path.getD (w.2.1 + 1) 0) = ((entW es x).s.path.getD x.2.1 0, (entW es x).s.path.getD (x.2.1 + 1) 0) := h
    injection h
  -- another frame of the same hop
  have other : ∀ {w x : W3}, w ∈ wins es c → x ∈ wins es c → w ≠ x → w.1 = x.1 → portW es w = portW es x → w.2.1 = x.2.1 ∧ w.2.2 ≠ x.2.2 := fun {w x} hw hx ne hi hp => by
    have ee : entW es w = entW es x := by unfold entW; rw [hi]
    have hh : w.2.1 = x.2.1 := port_inj (hok _ (ent hx).2.2) (by rw [← ee]; exact (ent hw).2.1) (ent hx).2.1 (by
      have hp : portE (entW es w) w.2.1 = portE (entW es x) x.2.1 := hp
      rw [ee] at hp
      exact hp)
    refine ⟨hh, fun hk => ne ?_⟩
    obtain ⟨a, b, d⟩ := w
    obtain ⟨a', b', d'⟩ := x
    have h1 : a = a' := hi
    have h2 : b = b' := hh
    have h3 : d = d' := hk
    rw [h1, h2, h3]
  have mulle : ∀ {k m : Nat} {pe : Int}, 0 ≤ pe → k < m → (k : Int) * pe + pe ≤ (m : Int) * pe := fun {k m pe} h0 h => by
    have := Int.mul_le_mul_of_nonneg_right (show ((k : Int) + 1) ≤ (m : Int) by omega) h0
    rw [Int.add_mul, Int.one_mul] at this
    exact this
  -- one side of f1
  have f1 : ∀ w ∈ wins es c, ∀ x ∈ wins es c, w ≠ x → w.1 ≤ x.1 → portW es w = portW es x → stW es er w + lnW es w ≤ stW es er x ∨ stW es er x + lnW es x ≤ stW es er w := fun w hw x hx ne hle hp => by
    have es1 := same hp
    have ew := hok _ (ent hw).2.2
    have ex := hok _ (ent hx).2.2
    unfold stW lnW
    rw [es1]
    by_cases hi : w.1 = x.1
    · obtain ⟨hh, hk⟩ := other hw hx ne hi hp
      have ee : entW es w = entW es x := by unfold entW; rw [hi]
      rw [ee, hh]
      have := hln _ (ent hx).2.2
      have := ex.p0
      rcases Nat.lt_or_gt_of_ne hk with h | h
      · have := mulle (pe := (entW es x).s.pe) (by omega) h
        omega
      · have := mulle (pe := (entW es x).s.pe) (by omega) h
        omega
    · have h1 := pf hw hx hle hp
      unfold pairF at h1
      rw [decide_eq_false hi] at h1
      have hm : meetB (winOf (entW es w) w.2.1) (winOf (entW es x) x.2.1) = false := by
        cases e : meetB (winOf (entW es w) w.2.1) (winOf (entW es x) x.2.1) with
        | false => rfl
        | true => rw [e, if_pos (by rfl)] at h1; cases h1
      have a := apart hm (by show 1 ≤ (entW es w).s.ln; exact ew.l0) (by show 1 ≤ (entW es x).s.ln; exact ex.l0) (by show 0 < (entW es w).s.pe; have := ew.p0; omega) (w.2.2 : Int) (x.2.2 : Int)
      have a : (entW es w).os.getD w.2.1 0 + (w.2.2 : Int) * (entW es w).s.pe + (entW es w).s.ln ≤ (entW es x).os.getD x.2.1 0 + (x.2.2 : Int) * (entW es x).s.pe ∨ (entW es x).os.getD x.2.1 0 + (x.2.2 : Int) * (entW es x).s.pe + (entW es x).s.ln ≤ (entW es w).os.getD w.2.1 0 + (w.2.2 : Int) * (entW es w).s.pe := a
      omega
  -- the waits are apart
  have wa : ∀ w ∈ wins es c, ∀ x ∈ wins es c, w ≠ x → w.1 ≤ x.1 → 0 < w.2.1 → 0 < x.2.1 → portW es w = portW es x → (wtOf N (entW es w) w.2.1).1 + (w.2.2 : Int) * (entW es w).s.pe + (wtOf N (entW es w) w.2.1).2.1 ≤ (wtOf N (entW es x) x.2.1).1 + (x.2.2 : Int) * (entW es x).s.pe ∨ (wtOf N (entW es x) x.2.1).1 + (x.2.2 : Int) * (entW es x).s.pe + (wtOf N (entW es x) x.2.1).2.1 ≤ (wtOf N (entW es w) w.2.1).1 + (w.2.2 : Int) * (entW es w).s.pe := fun w hw x hx ne hle w0 x0 hp => by
    have ew := hok _ (ent hw).2.2
    have h1 := pf hw hx hle hp
    unfold pairF at h1
    rw [decide_eq_false (show ¬ w.2.1 = 0 by omega), decide_eq_false (show ¬ x.2.1 = 0 by omega)] at h1
    by_cases hi : w.1 = x.1
    · obtain ⟨hh, hk⟩ := other hw hx ne hi hp
      have ee : entW es w = entW es x := by unfold entW; rw [hi]
      rw [decide_eq_true hi] at h1
      have hl : ¬ (wtOf N (entW es w) w.2.1).2.1 > (wtOf N (entW es w) w.2.1).2.2 := fun z => by
        rw [decide_eq_true z] at h1
        cases h1
      have hl : ¬ (wtOf N (entW es w) w.2.1).2.1 > (entW es w).s.pe := hl
      rw [← ee, ← hh]
      have := ew.p0
      rcases Nat.lt_or_gt_of_ne hk with h | h
      · have := mulle (pe := (entW es w).s.pe) (by omega) h
        omega
      · have := mulle (pe := (entW es w).s.pe) (by omega) h
        omega
    · rw [decide_eq_false hi] at h1
      have hm : meetB (wtOf N (entW es w) w.2.1) (wtOf N (entW es x) x.2.1) = false := by
        cases e : meetB (wtOf N (entW es w) w.2.1) (wtOf N (entW es x) x.2.1) with
        | false => rfl
        | true =>
          rw [e] at h1
          cases e2 : meetB (winOf (entW es w) w.2.1) (winOf (entW es x) x.2.1) with
          | true => rw [e2] at h1; cases h1
          | false => rw [e2] at h1; cases h1
      exact apart hm (wtOf_l _) (wtOf_l _) (by show 0 < (entW es w).s.pe; have := ew.p0; omega) (w.2.2 : Int) (x.2.2 : Int)
  have wtl : ∀ (e : EntD) (h : Nat), (wtOf N e h).1 = arr N e (h - 1) - 2 * N.er ∧ e.os.getD h 0 - arr N e (h - 1) + 2 * N.er ≤ (wtOf N e h).2.1 ∧ 1 ≤ (wtOf N e h).2.1 := fun e h => by
    refine ⟨rfl, ?_, wtOf_l _⟩
    unfold wtOf
    dsimp only
    split <;> omega
  have f3 : ∀ w ∈ wins es c, ∀ x ∈ wins es c, w ≠ x → w.1 ≤ x.1 → 0 < w.2.1 → 0 < x.2.1 → portW es w = portW es x → ∀ τ, awW N es er w ≤ τ → (τ < stW es er w ∨ (stW es er w = τ ∧ awW N es er w = τ)) → awW N es er x ≤ τ → (τ < stW es er x ∨ (stW es er x = τ ∧ awW N es er x = τ)) → False := fun w hw x hx ne hle w0 x0 hp τ a1 a2 b1 b2 => by
    have d := wa w hw x hx ne hle w0 x0 hp
    obtain ⟨p1, p2, p3⟩ := wtl (entW es w) w.2.1
    obtain ⟨r1, r2, r3⟩ := wtl (entW es x) x.2.1
    have s1 := f2' w hw w0
    have s2 := f2' x hx x0
    have es1 := same hp
    rw [aw] at a1 a2 b1 b2
    unfold stW at a2 b2
    rw [es1] at a2
    have u1 := her ((entW es w).s.path.getD (w.2.1 - 1) 0)
    have u2 := her ((entW es x).s.path.getD (x.2.1 - 1) 0)
    have u3 := her ((entW es x).s.path.getD x.2.1 0)
    rw [p1, r1] at d
    generalize (wtOf N (entW es w) w.2.1).2.1 = L1 at *
    generalize (wtOf N (entW es x) x.2.1).2.1 = L2 at *
    generalize er.getD ((entW es w).s.path.getD (w.2.1 - 1) 0) 0 = e1 at *
    generalize er.getD ((entW es x).s.path.getD (x.2.1 - 1) 0) 0 = e2 at *
    generalize er.getD ((entW es x).s.path.getD x.2.1 0) 0 = e3 at *
    generalize (w.2.2 : Int) * (entW es w).s.pe = m1 at *
    generalize (x.2.2 : Int) * (entW es x).s.pe = m2 at *
    generalize arr N (entW es w) (w.2.1 - 1) = g1 at *
    generalize arr N (entW es x) (x.2.1 - 1) = g2 at *
    generalize (entW es w).os.getD w.2.1 0 = o1 at *
    generalize (entW es x).os.getD x.2.1 0 = o2 at *
    clear p1 r1 aw f2' f1 wa wtl her htr hln pf jt ja ent mulle other
    omega
  refine ⟨fun w hw x hx ne hp => ?_, fun w hw h0 => ?_, fun w hw x hx ne w0 x0 hp τ a1 a2 b1 b2 => ?_, fun w hw h0 => ?_, fun w hw => (hok _ (ent hw).2.2).l0⟩
  · rcases Nat.le_total w.1 x.1 with h | h
    · exact f1 w hw x hx ne h hp
    · exact (f1 x hx w hw ne.symm h hp.symm).symm
  · have := f2' w hw h0
    rw [aw]
    unfold stW
    have := her ((entW es w).s.path.getD (w.2.1 - 1) 0)
    have := her ((entW es w).s.path.getD w.2.1 0)
    omega
  · rcases Nat.le_total w.1 x.1 with h | h
    · exact f3 w hw x hx ne h w0 x0 hp τ a1 a2 b1 b2
    · exact f3 x hx w hw ne.symm h x0 w0 hp.symm τ b1 b2 a1 a2
  · unfold awW trW
    have h1 := htr _ (ent (wv_prev hw)).2.2 (prW w).2.1
    have h2 := (hok _ (ent (wv_prev hw)).2.2).l0
    omega
end My
namespace My
open PySem PySem.Spec PyProof.Rows L2
end My
namespace My
open PySem PySem.Spec PyProof.Rows L2
section
variable {X : Cx} {K : PySem.W.Frag}
theorem call_list_ofK2 (hc : X.calm = true) (hK : X.K = K := by rfl) : CallR X (.type "list") (fun vs H Q => ∃ a xs, vs = [.ref a] ∧ SqL K H a xs ∧ ∀ l, H l = none → Q (.ref l) (upd H l (.lst xs))) := by
  subst hK
  intro pins s σ H vs us Q I r h
  obtain ⟨a, xs, rfl, hl, q⟩ := h
  exact call_list_of pins s σ H _ us Q I r ⟨a, xs, rfl, .inl hl, q⟩
end
/-- an entry of a good plan -/
structure GoodE (N : NetD) (B : Int) (e : EntD) : Prop where
  ok : EOk N e
  p0 : 4 ≤ e.s.pe
  p1 : e.s.pe ≤ 12
  l1 : e.s.ln ≤ 3
  ob : ∀ h, h < e.os.length → 0 ≤ e.os.getD h 0 ∧ e.os.getD h 0 ≤ B
end My
/-! What is due, and that a sorted list is one only. No row. -/
namespace My
open PySem PySem.Spec PyProof.Rows L2
def dueL (N : NetD) (es : List EntD) (er : List Int) (c : Nat) : List (Int × Nat × Nat) := (List.range es.length).flatMap fun i => (List.range c).map fun k => dlW N es er (i, (es.getD i nilE).os.length - 1, k)
theorem fm_congr {α β : Type} {f g : α → List β} : ∀ {l : List α}, (∀ x ∈ l, f x = g x) → l.flatMap f = l.flatMap g
  | [], _ => rfl
  | a :: l, h => by
    rw [List.flatMap_cons, List.flatMap_cons, h a List.mem_cons_self, fm_congr fun x hx => h x (List.mem_cons_of_mem _ hx)]
theorem srt_uniq {α : Type} {R : α → α → Prop} (anti : ∀ a b, R a b → R b a → a = b) : ∀ {l m : List α}, l.Pairwise R → m.Pairwise R → l.Perm m → l = m
  | [], m, _, _, h => by rw [List.nil_perm.mp h]
  | a :: l, [], _, _, h => by cases List.nil_perm.mp h.symm
  | a :: l, b :: m, hl, hm, h => by
    rw [List.pairwise_cons] at hl hm
    have e : a = b := by
      rcases List.mem_cons.mp (h.mem_iff.mp List.mem_cons_self) with y | y
      · exact y
      · rcases List.mem_cons.mp (h.mem_iff.mpr List.mem_cons_self) with z | z
        · exact z.symm
        · exact anti a b (hl.1 b z) (hm.1 a y)
    subst e
    rw [srt_uniq anti hl.2 hm.2 (List.perm_cons a |>.mp h)]
theorem lex_anti (a b : Int × Nat × Nat) (h1 : SrtO.lex3 (trD b) (trD a) = false) (h2 : SrtO.lex3 (trD a) (trD b) = false) : a = b := by
  obtain ⟨x, y, z⟩ := a
  obtain ⟨x', y', z'⟩ := b
  rw [SrtO.lex3_no] at h1 h2
  have h1 : ¬ (x' < x ∨ (x' = x ∧ ((y' : Int) < (y : Int) ∨ ((y' : Int) = (y : Int) ∧ (z' : Int) < (z : Int))))) := h1
  have h2 : ¬ (x < x' ∨ (x = x' ∧ ((y : Int) < (y' : Int) ∨ ((y : Int) = (y' : Int) ∧ (z : Int) < (z' : Int))))) := h2
  have e1 : x = x' := by omega
  have e2 : y = y' := by omega
  have e3 : z = z' := by omega
  rw [e1, e2, e3]
theorem fm_last {α : Type} (f : Nat → List α) (g : List α) : ∀ n, (∀ i, i < n → f i = []) → f n = g → (List.range (n + 1)).flatMap f = g := fun n h e => by
  rw [range_fsnoc, e]
  have : (List.range n).flatMap f = [] := List.flatMap_eq_nil_iff.mpr fun x hx => h x (List.mem_range.mp hx)
  rw [this, List.nil_append]
theorem last_wins {es : List EntD} (h1 : ∀ e ∈ es, 1 ≤ e.os.length) (c : Nat) : (wins es c).filter (lastW es) = (List.range es.length).flatMap fun i => winF i ((es.getD i nilE).os.length - 1) c := by
  unfold wins winE
  rw [List.filter_flatMap]
  refine fm_congr fun i hi => ?_
  have il := List.mem_range.mp hi
  have ho := h1 (es.getD i nilE) (by rw [List.getD_eq_getElem?_getD, List.getElem?_eq_getElem il]; exact List.getElem_mem _)
  unfold winH
  rw [List.filter_flatMap]
  obtain ⟨m, hm⟩ : ∃ m, (es.getD i nilE).os.length = m + 1 := ⟨_, (Nat.sub_add_cancel ho).symm⟩
  rw [hm]
  refine fm_last _ _ m (fun h hh => ?_) ?_
  · refine List.filter_eq_nil_iff.mpr fun w hw => ?_
    obtain ⟨a, b, _⟩ := mem_winF.mp hw
    have : lastW es w = false := decide_eq_false (by show ¬ w.2.1 + 1 = (es.getD w.1 nilE).os.length; rw [a, b, hm]; omega)
    rw [this]
    exact Bool.false_ne_true
  · rw [Nat.add_sub_cancel]
    refine List.filter_eq_self.mpr fun w hw => ?_
    obtain ⟨a, b, _⟩ := mem_winF.mp hw
    exact decide_eq_true (by show w.2.1 + 1 = (es.getD w.1 nilE).os.length; rw [a, b, hm])
theorem due_wins {N : NetD} {es : List EntD} {er : List Int} (h1 : ∀ e ∈ es, 1 ≤ e.os.length) (c : Nat) : (((wins es c).filter fun w => lastW es w && alW es [] w && !bkW es [] w).map (dlW N es er)) = dueL N es er c := by
  have e : ((wins es c).filter fun w => lastW es w && alW es [] w && !bkW es [] w) = (wins es c).filter (lastW es) := by
    refine List.filter_congr fun w _ => ?_
    have b : ∀ x : W3, bkW es [] x = false := fun _ => rfl
    have a : alW es [] w = true := List.all_eq_true.mpr fun h _ => by rw [b]; rfl
    rw [a, b, Bool.and_true, Bool.not_false, Bool.and_true]
  rw [e, last_wins h1, List.map_flatMap]
  unfold dueL
  refine fm_congr fun i _ => ?_
  unfold winF
  rw [List.map_map]
  rfl
end My
/-! The bounds of a good plan. No row. -/
namespace My
open PySem PySem.Spec PyProof.Rows L2
/-- what the simulation of a good plan wants -/
structure GoodP (N : NetD) (es : List EntD) (er : List Int) (c : Nat) : Prop where
  fine : FineW N es er c
  ew : (wins es c).length ≤ 2000
  sw : ∀ w ∈ wins es c, -1000000000 ≤ stW es er w ∧ stW es er w ≤ 1000000000
theorem good_p {N : NetD} {es : List EntD} {er : List Int} {c : Nat} {B : Int} (wf : NetWf N) (hB : B ≤ 1000) (hg : ∀ e ∈ es, GoodE N B e) (hl : es.length ≤ 5) (hc : c ≤ 8) (her : ∀ x ∈ er, -N.er ≤ x ∧ x ≤ N.er) (hj : judged N es = none) : GoodP N es er c := by
  have e0 := wf.e0
  have e1 := wf.e1
  have hb := er_bd e0 her
  refine ⟨fine_of (fun e h => (hg e h).ok) (fun e h => by have := (hg e h).p0; have := (hg e h).l1; omega) (fun e h k => (travel_bd wf e.s k).1) e0 hb hj, ?_, fun w hw => ?_⟩
  · have h1 := wins_len (es := es) (m := 9) (c := c) fun e h => by
      have := (hg e h).ok.len
      have := (hg e h).ok.po.le
      omega
    have h2 : es.length * (9 * c) ≤ 5 * (9 * 8) := Nat.mul_le_mul hl (Nat.mul_le_mul_left _ hc)
    omega
  · obtain ⟨⟨a, b⟩, d⟩ := mem_wins.mp hw
    have em : entW es w ∈ es := List.mem_of_getElem? (entW_at a)
    have g := hg _ em
    have o := g.ob w.2.1 b
    have := hb ((entW es w).s.path.getD w.2.1 0)
    have p0 := g.p0
    have p1 := g.p1
    have k0 : 0 ≤ (w.2.2 : Int) * (entW es w).s.pe := Int.mul_nonneg (by omega) (by omega)
    have k1 : (w.2.2 : Int) * (entW es w).s.pe ≤ 8 * 12 := Int.mul_le_mul (by omega) p1 (by omega) (by decide)
    unfold stW
    omega
theorem no_late {N : NetD} {es : List EntD} {er : List Int} {i : Nat} (hi : i < es.length) (hj : judged N es = none) (hb : ∀ n, -N.er ≤ er.getD n 0 ∧ er.getD n 0 ≤ N.er) (n : Nat) : arr N (es.getD i nilE) ((es.getD i nilE).os.length - 1) + er.getD n 0 ≤ (es.getD i nilE).s.dl := by
  have h1 := (alone_none.mp ((judged_none.mp hj).1 i hi)).2
  have := hb n
  omega
/-- tuples of a time and two numbers, as data -/
def dDl (d : Int × Nat × Nat) : PyData := .tuple [.int d.1, .int (d.2.1 : Int), .int (d.2.2 : Int)]
theorem dp_dl {K : PySem.W.Frag} {H : Hp} {t : Addr} {d : Int × Nat × Nat} (h : H t = some (.tup (dlV d))) : Dp K H (.ref t) (dDl d) := .tup (SqT.of h) (.cons (.int _) (.cons (.int _) (.cons (.int _) .nil)))
theorem shp_dl (d : Int × Nat × Nat) : Shp 2 (dDl d) := shp_tuple fun x hx => by
  simp only [List.mem_cons, List.not_mem_nil, or_false] at hx
  rcases hx with rfl | rfl | rfl
  all_goals exact (shp_int _).up (by decide)
theorem dps_dl {K : PySem.W.Frag} {H : Hp} : ∀ {ts : List Addr} {ds : List (Int × Nat × Nat)}, DlsAt K H ts ds → DpAll K H (ts.map V.ref) (ds.map dDl)
  | _, _, .nil => .nil
  | _, _, .cons h t => .cons (dp_dl h) (dps_dl t)
end My
namespace My
open PySem PySem.Spec PyProof.Rows L2
def useA (path : List Nat) (a b k : Nat) : Bool := (decide (path.getD k 0 = a) && decide (path.getD (k + 1) 0 = b)) || (decide (path.getD k 0 = b) && decide (path.getD (k + 1) 0 = a))
def usesP (path : List Nat) (a b : Nat) : Bool := (List.range (path.length - 1)).any (useA path a b)
/-- a broken line, told either way, is the port's of the window -/
theorem bk_use {es : List EntD} {bo : Option (Nat × Nat)} {a b : Nat} (h : bo = some (a, b) ∨ bo = some (b, a)) (w : W3) : bkW es (bpOf bo) w = useA (entW es w).s.path a b w.2.1 := by
  unfold bkW useA portW portE
  generalize (entW es w).s.path.getD w.2.1 0 = x
  generalize (entW es w).s.path.getD (w.2.1 + 1) 0 = y
  rw [Bool.eq_iff_iff, Bool.or_eq_true, Bool.and_eq_true, Bool.and_eq_true, decide_eq_true_eq, decide_eq_true_eq, decide_eq_true_eq, decide_eq_true_eq, List.contains_iff_mem]
  rcases h with rfl | rfl
  · unfold bpOf
    simp only [List.mem_cons, Prod.mk.injEq, List.not_mem_nil, or_false]
  · unfold bpOf
    simp only [List.mem_cons, Prod.mk.injEq, List.not_mem_nil, or_false]
    exact or_comm
theorem last_use {es : List EntD} {bo : Option (Nat × Nat)} {a b : Nat} (h : bo = some (a, b) ∨ bo = some (b, a)) {w : W3} (hl : lastW es w = true) (hp : (entW es w).s.path.length = (entW es w).os.length + 1) : (alW es (bpOf bo) w && !bkW es (bpOf bo) w) = !usesP (entW es w).s.path a b := by
  have hl : w.2.1 + 1 = (entW es w).os.length := of_decide_eq_true hl
  unfold usesP
  rw [hp, Nat.add_sub_cancel, ← hl, Bool.eq_iff_iff, Bool.and_eq_true, Bool.not_eq_true', Bool.not_eq_true', bk_use h]
  unfold alW
  rw [List.all_eq_true]
  constructor
  · rintro ⟨h1, h2⟩
    rw [List.any_eq_false]
    intro k hk
    have hk := List.mem_range.mp hk
    by_cases e : k = w.2.1
    · rw [e, h2]
      exact Bool.false_ne_true
    · have := h1 k (List.mem_range.mpr (by omega))
      rw [bk_use h] at this
      intro z
      have this : (!useA (entW es w).s.path a b k) = true := this
      rw [z] at this
      cases this
  · intro h1
    rw [List.any_eq_false] at h1
    refine ⟨fun k hk => ?_, ?_⟩
    · have hk := List.mem_range.mp hk
      rw [bk_use h]
      have := h1 k (List.mem_range.mpr (by omega))
      show (!useA (entW es w).s.path a b k) = true
      cases z : useA (entW es w).s.path a b k with
      | false => rfl
      | true => exact absurd z this
    · have := h1 w.2.1 (List.mem_range.mpr (by omega))
      cases z : useA (entW es w).s.path a b w.2.1 with
      | false => rfl
      | true => exact absurd z this
/-- what comes with a broken line -/
theorem come_use {N : NetD} {es : List EntD} {er : List Int} {c : Nat} {bo : Option (Nat × Nat)} {a b : Nat} (h : bo = some (a, b) ∨ bo = some (b, a)) (hp : ∀ w ∈ wins es c, (entW es w).s.path.length = (entW es w).os.length + 1) : ((wins es c).filter fun w => lastW es w && alW es (bpOf bo) w && !bkW es (bpOf bo) w).map (dlW N es er) = (((wins es c).filter (lastW es)).map (dlW N es er)).filter fun d => !usesP (es.getD d.2.1 nilE).s.path a b := by
  rw [List.filter_map, List.filter_filter]
  congr 1
  refine List.filter_congr fun w hw => ?_
  cases hl : lastW es w with
  | false => rw [Bool.false_and, Bool.false_and, Bool.and_false]
  | true =>
    rw [Bool.true_and, last_use h hl (hp w hw), Bool.and_true]
    rfl
theorem come_all {N : NetD} {es : List EntD} {er : List Int} {c : Nat} : ((wins es c).filter fun w => lastW es w && alW es [] w && !bkW es [] w).map (dlW N es er) = ((wins es c).filter (lastW es)).map (dlW N es er) := by
  congr 1
  refine List.filter_congr fun w _ => ?_
  have b : ∀ x : W3, bkW es [] x = false := fun _ => rfl
  have a : alW es [] w = true := List.all_eq_true.mpr fun h _ => by rw [b]; rfl
  rw [a, b, Bool.and_true, Bool.not_false, Bool.and_true]
end My
/-! What a run with any broken line delivers. No row. -/
namespace My
open PySem PySem.Spec PyProof.Rows L2
def usesO (path : List Nat) : Option (Nat × Nat) → Bool
  | none => false
  | some p => usesP path p.1 p.2
theorem come16 {es : List EntD} {c : Nat} {bo : Option (Nat × Nat)} (hp : ∀ w ∈ wins es c, (entW es w).s.path.length = (entW es w).os.length + 1) : ((wins es c).filter fun w => lastW es w && alW es (bpOf bo) w && !bkW es (bpOf bo) w) = (((wins es c).filter (lastW es))).filter fun w => !usesO (es.getD w.1 nilE).s.path bo := by
  rw [List.filter_filter]
  refine List.filter_congr fun w hw => ?_
  cases hl : lastW es w with
  | false => rw [Bool.false_and, Bool.false_and, Bool.and_false]
  | true =>
    rw [Bool.true_and, Bool.and_true]
    cases bo with
    | none =>
      have b : ∀ x : W3, bkW es (bpOf none) x = false := fun _ => rfl
      have a : alW es (bpOf none) w = true := List.all_eq_true.mpr fun h _ => by rw [b]; rfl
      rw [a, b]
      rfl
    | some p => exact last_use (.inl rfl) hl (hp w hw)
theorem nodup_on {α β : Type} {f : α → β} : ∀ {l : List α}, (∀ x ∈ l, ∀ y ∈ l, f x = f y → x = y) → l.Nodup → (l.map f).Nodup
  | [], _, _ => List.nodup_nil
  | a :: l, h, nd => by
    rw [List.nodup_cons] at nd
    rw [List.map_cons, List.nodup_cons]
    refine ⟨fun m => ?_, nodup_on (fun x hx y hy => h x (List.mem_cons_of_mem _ hx) y (List.mem_cons_of_mem _ hy)) nd.2⟩
    obtain ⟨y, hy, e⟩ := List.mem_map.mp m
    exact nd.1 (by rw [← h y (List.mem_cons_of_mem _ hy) a List.mem_cons_self e]; exact hy)
/-- what is due, entry by entry -/
def dueS (es : List EntD) (bo : Option (Nat × Nat)) (c : Nat) : Nat → Nat
  | 0 => 0
  | n + 1 => dueS es bo c n + c * (if usesO (es.getD n nilE).s.path bo then 0 else 1)
theorem dueS_len {es : List EntD} {bo : Option (Nat × Nat)} {c : Nat} {g : Nat → Nat} : ∀ n, (((List.range n).flatMap fun i => winF i (g i) c).filter fun w => !usesO (es.getD w.1 nilE).s.path bo).length = dueS es bo c n
  | 0 => rfl
  | n + 1 => by
    rw [List.range_succ, List.flatMap_append, List.filter_append, List.length_append, dueS_len n]
    show _ = dueS es bo c n + _
    congr 1
    rw [List.flatMap_cons, List.flatMap_nil, List.append_nil]
    by_cases u : usesO (es.getD n nilE).s.path bo = true
    · rw [if_pos u, Nat.mul_zero, List.length_eq_zero_iff, List.filter_eq_nil_iff]
      intro w hw
      rw [(mem_winF.mp hw).1, u]
      exact Bool.false_ne_true
    · rw [if_neg u, Nat.mul_one, List.filter_eq_self.mpr]
      · unfold winF
        rw [List.length_map, List.length_range]
      · intro w hw
        rw [(mem_winF.mp hw).1, Bool.eq_false_iff.mpr u]
        rfl
/-- an entry as the ledger holds it -/
structure G16 (N : NetD) (e : EntD) : Prop where
  ok : EOk N e
  p0 : 4 ≤ e.s.pe
  p1 : e.s.pe ≤ 12
  l1 : e.s.ln ≤ 2
  ob : ∀ h, h < e.os.length → 0 ≤ e.os.getD h 0 ∧ e.os.getD h 0 ≤ 200
theorem good16 {N : NetD} {es : List EntD} {er : List Int} {c : Nat} (wf : NetWf N) (hg : ∀ e ∈ es, G16 N e) (hl : es.length ≤ 9) (hc : c ≤ 8) (her : ∀ x ∈ er, -N.er ≤ x ∧ x ≤ N.er) (hj : judged N es = none) : GoodP N es er c := by
  have e0 := wf.e0
  have e1 := wf.e1
  have hb := er_bd e0 her
  refine ⟨fine_of (fun e h => (hg e h).ok) (fun e h => by have := (hg e h).p0; have := (hg e h).l1; omega) (fun e h k => (travel_bd wf e.s k).1) e0 hb hj, ?_, fun w hw => ?_⟩
  · have h1 := wins_len (es := es) (m := 9) (c := c) fun e h => by
      have := (hg e h).ok.len
      have := (hg e h).ok.po.le
      omega
    have h2 : es.length * (9 * c) ≤ 9 * (9 * 8) := Nat.mul_le_mul hl (Nat.mul_le_mul_left _ hc)
    omega
  · obtain ⟨⟨a, b⟩, d⟩ := mem_wins.mp hw
    have em : entW es w ∈ es := List.mem_of_getElem? (entW_at a)
    have g := hg _ em
    have o := g.ob w.2.1 b
    have := hb ((entW es w).s.path.getD w.2.1 0)
    have p0 := g.p0
    have p1 := g.p1
    have k0 : 0 ≤ (w.2.2 : Int) * (entW es w).s.pe := Int.mul_nonneg (by omega) (by omega)
    have k1 : (w.2.2 : Int) * (entW es w).s.pe ≤ 8 * 12 := Int.mul_le_mul (by omega) p1 (by omega) (by decide)
    unfold stW
    omega
/-- what the deliveries of a good plan are -/
structure Del16 (N : NetD) (es : List EntD) (bo : Option (Nat × Nat)) (c : Nat) (ds : List (Int × Nat × Nat)) : Prop where
  nd : (ds.map (·.2)).Nodup
  len : ds.length = dueS es bo c es.length
  at_ : ∀ d ∈ ds, d.2.1 < es.length ∧ usesO (es.getD d.2.1 nilE).s.path bo = false ∧ (es.getD d.2.1 nilE).os.getD ((es.getD d.2.1 nilE).os.length - 1) 0 + travel N (es.getD d.2.1 nilE).s ((es.getD d.2.1 nilE).os.length - 1) + (d.2.2 : Int) * (es.getD d.2.1 nilE).s.pe - N.er ≤ d.1 ∧ d.1 ≤ (d.2.2 : Int) * (es.getD d.2.1 nilE).s.pe + (es.getD d.2.1 nilE).s.dl
theorem del16 {N : NetD} {es : List EntD} {er : List Int} {bo : Option (Nat × Nat)} {c : Nat} {ds : List (Int × Nat × Nat)} (e0 : 0 ≤ N.er) (hok : ∀ e ∈ es, EOk N e) (her : ∀ x ∈ er, -N.er ≤ x ∧ x ≤ N.er) (hj : judged N es = none) (h : ds.Perm (((wins es c).filter fun w => lastW es w && alW es (bpOf bo) w && !bkW es (bpOf bo) w).map (dlW N es er))) : Del16 N es bo c ds := by
  have hb := er_bd e0 her
  have hp : ∀ w ∈ wins es c, (entW es w).s.path.length = (entW es w).os.length + 1 := fun w hw => by
    obtain ⟨⟨wl, _⟩, _⟩ := mem_wins.mp hw
    exact (hok _ (List.mem_of_getElem? (entW_at wl))).len.symm
  rw [come16 hp] at h
  have hl : ∀ w, w ∈ ((wins es c).filter (lastW es)).filter (fun w => !usesO (es.getD w.1 nilE).s.path bo) → w ∈ wins es c ∧ w.2.1 + 1 = (entW es w).os.length ∧ usesO (es.getD w.1 nilE).s.path bo = false := fun w hw => by
    obtain ⟨h1, h2⟩ := List.mem_filter.mp hw
    obtain ⟨h3, h4⟩ := List.mem_filter.mp h1
    exact ⟨h3, of_decide_eq_true h4, by simpa using h2⟩
  refine ⟨?_, ?_, fun d hd => ?_⟩
  · refine ((h.map (·.2)).nodup_iff).mpr ?_
    rw [List.map_map]
    refine nodup_on (fun x hx y hy e => ?_) (List.Pairwise.filter _ (List.Pairwise.filter _ (wins_nodup es c)))
    have e : (x.1, x.2.2) = (y.1, y.2.2) := e
    injection e with e1 e2
    have hx2 := (hl x hx).2.1
    have hy2 := (hl y hy).2.1
    have : entW es x = entW es y := by unfold entW; rw [e1]
    have e3 : x.2.1 = y.2.1 := by rw [this] at hx2; omega
    exact Prod.ext e1 (Prod.ext e3 e2)
  · rw [h.length_eq, List.length_map, last_wins (fun e he => (hok e he).one), dueS_len]
  · obtain ⟨w, hw, rfl⟩ := List.mem_map.mp (h.mem_iff.mp hd)
    obtain ⟨h1, h2, h3⟩ := hl w hw
    obtain ⟨⟨wl, _⟩, _⟩ := mem_wins.mp h1
    have h2 : w.2.1 = (es.getD w.1 nilE).os.length - 1 := by unfold entW at h2; omega
    have nl := no_late wl hj hb ((es.getD w.1 nilE).s.path.getD w.2.1 0)
    have bb := hb ((es.getD w.1 nilE).s.path.getD w.2.1 0)
    unfold arr at nl
    rw [← h2] at nl
    refine ⟨wl, h3, ?_, ?_⟩
    · show (es.getD w.1 nilE).os.getD ((es.getD w.1 nilE).os.length - 1) 0 + travel N (es.getD w.1 nilE).s ((es.getD w.1 nilE).os.length - 1) + (w.2.2 : Int) * (es.getD w.1 nilE).s.pe - N.er ≤ stW es er w + trW N es w
      rw [← h2]
      unfold stW trW entW
      omega
    · show stW es er w + trW N es w ≤ (w.2.2 : Int) * (es.getD w.1 nilE).s.pe + (es.getD w.1 nilE).s.dl
      unfold stW trW entW
      omega
end My
namespace My
open PySem PySem.Spec PyProof.Rows L2
abbrev sUses16 : Stmt := top 34 /-_law_uses-/
def dCut : Option (Nat × Nat) → PyData
  | none => .none
  | some p => dPort p
theorem shp_cut (bo : Option (Nat × Nat)) : SeqAt.shaped (dCut bo) = true := by
  cases bo with
  | none => exact shaped_none
  | some p => exact (shp_port p).shaped
theorem dp_cut {K : PySem.W.Frag} {H : Hp} {v : V} {bo : Option (Nat × Nat)} (h : BrkAt K H v bo) : Dp K H v (dCut bo) := by
  rcases h with ⟨rfl, rfl⟩ | ⟨tb, p, rfl, rfl, h⟩
  · exact .non
  · exact dp_port h
theorem eqv_cut (bo : Option (Nat × Nat)) (q : Nat × Nat) : PyData.eqv (dCut bo) (dPort q) = decide (bo = some q) := by
  cases bo with
  | none => rfl
  | some p =>
    show PyData.eqv (dPort p) (dPort q) = _
    rw [eqv_port, decide_eq_decide]
    exact ⟨fun z => by rw [z], fun z => by injection z⟩
theorem useO_at {path : List Nat} {a b k : Nat} : useA path a b k = (decide (some (a, b) = some (path.getD k 0, path.getD (k + 1) 0)) || decide (some (a, b) = some (path.getD (k + 1) 0, path.getD k 0))) := by
  unfold useA
  rw [Bool.eq_iff_iff]
  simp only [Bool.or_eq_true, Bool.and_eq_true, decide_eq_true_eq, Option.some.injEq, Prod.mk.injEq]
  constructor
  · rintro (⟨h1, h2⟩ | ⟨h1, h2⟩)
    · exact .inl ⟨h1.symm, h2.symm⟩
    · exact .inr ⟨h2.symm, h1.symm⟩
  · rintro (⟨h1, h2⟩ | ⟨h1, h2⟩)
    · exact .inl ⟨h1.symm, h2.symm⟩
    · exact .inr ⟨h2.symm, h1.symm⟩
def hitO (path : List Nat) (bo : Option (Nat × Nat)) (k : Nat) : Bool := decide (bo = some (path.getD k 0, path.getD (k + 1) 0)) || decide (bo = some (path.getD (k + 1) 0, path.getD k 0))
theorem uses_hit (path : List Nat) (bo : Option (Nat × Nat)) : usesO path bo = (List.range (path.length - 1)).any (hitO path bo) := by
  cases bo with
  | none =>
    refine Eq.symm (List.any_eq_false.mpr fun k _ => ?_)
    unfold hitO
    simp
  | some p =>
    show usesP path p.1 p.2 = _
    unfold usesP
    congr 1
    funext k
    exact useO_at
section
variable {P : Program} {w : World} {K : PySem.W.Frag} {mg : Str → Option Value} {base : Heap}
theorem scUses16 : FnScope ["path", "cut", "k"] ["path", "cut"] (defScope sUses16) := ⟨rfl, rfl, rfl, by decide +kernel, rfl, by decide +kernel, by decide +kernel⟩
def spUses16 (K : PySem.W.Frag) : Sp := fun vs H Q _ => ∃ (l : Addr) (cv : V) (bo : Option (Nat × Nat)) (path : List Nat), vs = [.ref l, cv] ∧ SqL K H l (natsV path) ∧ path.length ≤ 100 ∧ BrkAt K H cv bo ∧ ∀ H', Same H H' → Q (.bl (usesO path bo)) H'
theorem ok_uses16 {f : Addr} {fd : FuncData} {k : Nat} (F : Fun K "_law_uses" "_law_uses" sUses16 f fd) (T : Blt mg) : FnOk P w K mg base CX0 (k + 1) f fd ["path", "cut"] (spUses16 K) := by
  refine F.ok scUses16 (fun vs H Q E h => ?_) (fun cdv A0 outer s0 H vs Q E hr h => ?_)
  · obtain ⟨l, cv, bo, path, rfl, _⟩ := h
    rfl
  · obtain ⟨l, cv, bo, path, rfl, hl, ln, hB, q⟩ := h
    have nd := scUses16.nd
    refine ⟨_, pss_cons (ps_for PassesOwn.never rfl (pi_range1 (by rfl) T.range (pa_cons (pe_op op_sub (pe_callB call_len_seq (by rfl) T.len PySem.boot_len (pa_cons (pv 0) pa_nil)) pe_int) pa_nil)) (pg_name (i := 2) nd rfl (.inl rfl)) (pss_one (ps_if (PW.pt (pw_or (pt_cmpR (op_eqD hr.units) (pv 1) (pe_tup (pa_cons (pe_ix ix_list (pv 0) (pv 2) (fun _ _ => rfl)) (pa_cons (pe_ix ix_list (pv 0) (pe_op op_add (pv 2) pe_int) (fun _ _ => rfl)) pa_nil))) (nomark _)) (pw_or1 (pt_cmpR (op_eqD hr.units) (pv 1) (pe_tup (pa_cons (pe_ix ix_list (pv 0) (pe_op op_add (pv 2) pe_int) (fun _ _ => rfl)) (pa_cons (pe_ix ix_list (pv 0) (pv 2) (fun _ _ => rfl)) pa_nil))) (nomark _))))) (pss_one (ps_ret pe_bl)) (pss_nil)))) <| pss_one (ps_ret pe_bl), ?_⟩
    refine ⟨_, rfl, l, _, rfl, .inl hl, _, _, rfl, rfl, _, rfl, by rw [natsV_len]; omega, by rw [natsV_len]; omega, ?_⟩
    rw [show (((natsV path).length : Int) - 1).toNat = path.length - 1 by rw [natsV_len]; omega]
    refine for_range (lo := 0) (n := path.length - 1) (fun i σ H' => ∃ v3 : Option V, σ = [some (.ref l), some cv, v3] ∧ Same H H' ∧ ∀ j, j < i → hitO path bo j = false) ⟨none, rfl, Same.refl _, fun j h => absurd h (Nat.not_lt_zero j)⟩ ?_ ?_
    · rintro i σ H' hi ⟨v3, rfl, s1, hn⟩
      rw [Int.zero_add]
      have at0 : atI (natsV path) (i : Int) = some (.int ((path.getD i 0 : Nat) : Int)) := atI_nat (natsV_at (getD_at 0 (by omega)))
      have at1 : atI (natsV path) ((i : Int) + 1) = some (.int ((path.getD (i + 1) 0 : Nat) : Int)) := by
        rw [show (i : Int) + 1 = ((i + 1 : Nat) : Int) by omega]
        exact atI_nat (natsV_at (getD_at 0 (by omega)))
      refine or_read2 (a := decide (bo = some (path.getD i 0, path.getD (i + 1) 0))) (b := decide (bo = some (path.getD (i + 1) 0, path.getD i 0))) (fun Q h => ?_) (fun H2 s2 Q h => ?_) (fun H2 s2 => ?_)
      · refine ⟨_, rfl, _, rfl, _, rfl, l, _, _, _, rfl, rfl, s1.seq hl, at0, _, rfl, _, rfl, _, _, rfl, rfl, l, _, _, _, rfl, rfl, s1.seq hl, at1, by show 2 ≤ sizeLine; decide, fun t nt => ?_⟩
        have st := same_new (o := .tup [V.int ((path.getD i 0 : Nat) : Int), V.int ((path.getD (i + 1) 0 : Nat) : Int)]) nt
        refine ⟨dCut bo, dPort (path.getD i 0, path.getD (i + 1) 0), dp_cut (hB.same (s1.trans st)), dp_port (SqT.of upd_same), shp_cut _, (shp_port _).shaped, ?_⟩
        rw [eqv_cut]
        exact ⟨_, rfl, h _ st⟩
      · have s12 := s1.trans s2
        refine ⟨_, rfl, _, rfl, _, rfl, _, _, rfl, rfl, l, _, _, _, rfl, rfl, s12.seq hl, at1, _, rfl, _, rfl, l, _, _, _, rfl, rfl, s12.seq hl, at0, by show 2 ≤ sizeLine; decide, fun t nt => ?_⟩
        have st := same_new (o := .tup [V.int ((path.getD (i + 1) 0 : Nat) : Int), V.int ((path.getD i 0 : Nat) : Int)]) nt
        refine ⟨dCut bo, dPort (path.getD (i + 1) 0, path.getD i 0), dp_cut (hB.same (s12.trans st)), dp_port (SqT.of upd_same), shp_cut _, (shp_port _).shaped, ?_⟩
        rw [eqv_cut]
        exact ⟨_, rfl, h _ st⟩
      · have hit : (decide (bo = some (path.getD i 0, path.getD (i + 1) 0)) || decide (bo = some (path.getD (i + 1) 0, path.getD i 0))) = hitO path bo i := rfl
        rw [hit]
        refine ite2 (fun z => ?_) (fun z => ?_)
        · have : usesO path bo = true := by
            rw [uses_hit]
            exact List.any_eq_true.mpr ⟨i, List.mem_range.mpr hi, z⟩
          rw [this] at q
          exact q _ (s1.trans s2)
        · refine ⟨_, rfl, s1.trans s2, fun j hj => ?_⟩
          by_cases e : j = i
          · rw [e]
            exact Bool.eq_false_iff.mpr z
          · exact hn j (by omega)
    · rintro σ H' ⟨v3, rfl, s1, hn⟩
      have : usesO path bo = false := by
        rw [uses_hit]
        exact List.any_eq_false.mpr fun j hj => by
          rw [hn j (List.mem_range.mp hj)]
          exact Bool.false_ne_true
      rw [this] at q
      exact q _ s1
end
end My
namespace My
open PySem PySem.Spec PyProof.Rows L2
abbrev sReady16 : Stmt := top 33 /-_law_ready-/
abbrev sRuns : Stmt := top 35 /-_law_runs-/
/-- how simulate is called by its keyword -/
structure SimKw (P : Program) (w : World) (K : PySem.W.Frag) (mg : Str → Option Value) (base : Heap) (C C2 C5 f : Addr) (fd : FuncData) : Prop where
  ok : FnOk P w K mg base CX0 5 f fd ["net", "plan", "errors", "count", "broken"] (spSim K C C2 C5)
  mg : mg "simulate" = some (.ref f)
  kp : PySem.W.keepIn K (.ref f) = true
  b : KBn K fd ["net", "plan", "errors", "count", "broken"] 4 ["broken"] (fun us ws => us ++ ws) (fun vs zs => vs ++ zs)
def pairV (d : Nat × Nat) : List V := [.int (d.1 : Int), .int (d.2 : Int)]
theorem any_prs {ps : List (Nat × Nat)} {q : Nat × Nat} : (ps.map dPort).any (fun z => PyData.eqv z (dPort q)) = decide (q ∈ ps) := by
  rw [Bool.eq_iff_iff, decide_eq_true_eq, List.any_eq_true]
  constructor
  · rintro ⟨x, hx, e⟩
    obtain ⟨y, hy, rfl⟩ := List.mem_map.mp hx
    rw [eqv_port] at e
    rw [← of_decide_eq_true e]
    exact hy
  · intro h
    exact ⟨dPort q, List.mem_map.mpr ⟨q, h, rfl⟩, by rw [eqv_port]; exact decide_eq_true rfl⟩
theorem nd_take {α : Type} {xs : List α} {i : Nat} {x : α} (nd : xs.Nodup) (h : xs[i]? = some x) : x ∉ xs.take i := fun m => by
  obtain ⟨j, hj, e⟩ := List.getElem_of_mem m
  rw [List.length_take] at hj
  obtain ⟨hi, e2⟩ := List.getElem?_eq_some_iff.mp h
  rw [List.getElem_take] at e
  exact List.pairwise_iff_getElem.mp nd j i (by omega) hi (by omega) (e.trans e2.symm)
section
variable {P : Program} {w : World} {K : PySem.W.Frag} {mg : Str → Option Value} {base : Heap}
/-! ### _law_ready -/
theorem scReady16 : FnScope ["net", "stream", "offsets", "hop", "a", "b"] ["net", "stream", "offsets"] (defScope sReady16) := ⟨rfl, rfl, rfl, by decide +kernel, rfl, by decide +kernel, by decide +kernel⟩
def spReady16 (K : PySem.W.Frag) (C C2 : Addr) : Sp := fun vs H Q _ => ∃ (p u l : Addr) (N : NetD) (e : EntD), vs = [.ref p, .ref u, .ref l] ∧ NetAt K C H p N ∧ StreamAt C2 H u e.s ∧ SqL K H l (e.os.map V.int) ∧ EOk N e ∧ Q (.int (e.os.getD (e.os.length - 1) 0 + travel N e.s (e.os.length - 1))) H
theorem ok_ready16 {f C C2 fJ : Addr} {fd fdJ : FuncData} {k : Nat} (F : Fun K "_law_ready" "_law_ready" sReady16 f fd) (T : Blt mg) (c : NetC K C) (c2 : StrC K C2) (GJ : Callee P w K mg base 1 "_law_joined" ["net", "a", "b"] (spJoined K C) fJ fdJ) : FnOk P w K mg base CX0 (k + 2) f fd ["net", "stream", "offsets"] (spReady16 K C C2) := by
  refine F.ok scReady16 (fun vs H Q E h => ?_) (fun cdv A outer s0 H vs Q E hr h => ?_)
  · obtain ⟨p, u, l, N, e, rfl, _⟩ := h
    rfl
  · obtain ⟨p, u, l, N, e, rfl, hN, hS, hl, hO, q⟩ := h
    have nd := scReady16.nd
    have hr1 : Room 1 _ := hr.mono (by omega)
    obtain ⟨dy, lp, d1, d2⟩ := hS
    have one := hO.one
    have len := hO.len
    obtain ⟨h, eh⟩ : ∃ h, e.os.length = h + 1 := ⟨e.os.length - 1, by omega⟩
    have ez : ((e.os.map V.int).length : Int) - 1 = (h : Int) := by rw [List.length_map]; omega
    rw [show e.os.length - 1 = h by omega] at q
    obtain ⟨d, ed⟩ := hO.po.joined (k := h) (by omega)
    have hh : host N (e.s.path.getD (h + 1) 0) = true := by
      rw [hO.po.is.hs (h + 1) (by omega), decide_eq_true (show h + 1 + 1 = e.s.path.length by omega), Bool.or_true]
    have et : e.os.getD h 0 + travel N e.s h = e.os.getD h 0 + e.s.ln + d := by
      unfold travel
      rw [ed, hh, if_pos rfl]
      show e.os.getD h 0 + (e.s.ln + d + 0) = _
      omega
    rw [et] at q
    refine ⟨_, pss_cons (ps_set (i := 3) nd rfl (.inl rfl) (pe_op op_sub (pe_callB call_len_seq (by rfl) T.len PySem.boot_len (pa_cons (pv 2) pa_nil)) pe_int)) <| pss_cons (ps_set (i := 4) nd rfl (.inl rfl) (pe_ix ix_list (pe_fld (pv 1) rfl) (pv 3) (fun _ _ => rfl))) <| pss_cons (ps_set (i := 5) nd rfl (.inl rfl) (pe_ix ix_list (pe_fld (pv 1) rfl) (pe_op op_add (pv 3) pe_int) (fun _ _ => rfl))) <| pss_one (ps_ret (pe_op op_add (pe_op op_add (pe_ix ix_list (pv 2) (pv 3) (fun _ _ => rfl)) (pe_fld (pv 1) rfl)) (pe_call GJ.ok hr1 (by rfl) GJ.mg GJ.kp GJ.b .nil pass0 (pa_cons (pv 0) (pa_cons (pv 4) (pa_cons (pv 5) pa_nil)))))), ?_⟩
    refine ⟨_, rfl, l, _, rfl, .inl hl, _, _, rfl, rfl, ?_⟩
    refine ⟨_, rfl, u, C2, dy, _, _, rfl, d1, c2.cl, c2.n4, sg4, _, rfl, lp, _, _, _, rfl, rfl, SqL.of d2, (by rw [ez]; exact atI_nat (natsV_at (getD_at 0 (by omega)))), ?_⟩
    refine ⟨_, rfl, u, C2, dy, _, _, rfl, d1, c2.cl, c2.n4, sg4, _, rfl, _, _, rfl, rfl, lp, _, _, _, rfl, rfl, SqL.of d2, (by rw [ez]; exact atI_nat (natsV_at (getD_at 0 (by omega : h + 1 < e.s.path.length)))), ?_⟩
    refine ⟨_, rfl, _, rfl, l, _, _, _, rfl, rfl, hl, (by rw [ez]; exact atI_ints (j := h) rfl (by omega)), _, rfl, u, C2, dy, _, _, rfl, d1, c2.cl, c2.n2, sg2, _, _, rfl, rfl, ?_⟩
    refine ⟨_, rfl, _, rfl, _, rfl, p, e.s.path.getD h 0, e.s.path.getD (h + 1) 0, N, rfl, hN, ?_⟩
    rw [ed]
    exact ⟨_, _, rfl, rfl, q⟩
theorem scRuns : FnScope ["net", "plan", "numbers", "cell", "draws", "errors", "cut", "count", "run", "seen", "tick", "at", "k", "stream", "offsets", "ready", "due", "entry", "draw"] ["net", "plan", "numbers", "cell"] (defScope sRuns) := ⟨rfl, rfl, rfl, by decide +kernel, rfl, by decide +kernel, by decide +kernel⟩
def spRuns (K : PySem.W.Frag) (C C2 : Addr) : Sp := fun vs H Q _ => ∃ (p pl pn : Addr) (z : Int) (N : NetD) (ts : List Addr) (es : List EntD) (ms : List Int), vs = [.ref p, .ref pl, .ref pn, .int z] ∧ NetAt K C H p N ∧ NetWf N ∧ N.ls ≠ [] ∧ SqL K H pl (ts.map V.ref) ∧ EntsAt K C2 H ts es ∧ (∀ e ∈ es, G16 N e) ∧ es.length ≤ 9 ∧ judged N es = none ∧
  H pn = some (.lst (ms.map V.int)) ∧ ms.length = 8 ∧ (∀ x ∈ ms, 0 ≤ x ∧ x < 2 ^ 64) ∧ ∀ H', Same H H' → Q (.bl true) H'
theorem ok_runs {f C C2 C5 fD fSi fRe fUs : Addr} {fd fdD fdSi fdRe fdUs : FuncData} {k : Nat} (F : Fun K "_law_runs" "_law_runs" sRuns f fd) (T : Blt mg) (c : NetC K C) (c2 : StrC K C2) (c5 : RunC K C5) (GD : Callee P w K mg base 1 "_law_draw" ["cell", "many", "bound"] spDraw fD fdD) (GSi : SimKw P w K mg base C C2 C5 fSi fdSi)
    (GRe : Callee P w K mg base 2 "_law_ready" ["net", "stream", "offsets"] (spReady16 K C C2) fRe fdRe) (GUs : Callee P w K mg base 1 "_law_uses" ["path", "cut"] (spUses16 K) fUs fdUs) : FnOk P w K mg base CX0 (k + 6) f fd ["net", "plan", "numbers", "cell"] (spRuns K C C2) := by
  refine F.ok scRuns (fun vs H Q E h => ?_) (fun cdv A0 outer s0 H vs Q E hr h => ?_)
  · obtain ⟨p, pl, pn, z, N, ts, es, ms, rfl, _⟩ := h
    rfl
  · obtain ⟨p, pl, pn, z, N, ts, es, ms, rfl, hN, wf, hls, hpl, hE, hg, le9, hj, hn, lm, bm, q⟩ := h
    have nd := scRuns.nd
    have hu65 := u65 hr
    have hr1 : Room 1 _ := hr.mono (by omega)
    have hr2 : Room 2 _ := hr.mono (by omega)
    have hr5 : Room 5 _ := hr.mono (by omega)
    have lk0 := len_count N.ks
    have n7 : N.ks.length ≤ 7 := by have := wf.h1; have := wf.s1; omega
    have hD : Dist N.ls := wf.ls.dist
    have eN := hN
    obtain ⟨dx, lk, ll, ld, lts, e1, e2, e3, e4, e5⟩ := hN
    -- ["net", "plan", "numbers", "cell", "draws", "errors", "cut", "count", "run", "seen", "tick", "at", "k", "stream", "offsets", "ready", "due", "entry", "draw"]
    refine ⟨_, pss_cons (ps_set (i := 4) nd rfl (.inl rfl) (pe_call GD.ok hr1 (by rfl) GD.mg GD.kp GD.b .nil pass0 (pa_cons (pv 3) (pa_cons (pe_callB call_len_seq (by rfl) T.len PySem.boot_len (pa_cons (pe_fld (pv 0) rfl) pa_nil)) (pa_cons (pe_op op_shl pe_int pe_int) pa_nil))))) <| pss_cons (ps_setLc (i := 5) (own := [("draw", 18)]) (g := gName 18) (tt := tYes) rfl nd rfl rfl (sw_true rfl rfl rfl (by decide +kernel)) (pi_list (pv 4)) (blkOk_by (own := [("draw", 18)]) (N := ["net", "plan", "numbers", "cell", "draws", "errors", "cut", "count", "run", "seen", "tick", "at", "k", "stream", "offsets", "ready", "due", "entry", "draw"]) (sc := defScope sRuns) (by decide +kernel)) (fun _ _ _ _ _ => pg_name (i := 18) nd rfl (Or.inl rfl)) (fun _ _ _ _ _ => pts_nil) (fun _ _ _ _ _ => (pe_op op_sub (pe_op op_mod (pv 18) (pe_op op_add (pe_op op_mul pe_int (pe_fldK (K := K) (pv 0))) pe_int)) (pe_fldK (K := K) (pv 0))))) <| pss_cons (ps_set (i := 6) nd rfl (.inl rfl) pe_non) <| C8.pss_cut (ps_if (pt_cmpR op_eq (pe_op op_mod (pe_ix ix_list (pv 2) pe_int (fun _ _ => rfl)) pe_int) pe_int (nomark _)) (pss_one (ps_set (i := 6) nd rfl (.inl rfl) (pe_slice sl_tup (pe_ix ix_list (pe_fld (pv 0) rfl) (pe_op op_mod (pe_op op_fdiv (pe_ix ix_list (pv 2) pe_int (fun _ _ => rfl)) pe_int) (pe_callB call_len_seq (by rfl) T.len PySem.boot_len (pa_cons (pe_fld (pv 0) rfl) pa_nil))) (fun _ _ => rfl)) po_none (po_some pe_int)))) (pss_nil)) <| pss_cons (ps_set (i := 7) nd rfl (.inl rfl) (pe_op op_add pe_int (pe_op op_mod (pe_ix ix_list (pv 2) pe_int (fun _ _ => rfl)) pe_int))) <| pss_cons (ps_set (i := 8) nd rfl (.inl rfl) (pe_callN GSi.ok hr5 (by rfl) GSi.mg GSi.kp GSi.b pass0 (pa_cons (pv 0) (pa_cons (pv 1) (pa_cons (pv 5) (pa_cons (pv 7) pa_nil)))) (pk_cons (pv 6) pk_nil))) <| pss_cons (ps_if (pt_cmpR op_notN (pe_fld (pv 8) rfl) pe_non (nomark _)) (pss_one (ps_ret pe_bl)) (pss_nil)) <| pss_cons (ps_set (i := 9) nd rfl (.inl rfl) (pe_lst pa_nil)) <| pss_cons (ps_for PassesOwn.never rfl (pi_list (pe_fld (pv 8) rfl)) (pg_tup rfl (pgs_cons (pg_name (i := 10) nd rfl (.inl rfl)) (pgs_cons (pg_name (i := 11) nd rfl (.inl rfl)) (pgs_cons (pg_name (i := 12) nd rfl (.inl rfl)) pgs_nil)))) (pss_cons (ps_asg (pe_ix ix_list (pv 1) (pv 11) (fun _ _ => rfl)) (pg_tup rfl (pgs_cons (pg_name (i := 13) nd rfl (.inl rfl)) (pgs_cons (pg_name (i := 14) nd rfl (.inl rfl)) pgs_nil)))) <| pss_cons (ps_set (i := 15) nd rfl (.inl rfl) (pe_op op_add (pe_op op_mul (pv 12) (pe_fld (pv 13) rfl)) (pe_call GRe.ok hr2 (by rfl) GRe.mg GRe.kp GRe.b .nil pass0 (pa_cons (pv 0) (pa_cons (pv 13) (pa_cons (pv 14) pa_nil)))))) <| pss_cons (ps_if (PW.pt (pw_or (pt_cmpR (op_inD hu65) (pe_tup (pa_cons (pv 11) (pa_cons (pv 12) pa_nil))) (pv 9) rfl) (pw_or (pt_val (pe_call GUs.ok hr1 (by rfl) GUs.mg GUs.kp GUs.b .nil pass0 (pa_cons (pe_fld (pv 13) rfl) (pa_cons (pv 6) pa_nil)))) (pw_or1 (pt_cmpR op_lt (pv 10) (pe_op op_sub (pv 15) (pe_fld (pv 0) rfl)) (nomark _)))))) (pss_one (ps_ret pe_bl)) (pss_nil)) <| pss_cons (ps_if (pt_cmpR op_gt (pv 10) (pe_op op_add (pe_op op_mul (pv 12) (pe_fld (pv 13) rfl)) (pe_fld (pv 13) rfl)) (nomark _)) (pss_one (ps_ret pe_bl)) (pss_nil)) <| pss_one (ps_expr (pe_bm PySem.F.plainAttrs_list PySem.F.slot_list_append PySem.F.type_list_append mt_append (pv 9) (pa_cons (pe_tup (pa_cons (pv 11) (pa_cons (pv 12) pa_nil))) pa_nil))))) <| pss_cons (ps_set (i := 16) nd rfl (.inl rfl) pe_int) <| pss_cons (ps_for PassesOwn.never rfl (pi_list (pv 1)) (pg_name (i := 17) nd rfl (.inl rfl)) (pss_one (ps_set (i := 16) nd rfl (.inl rfl) (pe_op op_add (pv 16) (pe_op op_mul (pv 7) (pe_callTy call_int1 (by rfl) T.int (by decide +kernel) (pa_cons (pe_not (pe_call GUs.ok hr1 (by rfl) GUs.mg GUs.kp GUs.b .nil pass0 (pa_cons (pe_fld (pe_ix ix_tup (pv 17) pe_int (fun _ _ => rfl)) rfl) (pa_cons (pv 6) pa_nil)))) pa_nil))))))) <| pss_one (ps_ret (pe_cmpR op_eq (pe_callB call_len_seq (by rfl) T.len PySem.boot_len (pa_cons (pv 9) pa_nil)) (pv 16) (nomark _))), ?_⟩
    refine ⟨_, rfl, _, rfl, p, C, dx, _, _, rfl, e1, c.cl, c.n1, g1, lk, _, rfl, .inl (SqL.of e2), ?_⟩
    refine ⟨_, _, rfl, rfl, ⟨by decide, by decide, by decide⟩, z, 1048576, N.ks.length, ?_, by omega, by decide, by decide, fun H1 pd ds s1 npd hd ld bdd => ?_⟩
    · rw [List.length_map]; rfl
    have e1' := s1 _ _ e1
    -- errors
    refine ⟨_, rfl, pd, rfl, ⟨_, SqL.of hd⟩, fun D nD => ?_⟩
    refine lc_list (K := K) (a := pd) (xs := ds.map V.int) (fun i H' => Same H1 H' ∧ ∃ er : List Int, H' D = some (.lst (er.map V.int)) ∧ er.length = i ∧ ∀ x ∈ er, -N.er ≤ x ∧ x ≤ N.er) ⟨same_new nD, [], upd_same, rfl, fun x h => (List.not_mem_nil h).elim⟩ (fun i H' _ y => SqL.of (y.1 _ _ hd)) ?_ ?_
    · rintro i x H' hi ⟨sm, er, hD, le, hb⟩
      obtain ⟨n, en, rfl⟩ := ints_at hi
      have il := (List.getElem?_eq_some_iff.mp en).1
      have ee := sm _ _ e1'
      have hE0 := wf.e0
      refine ⟨rfl, ?_⟩
      refine ⟨_, rfl, _, rfl, p, C, dx, _, _, rfl, ee, c.cl, c.n4, g4, ?_⟩
      have m0 := Int.emod_nonneg n (show 2 * N.er + 1 ≠ 0 by omega)
      have m1 := Int.emod_lt_of_pos n (show 0 < 2 * N.er + 1 by omega)
      refine ⟨_, _, rfl, rfl, .inl ⟨by decide, by decide⟩, _, _, rfl, rfl, _, _, rfl, rfl, by show 0 < 2 * N.er + 1; omega, _, rfl, p, C, dx, _, _, rfl, ee, c.cl, c.n4, g4, _, _, rfl, rfl, ?_⟩
      refine ⟨_, hD, szl (by rw [List.length_map]; omega), same_but sm nD but_self, er ++ [n % (2 * N.er + 1) - N.er], by rw [upd_same, List.map_append]; rfl, by rw [List.length_append, le]; rfl, fun x hx => ?_⟩
      rcases List.mem_append.mp hx with hx | hx
      · exact hb x hx
      · cases List.mem_singleton.mp hx
        omega
    rintro H2 ⟨s2, er, hel, ler, ber⟩
    rw [List.length_map, ld] at ler
    have S2 := s1.trans s2
    have hn2 := S2 _ _ hn
    -- cut
    refine ⟨fun σ H' => ∃ (cv : V) (bo : Option (Nat × Nat)), σ = [some (.ref p), some (.ref pl), some (.ref pn), some (.int z), some (.ref pd), some (.ref D), some cv, none, none, none, none, none, none, none, none, none, none, none, none] ∧ Same H2 H' ∧ BrkAt K H' cv bo, ?_, ?_⟩
    · have tlen : lts.length = N.ls.length := e4.length
      have lpos : 0 < N.ls.length := List.length_pos_iff.mpr hls
      have llen : (((lts.map V.ref).length : Nat) : Int) = (N.ls.length : Int) := by rw [List.length_map, tlen]
      obtain ⟨j, ej⟩ : ∃ j : Nat, ms.getD 6 0 / 3 % (N.ls.length : Int) = (j : Int) := ⟨(ms.getD 6 0 / 3 % (N.ls.length : Int)).toNat, by have := Int.emod_nonneg (ms.getD 6 0 / 3) (b := (N.ls.length : Int)) (by omega); omega⟩
      have jl : j < N.ls.length := by have := Int.emod_lt_of_pos (ms.getD 6 0 / 3) (b := (N.ls.length : Int)) (by omega); omega
      obtain ⟨lt7, elt⟩ : ∃ t, lts[j]? = some t := ⟨_, List.getElem?_eq_getElem (by omega)⟩
      obtain ⟨l, el7, hT⟩ := Paired.at e4 elt
      have e1'' := S2 _ _ e1
      have e3'' := S2 _ _ e3
      refine ⟨_, rfl, pn, _, _, _, rfl, rfl, SqL.of hn2, atI_ints (j := 6) rfl (by omega), _, _, rfl, rfl, (by show (0 : Int) < 3; decide), rfl, _, rfl, ite2 (fun _ => ?_) (fun _ => ?_)⟩
      · refine ⟨_, rfl, p, C, dx, _, _, rfl, e1'', c.cl, c.n2, g2, _, rfl, pn, _, _, _, rfl, rfl, SqL.of hn2, atI_ints (j := 6) rfl (by omega), _, _, rfl, rfl, ⟨by decide, by decide⟩, _, rfl, p, C, dx, _, _, rfl, e1'', c.cl, c.n2, g2, ll, _, rfl, .inl (SqL.of e3''), _, _, rfl, rfl, (by show (0 : Int) < (((lts.map V.ref).length : Nat) : Int); rw [llen]; omega), ll, _, _, V.ref lt7, rfl, rfl, SqL.of e3'', ?_, ?_⟩
        · rw [llen, ej]
          exact atI_nat (by rw [List.getElem?_map, elt]; rfl)
        refine ⟨_, rfl, lt7, _, rfl, same_tup S2 hT, (show ¬ (HT.sIx 3 0 none = 0 ∧ HT.sIx 3 3 (some 2) = 3) by decide), fun tb ntb => ?_⟩
        exact ⟨.ref tb, some (l.1, l.2.1), rfl, same_new ntb, .inr ⟨tb, _, rfl, rfl, SqT.of upd_same⟩⟩
      · exact ⟨.non, none, rfl, Same.refl _, .inl ⟨rfl, rfl⟩⟩
    rintro σ H3 ⟨cv, bo, rfl, s3, hB⟩
    have S3 := S2.trans s3
    have hn3 := S3 _ _ hn
    have hel3 := s3 _ _ hel
    have ok : ∀ e ∈ es, EOk N e := fun e h => (hg e h).ok
    refine ⟨_, rfl, pn, _, _, _, rfl, rfl, SqL.of hn3, atI_ints (j := 7) rfl (by omega), _, _, rfl, rfl, (by show (0 : Int) < 5; decide), _, _, rfl, rfl, ?_⟩
    have c0 : 0 ≤ ms.getD 7 0 % 5 := Int.emod_nonneg _ (by decide)
    have c1 : ms.getD 7 0 % 5 < 5 := Int.emod_lt_of_pos _ (by decide)
    obtain ⟨cn, ecn⟩ : ∃ cn : Nat, 1 + ms.getD 7 0 % 5 = (cn : Int) := ⟨(1 + ms.getD 7 0 % 5).toNat, by omega⟩
    have hcn : cn ≤ 8 := by omega
    dsimp only [gName, tSeq]
    rw [ecn]
    have gp := good16 (c := cn) wf hg le9 hcn ber hj
    have hpath : ∀ e ∈ es, ∀ x ∈ e.s.path, x < er.length := fun e h x hx => by rw [ler]; exact (ok e h).po.lt x hx
    have hN3 := eN.same S3
    have hE3 := hE.same S3
    refine ⟨_, rfl, _, rfl, _, rfl, _, rfl, _, rfl, rfl, rfl, p, pl, D, cn, cv, N, ts, es, er, bo, rfl, hN3, S3.seq hpl, hE3, SqL.of hel3, ⟨hD, by omega, ok⟩, hB, hpath, gp.ew, by omega, by omega, gp.sw, fun lo n hw => ⟨fun T9 H9 r dxr dv ts' ds hR sm hrr hdv hDs hperm hsrt => ?_, fun i T H' r dx dv fv hi hR hB _ _ => absurd hB (no_break gp.fine (fun w h => (hw w h).1) hR)⟩⟩
    have del := del16 wf.e0 ok ber hj (hperm.trans (all_come gp.fine hw hR))
    have S9 := S3.trans sm
    have lds : ds.length = ts'.length := (Paired.length hDs).symm
    have hB9 := hB.same sm
    have hN9 := hN3.same sm
    have hE9 := hE3.same sm
    have lt : ts.length = es.length := hE.length
    have dsl : ds.length ≤ 2000 := by
      have h1 := (hperm.trans (all_come gp.fine hw hR)).length_eq
      rw [List.length_map] at h1
      have h2 := List.length_filter_le (fun w => lastW es w && alW es (bpOf bo) w && !bkW es (bpOf bo) w) (wins es cn)
      have := gp.ew
      omega
    refine ⟨_, rfl, r, C5, dxr, _, _, rfl, hrr, c5.cl, c5.n2, rg2, rfl, _, rfl, ?_⟩
    refine ite2 (fun z => by cases z) (fun _ => ?_)
    refine ⟨Nat.zero_le _, fun sn nsn => ?_⟩
    have w1 := same_new (o := .lst []) nsn
    refine ⟨_, rfl, r, C5, dxr, _, _, rfl, w1 _ _ hrr, c5.cl, c5.n1, rg1, dv, rfl, ⟨_, SqL.of (w1 _ _ hdv)⟩, for_list (K := K) (a := dv) (xs := ts'.map V.ref) (fun i σ H' => ∃ (v10 v11 v12 v13 v14 v15 : Option V) (us : List Addr), σ = [some (.ref p), some (.ref pl), some (.ref pn), some (.int z), some (.ref pd), some (.ref D), some cv, some (.int (cn : Int)), some (.ref r), some (.ref sn), v10, v11, v12, v13, v14, v15, none, none, none] ∧ Same H9 H' ∧ H' sn = some (.lst (us.map V.ref)) ∧ Tups H' us ((ds.take i).map (·.2)) ∧ us.length = i) ⟨none, none, none, none, none, none, [], rfl, w1, upd_same, .nil, rfl⟩ (fun i σ H' _ ⟨_, _, _, _, _, _, _, _, y, _⟩ => SqL.of (y _ _ hdv)) ?_ ?_⟩
    · rintro i x σ H' hi ⟨v10, v11, v12, v13, v14, v15, us, rfl, s4, hsn, hU, lus⟩
      obtain ⟨tt, ett, rfl⟩ := refs_at hi
      obtain ⟨d, ed, hdd⟩ := Paired.at hDs ett
      obtain ⟨wl, wu, wlo, whi⟩ := del.at_ d (List.mem_of_getElem? ed)
      obtain ⟨te, ete⟩ : ∃ t, ts[d.2.1]? = some t := ⟨_, List.getElem?_eq_getElem (by omega)⟩
      obtain ⟨e, ee, hTe⟩ := Paired.at hE9 ete
      have ege : es.getD d.2.1 nilE = e := by rw [List.getD_eq_getElem?_getD, ee]; rfl
      rw [ege] at wu wlo whi
      obtain ⟨u, lo', k1, hS2, k4⟩ := id (hTe.same s4)
      obtain ⟨dxu, lp, k2, k3⟩ := id hS2
      have eo := ok e (List.mem_of_getElem? ee)
      have geo := hg e (List.mem_of_getElem? ee)
      have S4 := S9.trans s4
      refine ⟨tt, _, rfl, SqT.of (s4 _ _ hdd), rfl, _, _, rfl, _, _, rfl, _, _, rfl, rfl, ?_⟩
      refine ⟨_, rfl, _, rfl, pl, _, _, _, rfl, rfl, S4.seq hpl, atI_nat (v := V.ref te) (by rw [List.getElem?_map, ete]; rfl), te, _, rfl, k1, rfl, _, _, rfl, _, _, rfl, rfl, ?_⟩
      have hN4 := hN9.same s4
      have p0 := geo.p0
      have p1 := geo.p1
      have e1b := S4 _ _ e1
      have kap : ((d.2.2 : Nat) : Int) * e.s.pe + (e.os.getD (e.os.length - 1) 0 + travel N e.s (e.os.length - 1)) - N.er ≤ d.1 := by omega
      have nin : d.2 ∉ (ds.take i).map (·.2) := by
        rw [List.map_take]
        exact nd_take del.nd (by rw [List.getElem?_map, ed]; rfl)
      refine ⟨_, rfl, _, rfl, u, C2, dxu, _, _, rfl, k2, c2.cl, c2.n1, sg1, _, _, rfl, rfl, .inr ⟨by omega, by omega⟩, _, rfl, _, rfl, _, rfl, p, u, lo', N, e, rfl, hN4, hS2, k4, eo, _, _, rfl, rfl, ?_⟩
      dsimp only [gName, tSeq, tIfS]
      refine or_read2 (a := false) (b := false) (fun Q h => ?_) (fun H5 s5 Q h => ?_) (fun H5 s5 => ?_)
      · refine ⟨_, rfl, _, rfl, by show 2 ≤ sizeLine; decide, fun t nt => ?_⟩
        have st := same_new (o := .tup [V.int (d.2.1 : Int), V.int (d.2.2 : Int)]) nt
        refine ⟨_, rfl, dPort d.2, ((ds.take i).map (·.2)).map dPort, dp_port (SqT.of upd_same), dp_ports (SqL.of (st _ _ hsn)) (Paired.imp hU fun _ _ z => SqT.of (st _ _ z)), (shp_port _).shaped, (shp_ports _).shaped, _, rfl, ?_⟩
        rw [any_prs, decide_eq_false nin]
        exact h _ st
      · refine or_read2 (a := false) (b := false) (fun Q h => ?_) (fun H6 s6 Q h => ?_) h
        · refine ⟨_, rfl, u, C2, dxu, _, _, rfl, s5 _ _ k2, c2.cl, c2.n4, sg4, _, rfl, lp, cv, bo, e.s.path, rfl, SqL.of (s5 _ _ k3), by have := eo.po.le; omega, hB9.same (s4.trans s5), fun H6 s6 => ?_⟩
          rw [wu]
          exact ⟨_, rfl, h _ s6⟩
        · refine ⟨_, rfl, _, rfl, _, rfl, p, C, dx, _, _, rfl, s6 _ _ (s5 _ _ e1b), c.cl, c.n4, g4, _, _, rfl, rfl, _, _, rfl, rfl, _, rfl, ?_⟩
          rw [decide_eq_false (by omega)]
          exact h _ (Same.refl _)
      refine ite2 (fun z => by cases z) (fun _ => ?_)
      refine ⟨_, rfl, _, rfl, _, rfl, u, C2, dxu, _, _, rfl, s5 _ _ k2, c2.cl, c2.n1, sg1, _, _, rfl, rfl, .inr ⟨by omega, by omega⟩, _, rfl, u, C2, dxu, _, _, rfl, s5 _ _ k2, c2.cl, c2.n3, sg3, _, _, rfl, rfl, _, _, rfl, rfl, _, rfl, ?_⟩
      refine ite2 (fun z => absurd (of_decide_eq_true z) (by omega)) (fun _ => ?_)
      have hsn5 := s5 _ _ hsn
      refine ⟨_, rfl, .inl ⟨rfl, _, SqL.of hsn5⟩, _, rfl, _, rfl, by show 2 ≤ sizeLine; decide, fun t nt => ?_⟩
      have st := same_new (o := .tup [V.int (d.2.1 : Int), V.int (d.2.2 : Int)]) nt
      have hsn6 := st _ _ hsn5
      have ht6 : (upd H5 t (.tup [V.int (d.2.1 : Int), V.int (d.2.2 : Int)])) t = some (.tup [V.int (d.2.1 : Int), V.int (d.2.2 : Int)]) := upd_same
      have s46 := s4.trans (s5.trans st)
      generalize upd H5 t (.tup [V.int (d.2.1 : Int), V.int (d.2.2 : Int)]) = H6 at st hsn6 ht6 s46 ⊢
      refine ⟨sn, _, _, rfl, rfl, hsn6, szl (by rw [List.length_map]; have := (List.getElem?_eq_some_iff.mp ett).1; omega), ?_⟩
      have nt2 : ∀ b o, H6 b = some (.tup o) → (upd H6 sn (.lst (us.map V.ref ++ [V.ref t]))) b = some (.tup o) := fun b o y => by
        rw [upd_ne (ne_of y hsn6 (by intro y; cases y))]
        exact y
      refine ⟨_, _, _, _, _, _, us ++ [t], rfl, same_but s46 nsn but_self, by rw [upd_same, List.map_append]; rfl, ?_, by rw [List.length_append, lus]; rfl⟩
      rw [take_snoc ed, List.map_append]
      exact Paired.snoc (F := fun (y : Addr) (p : Nat × Nat) => (upd H6 sn (.lst (us.map V.ref ++ [V.ref t]))) y = some (.tup [.int (p.1 : Int), .int (p.2 : Int)])) (nt2 _ _ ht6) (Paired.imp hU fun _ _ z => nt2 _ _ (st _ _ (s5 _ _ z)))
    · rintro σ H' ⟨v10, v11, v12, v13, v14, v15, us, rfl, s4, hsn, hU, lus⟩
      have S4 := S9.trans s4
      rw [List.length_map, ← lds, List.take_length] at hU
      refine ⟨_, rfl, pl, rfl, ⟨_, S4.seq hpl⟩, for_list (K := K) (a := pl) (xs := ts.map V.ref) (fun i σ H5 => ∃ (v17 : Option V), σ = [some (.ref p), some (.ref pl), some (.ref pn), some (.int z), some (.ref pd), some (.ref D), some cv, some (.int (cn : Int)), some (.ref r), some (.ref sn), v10, v11, v12, v13, v14, v15, some (.int ((dueS es bo cn i : Nat) : Int)), v17, none] ∧ Same H' H5) ⟨none, rfl, Same.refl _⟩ (fun i σ H5 _ ⟨_, _, y⟩ => (S4.trans y).seq hpl) ?_ ?_⟩
      · rintro i x σ H5 hi ⟨v17, rfl, s5⟩
        obtain ⟨te, ete, rfl⟩ := refs_at hi
        obtain ⟨e, ee, hTe⟩ := Paired.at hE9 ete
        have ege : es.getD i nilE = e := by rw [List.getD_eq_getElem?_getD, ee]; rfl
        obtain ⟨u, lo', k1, hS2, k4⟩ := id (hTe.same (s4.trans s5))
        obtain ⟨dxu, lp, k2, k3⟩ := id hS2
        have eo := ok e (List.mem_of_getElem? ee)
        refine ⟨_, rfl, _, rfl, _, rfl, te, _, _, _, rfl, rfl, k1, rfl, u, C2, dxu, _, _, rfl, k2, c2.cl, c2.n4, sg4, _, rfl, lp, cv, bo, e.s.path, rfl, SqL.of k3, by have := eo.po.le; omega, hB9.same (s4.trans s5), fun H6 s6 => ?_⟩
        have s56 := s5.trans s6
        have hb : (!usesO e.s.path bo) = !usesO (es.getD i nilE).s.path bo := by rw [ege]
        refine ⟨_, rfl, .inr ⟨_, rfl, _, _, rfl, rfl, ?_, _, _, rfl, rfl, some (.ref te), ?_, s56⟩⟩
        · unfold CMul
          split <;> omega
        · rw [hb]
          show _ = [_, _, _, _, _, _, _, _, _, _, _, _, _, _, _, _, some (V.int ((dueS es bo cn i + cn * (if usesO (es.getD i nilE).s.path bo then 0 else 1) : Nat) : Int)), _, _]
          have : ((dueS es bo cn i : Nat) : Int) + (cn : Int) * (if (!usesO (es.getD i nilE).s.path bo) = true then 1 else 0) = ((dueS es bo cn i + cn * (if usesO (es.getD i nilE).s.path bo then 0 else 1) : Nat) : Int) := by
            cases usesO (es.getD i nilE).s.path bo
            · simp
            · simp
          rw [← this]
          rfl
      · rintro σ H5 ⟨v17, rfl, s5⟩
        refine ⟨_, rfl, sn, _, rfl, .inl (SqL.of (s5 _ _ hsn)), _, rfl, ?_⟩
        have e : us.length = dueS es bo cn ts.length := by rw [lus, List.length_map, ← lds, del.len, lt]
        rw [List.length_map] at *
        refine ⟨rfl, ?_⟩
        rw [e]
        show Q (.bl (decide (V.int ((dueS es bo cn ts.length : Nat) : Int) = V.int ((dueS es bo cn (ts.map V.ref).length : Nat) : Int)))) H5
        rw [List.length_map, decide_eq_true rfl]
        exact q _ (S4.trans s5)
end
end My
namespace My
open PySem PySem.Spec PyProof.Rows L2
abbrev sLaw : Stmt := top 36 /-law-/
/-- a stream as it is drawn -/
structure S16 (R : List (List Nat)) (s : StrD) : Prop where
  r : s.path ∈ R
  p0 : 4 ≤ s.pe
  p1 : s.pe ≤ 12
  l0 : 1 ≤ s.ln
  l1 : s.ln ≤ 2
  d0 : 4 ≤ s.dl
  d1 : s.dl ≤ 20
theorem S16.ok {N : NetD} {R : List (List Nat)} {s : StrD} (h : S16 R s) (hG : ∀ r ∈ R, IsP N r ∧ (∀ x ∈ r, x < N.ks.length) ∧ r.length ≤ 10) : SOk N s := by
  obtain ⟨h1, h2, h3⟩ := hG _ h.r
  have := h.p0
  have := h.p1
  have := h.d0
  have := h.d1
  exact ⟨⟨h1, h2, h3⟩, by omega, by omega, h.l0, by omega, by omega⟩
theorem pe_at4 {z : Int} (h0 : 0 ≤ z) (h1 : z < 4) : ∃ e : Int, atI [V.int 6, V.int 8, V.int 12, V.int 4] z = some (.int e) ∧ 4 ≤ e ∧ e ≤ 12 := by
  have : z = 0 ∨ z = 1 ∨ z = 2 ∨ z = 3 := by omega
  rcases this with rfl | rfl | rfl | rfl
  · exact ⟨6, rfl, by decide, by decide⟩
  · exact ⟨8, rfl, by decide, by decide⟩
  · exact ⟨12, rfl, by decide, by decide⟩
  · exact ⟨4, rfl, by decide, by decide⟩
theorem word4 {z : Int} (h0 : 0 ≤ z) (h1 : z < 4) : ∃ x : Str, atI [V.str "a", V.str "b", V.str "c", V.str "d"] z = some (.str x) := by
  have : z = 0 ∨ z = 1 ∨ z = 2 ∨ z = 3 := by omega
  rcases this with rfl | rfl | rfl | rfl
  · exact ⟨"a", rfl⟩
  · exact ⟨"b", rfl⟩
  · exact ⟨"c", rfl⟩
  · exact ⟨"d", rfl⟩
/-- how a ledger is made -/
structure LdMk (P : Program) (w : World) (K : PySem.W.Frag) (mg : Str → Option Value) (base : Heap) (C f : Addr) (fd : FuncData) : Prop where
  ok : FnOk P w K mg base CX0 1 f fd ["self", "net"] (spLdInit C)
  mg : mg "Ledger" = some (.ref C)
  mkC : Mk K C f
  b : Binds K fd ["self", "net"] []
def dRow (l : List Int) : PyData := .list (l.map PyData.int)
theorem shp_row (l : List Int) : SeqAt.shaped (dRow l) = true := (shp_list (shp_map fun _ => shp_int _)).shaped
theorem dp_row {K : PySem.W.Frag} {H : Hp} {l : List Int} {r : Addr} (h : H r = some (.lst (l.map V.int))) : Dp K H (.ref r) (dRow l) := .lst (SqL.of h) (dp_all _ _ (fun _ => .int _) _)
/-- what the loop of the law keeps -/
structure Inv16 (K : PySem.W.Frag) (C C2 C3 : Addr) (Hb H' : Hp) (p np d g : Addr) (N : NetD) (E : Led) (kv : List (Key × V)) (i : Nat) : Prop where
  sm : Same Hb H'
  L : LedAt K C C2 C3 H' p np d N E
  gd : H' g = some (.dK kv)
  gv : ∀ e ∈ E, ∃ r, valV kv (.inr e.1) = some (.ref r) ∧ H' r = some (.lst (e.2.os.map V.int))
  gl : kv.length ≤ i
  le : E.length ≤ i
  ok : ∀ e ∈ esE E, G16 N e
  jd : judged N (esE E) = none
theorem Inv16.up {K : PySem.W.Frag} {C C2 C3 : Addr} {Hb H1 H2 : Hp} {p np d g : Addr} {N : NetD} {E : Led} {kv : List (Key × V)} {i j : Nat} (h : Inv16 K C C2 C3 Hb H1 p np d g N E kv i) (s : Same H1 H2) (ij : i ≤ j) : Inv16 K C C2 C3 Hb H2 p np d g N E kv j :=
  ⟨h.sm.trans s, h.L.same s, s _ _ h.gd, fun e he => by
    obtain ⟨r, h1, h2⟩ := h.gv e he
    exact ⟨r, h1, s _ _ h2⟩, Nat.le_trans h.gl ij, Nat.le_trans h.le ij, h.ok, h.jd⟩
theorem Inv16.ne {K : PySem.W.Frag} {C C2 C3 : Addr} {Hb H1 : Hp} {p np d g : Addr} {N : NetD} {E : Led} {kv : List (Key × V)} {i : Nat} (h : Inv16 K C C2 C3 Hb H1 p np d g N E kv i) : ∀ e ∈ E, e.2.s.path ≠ [] ∧ e.2.os ≠ [] := fun e he => (h.ok e.2 (List.mem_map.mpr ⟨e, he, rfl⟩)).ok.ne
/-- judging a part of a plan -/
theorem judged_filter {N : NetD} {x : Str} : ∀ (n : Nat) (E : Led), E.length = n → judged N (esE E) = none → judged N (esE (E.filter fun e => decide (e.1 ≠ x))) = none
  | 0, E, h, j => by
    rw [List.length_eq_zero_iff.mp h]
    rfl
  | n + 1, E, h, j => by
    by_cases a : ∀ e ∈ E, e.1 ≠ x
    · rw [List.filter_eq_self.mpr fun e he => decide_eq_true (a e he)]
      exact j
    · obtain ⟨k, hk, ek⟩ : ∃ k, ∃ hk : k < E.length, E[k].1 = x := by
        refine Decidable.byContradiction fun z => a fun e he => ?_
        obtain ⟨k, hk, e1⟩ := List.getElem_of_mem he
        exact fun y => z ⟨k, hk, by rw [e1]; exact y⟩
      have e1 : E = E.take k ++ E[k] :: E.drop (k + 1) := by rw [← List.drop_eq_getElem_cons hk, List.take_append_drop]
      have e2 : E.filter (fun e => decide (e.1 ≠ x)) = (E.take k ++ E.drop (k + 1)).filter fun e => decide (e.1 ≠ x) := by
        conv => lhs; rw [e1]
        rw [List.filter_append, List.filter_append, List.filter_cons, if_neg (by rw [ek]; simp)]
      rw [e2]
      refine judged_filter n _ (by rw [List.length_append, List.length_take, List.length_drop]; omega) ?_
      have := judged_less (k := k) (by rw [List.length_map]; exact hk) j
      rw [esE, List.map_append, List.map_take, List.map_drop]
      exact this
theorem LedAt.butG {K : PySem.W.Frag} {C C2 C3 : Addr} {H H' : Hp} {p np d g : Addr} {N : NetD} {E : Led} {kv : List (Key × V)} (h : LedAt K C C2 C3 H p np d N E) (n : g ≠ d) (hg : H g = some (.dK kv)) (kb : But g H H') : LedAt K C C2 C3 H' p np d N E := by
  obtain ⟨dx, kvs, h1, h2, h3, h4⟩ := h
  exact ⟨dx, kvs, kb _ _ h1 (ne_of h1 hg (by intro z; cases z)), kb _ _ h2 n.symm, h3.butK hg kb, h4.butK hg kb⟩
theorem Inv16.put {K : PySem.W.Frag} {C C2 C3 : Addr} {Hb H7 H8 : Hp} {p np d g : Addr} {N : NetD} {E E' : Led} {kv kvs : List (Key × V)} {i : Nat} {x : Str} {v : V} (I : Inv16 K C C2 C3 Hb H7 p np d g N E kv i) (hd7 : H7 d = some (.dK kvs)) (kb : But d H7 H8) (ng : g ≠ d) (L8 : LedAt K C C2 C3 H8 p np d N E') (hE : ∀ e ∈ E', (e.1 ≠ x ∧ e ∈ E) ∨ (∃ r, e.1 = x ∧ v = .ref r ∧ H8 r = some (.lst (e.2.os.map V.int)))) (le : E'.length ≤ i + 1) (ok : ∀ e ∈ esE E', G16 N e) (jd : judged N (esE E') = none) (ndH : Hb d = none) (ngH : Hb g = none) : Inv16 K C C2 C3 Hb (upd H8 g (.dK (putK kv (.inr x) v))) p np d g N E' (putK kv (.inr x) v) (i + 1) := by
  have hg8 := kb _ _ I.gd ng
  have kg : But g H8 (upd H8 g (.dK (putK kv (.inr x) v))) := but_self
  refine ⟨fun b o z => ?_, L8.butG ng hg8 kg, upd_same, fun e he => ?_, by have := length_putK kv (.inr x) v; have := I.gl; omega, le, ok, jd⟩
  · exact kg _ _ (kb _ _ (I.sm _ _ z) (ne_of_none z ndH)) (ne_of_none z ngH)
  · rcases hE e he with ⟨h1, h2⟩ | ⟨r, h1, h2, h3⟩
    · obtain ⟨r, r1, r2⟩ := I.gv e h2
      refine ⟨r, ?_, kg _ _ (kb _ _ r2 (ne_of r2 hd7 (by intro z; cases z))) (ne_of r2 I.gd (by intro z; cases z))⟩
      rw [valV_put, if_neg (fun z => h1 (by injection z))]
      exact r1
    · refine ⟨r, ?_, kg _ _ h3 (ne_of h3 hg8 (by intro z; cases z))⟩
      rw [valV_put, if_pos (by rw [h1]), h2]
section
variable {X : Cx} {K : PySem.W.Frag}
theorem call_list_ofQ (hc : X.calm = true) (hK : X.K = K := by rfl) : CallR X (.type "list") (fun vs H Q => ∃ a xs, vs = [.ref a] ∧ SqL K H a xs ∧ ∀ l, H l = none → Q (.ref l) (upd H l (.lst xs))) := by
  subst hK
  intro pins s σ H _ us Q I r h
  obtain ⟨a, xs, rfl, hl, q⟩ := h
  exact call_list_of pins s σ H _ us Q I r ⟨a, xs, rfl, .inl hl, q⟩
end
section
variable {P : Program} {w : World} {K : PySem.W.Frag} {mg : Str → Option Value} {base : Heap}
theorem scLaw : FnScope ["script", "net", "paths", "ledger", "given", "cell", "numbers", "name", "path", "stream", "told", "plan", "names", "k"] ["script"] (defScope sLaw) := ⟨rfl, rfl, rfl, by decide +kernel, rfl, by decide +kernel, by decide +kernel⟩
def spLaw (K : PySem.W.Frag) : Sp := fun vs H Q _ => ∃ (a : Addr) (ns : List Int), vs = [.ref a] ∧ SqL K H a (ns.map V.int) ∧ ns.length ≤ 63 ∧ ∀ H', Q (.bl true) H'
theorem ok_law {f C C2 C3 fN fD fCe fP fS fRu fLi fRe fRq fPl fNa : Addr} {fd fdN fdD fdCe fdP fdS fdRu fdLi fdRe fdRq fdPl fdNa : FuncData} {k : Nat} (F : Fun K "law" "law" sLaw f fd) (T : Blt mg) (c1 : NetC K C) (c2 : StrC K C2) (c : LedC K C3)
    (GN : Callee P w K mg base 3 "_law_net" ["cell", "more"] (spLNet K C) fN fdN) (GD : Callee P w K mg base 1 "_law_draw" ["cell", "many", "bound"] spDraw fD fdD) (GC : Callee P w K mg base 1 "_law_cell" ["script", "k"] (spCell K) fCe fdCe) (GP : Callee P w K mg base 2 "_law_paths" ["net", "most"] (spPaths K C) fP fdP) (GS : StrMk P w K mg base C2 fS fdS)
    (GRu : Callee P w K mg base 6 "_law_runs" ["net", "plan", "numbers", "cell"] (spRuns K C C2) fRu fdRu)
    (GLd : LdMk P w K mg base C3 fLi fdLi) (mRe : Meth K C3 "release" fRe) (GRe : MethOf P w K mg base 1 ["self", "name"] (spRel K C C2 C3) fRe fdRe) (mRq : Meth K C3 "request" fRq) (GRq : MethOf P w K mg base 8 ["self", "name", "stream"] (spReq K C C2 C3) fRq fdRq) (mPl : Meth K C3 "plan" fPl) (GPl : MethOf P w K mg base 4 ["self"] (spLdPlan K C C2 C3) fPl fdPl) (mNa : Meth K C3 "names" fNa) (GNa : MethOf P w K mg base 1 ["self"] (spLdNames K C C2 C3) fNa fdNa) : FnOk P w K mg base CX0 (k + 9) f fd ["script"] (spLaw K) := by
  refine F.ok scLaw (fun vs H Q E h => ?_) (fun cdv A0 outer s0 H vs Q E hr h => ?_)
  · obtain ⟨a, ns, rfl, _⟩ := h
    rfl
  · obtain ⟨a, ns, rfl, hS, hlen, q⟩ := h
    have nd := scLaw.nd
    have hu := hu_of hr
    have hr1 : Room 1 _ := hr.mono (by omega)
    have hr2 : Room 2 _ := hr.mono (by omega)
    have hr3 : Room 3 _ := hr.mono (by omega)
    have hr4 : Room 4 _ := hr.mono (by omega)
    have hr6 : Room 6 _ := hr.mono (by omega)
    have hr8 : Room 8 _ := hr.mono (by omega)
    -- ["script", "net", "paths", "ledger", "given", "cell", "numbers", "name", "path", "stream", "told", "plan", "names", "k"]
    refine ⟨_, pss_cons (ps_set (i := 1) nd rfl (.inl rfl) (pe_call GN.ok hr3 (by rfl) GN.mg GN.kp GN.b .nil pass0 (pa_cons (pe_call GC.ok hr1 (by rfl) GC.mg GC.kp GC.b .nil pass0 (pa_cons (pv 0) (pa_cons pe_int pa_nil))) (pa_cons (pe_call GC.ok hr1 (by rfl) GC.mg GC.kp GC.b .nil pass0 (pa_cons (pv 0) (pa_cons pe_int pa_nil))) pa_nil)))) <| pss_cons (ps_set (i := 2) nd rfl (.inl rfl) (pe_call GP.ok hr2 (by rfl) GP.mg GP.kp GP.b .nil pass0 (pa_cons (pv 1) (pa_cons pe_int pa_nil)))) <| pss_cons (ps_if (pt_cmpR op_eq (pe_callB call_len_seq (by rfl) T.len PySem.boot_len (pa_cons (pv 2) pa_nil)) pe_int (nomark _)) (pss_one (ps_ret pe_bl)) (pss_nil)) <| pss_cons (ps_set (i := 3) nd rfl (.inl rfl) (pe_make GLd.mkC GLd.ok hr2 (by rfl) GLd.mg GLd.b .nil pass0 (pa_cons (pv 1) pa_nil))) <| pss_cons (ps_set (i := 4) nd rfl (.inl rfl) pe_dnewK) <| pss_cons (ps_for PassesOwn.never rfl (pi_list (pe_slice sl_list (pv 0) (po_some pe_int) (po_some pe_int))) (pg_name (i := 5) nd rfl (.inl rfl)) (pss_cons (ps_set (i := 6) nd rfl (.inl rfl) (pe_call GD.ok hr1 (by rfl) GD.mg GD.kp GD.b .nil pass0 (pa_cons (pv 5) (pa_cons pe_int (pa_cons (pe_op op_shl pe_int pe_int) pa_nil))))) <| pss_cons (ps_set (i := 7) nd rfl (.inl rfl) (pe_ix ix_list (pe_lst (pa_cons pe_str (pa_cons pe_str (pa_cons pe_str (pa_cons pe_str pa_nil))))) (pe_op op_mod (pe_ix ix_list (pv 6) pe_int (fun _ _ => rfl)) pe_int) (fun _ _ => rfl))) <| C8.pss_cut (ps_if (pt_cmpR op_eq (pe_op op_mod (pe_ix ix_list (pv 6) pe_int (fun _ _ => rfl)) pe_int) pe_int (nomark _)) (pss_cons (ps_expr (pe_meth (pv 3) c.cl mRe GRe.ok hr1 GRe.b .nil pass0 (pa_cons (pv 7) pa_nil))) <| pss_one (ps_dput hu (pv 4) (pv 7) pe_non rfl)) (pss_cons (ps_set (i := 8) nd rfl (.inl rfl) (pe_ix ix_list (pv 2) (pe_op op_mod (pe_ix ix_list (pv 6) pe_int (fun _ _ => rfl)) (pe_callB call_len_seq (by rfl) T.len PySem.boot_len (pa_cons (pv 2) pa_nil))) (fun _ _ => rfl))) <| pss_cons (ps_set (i := 9) nd rfl (.inl rfl) (pe_make GS.mkC GS.ok hr2 (by rfl) GS.mg GS.b .nil pass0 (pa_cons (pe_ix ix_list (pe_lst (pa_cons pe_int (pa_cons pe_int (pa_cons pe_int (pa_cons pe_int pa_nil))))) (pe_op op_mod (pe_ix ix_list (pv 6) pe_int (fun _ _ => rfl)) pe_int) (fun _ _ => rfl)) (pa_cons (pe_op op_add pe_int (pe_op op_mod (pe_ix ix_list (pv 6) pe_int (fun _ _ => rfl)) pe_int)) (pa_cons (pe_op op_add pe_int (pe_op op_mod (pe_ix ix_list (pv 6) pe_int (fun _ _ => rfl)) pe_int)) (pa_cons (pv 8) pa_nil)))))) <| pss_cons (ps_set (i := 10) nd rfl (.inl rfl) (pe_meth (pv 3) c.cl mRq GRq.ok hr8 GRq.b .nil pass0 (pa_cons (pv 7) (pa_cons (pv 9) pa_nil)))) <| pss_one (ps_if (pt_cmpR op_notN (pv 10) pe_non (nomark _)) (pss_one (ps_dput hu (pv 4) (pv 7) (pe_callTy call_list_of (by rfl) T.list (by decide +kernel) (pa_cons (pv 10) pa_nil)) rfl)) (pss_nil)))) <| pss_cons (ps_set (i := 11) nd rfl (.inl rfl) (pe_meth0 (pv 3) c.cl mPl GPl.ok hr4 GPl.b .nil pass0)) <| pss_cons (ps_set (i := 12) nd rfl (.inl rfl) (pe_meth0 (pv 3) c.cl mNa GNa.ok hr1 GNa.b .nil pass0)) <| pss_cons (ps_for PassesOwn.never rfl (pi_range1 (by rfl) T.range (pa_cons (pe_callB call_len_seq (by rfl) T.len PySem.boot_len (pa_cons (pv 11) pa_nil)) pa_nil)) (pg_name (i := 13) nd rfl (.inl rfl)) (pss_one (ps_if (pt_cmpR (op_neD hr.units) (pe_ix ix_tup (pe_ix ix_list (pv 11) (pv 13) (fun _ _ => rfl)) pe_int (fun _ _ => rfl)) (pe_dget hu (pv 4) (pe_ix ix_list (pv 12) (pv 13) (fun _ _ => rfl)) (fun _ _ => rfl)) (nomark _)) (pss_one (ps_ret pe_bl)) (pss_nil)))) <| pss_one (ps_if (PW.pt (pw_and (pt_cmpR op_eq (pe_op op_mod (pe_op op_fdiv (pe_ix ix_list (pv 6) pe_int (fun _ _ => rfl)) pe_int) pe_int) pe_int (nomark _)) (pw_and1 (pt_not (pt_val (pe_call GRu.ok hr6 (by rfl) GRu.mg GRu.kp GRu.b .nil pass0 (pa_cons (pv 1) (pa_cons (pv 11) (pa_cons (pv 6) (pa_cons (pe_op op_add (pv 5) pe_int) pa_nil)))))))))) (pss_one (ps_ret pe_bl)) (pss_nil)))) <| pss_one (ps_ret pe_bl), ?_⟩
    refine ⟨_, rfl, a, ns, 0, rfl, hS, _, rfl, a, ns, 1, rfl, hS, _, _, rfl, fun H1 np N s1 nnp hN wf => ?_⟩
    have lk0 := len_count N.ks
    have n7 : N.ks.length ≤ 7 := by have := wf.h1; have := wf.s1; omega
    have hD : Dist N.ls := wf.ls.dist
    have e0 := wf.e0
    refine ⟨_, rfl, np, 4, N, rfl, hN, n7, by omega, fun H2 pf fs s2 npf hf hR => ?_⟩
    have hN2 := hN.same s2
    have lfs : fs.length = (foundOf N 4).length := hR.length
    refine ⟨_, rfl, pf, _, rfl, .inl (SqL.of hf), rfl, _, rfl, ?_⟩
    refine ite2 (fun _ => q _) (fun hne => ?_)
    have hne : foundOf N 4 ≠ [] := fun z => hne (decide_eq_true (by rw [List.length_map, lfs, z]; rfl))
    have hG : ∀ r ∈ foundOf N 4, IsP N r ∧ (∀ x ∈ r, x < N.ks.length) ∧ r.length ≤ 10 := fun r hr => ⟨found_is hr, (found_lt hr).1, by have := (found_lt hr).2; omega⟩
    have tr : ∀ (s : StrD) (h : Nat), s.ln ≤ travel N s h := fun s h => travel_ge wf s h
    have hls : N.ls ≠ [] := fun z => by
      obtain ⟨r, hr⟩ := List.exists_mem_of_ne_nil _ hne
      obtain ⟨g1, g2, g3⟩ := hG r hr
      have po : PathOk N ⟨1, 1, 1, r⟩ := ⟨g1, g2, g3⟩
      obtain ⟨d, hd⟩ := po.joined (k := 0) (by have := g1.two; show 1 < r.length; omega)
      unfold joined at hd
      rw [z] at hd
      cases hd
    have lR : 0 < (foundOf N 4).length := List.length_pos_iff.mpr hne
    -- ledger
    refine ⟨_, rfl, fun lp dy nlp ndy nel => ⟨lp, dy, np, rfl, upd_same, fun H3 d kb3 nd3 hl3 hd3 => ⟨rfl, ?_⟩⟩⟩
    have s3 : Same H2 H3 := same_make nlp ndy kb3
    have ndH : H2 d = none := by
      cases z : H2 d with
      | none => rfl
      | some o => rw [same_make0 nlp ndy _ _ z] at nd3; cases nd3
    have L3 : LedAt K C C2 C3 H3 lp np d N [] := ⟨dy, [], hl3, hd3, .nil, hN2.same s3⟩
    -- given
    refine fun g ng => ?_
    have w1 := same_new (o := .dK []) ng
    have hg := upd_same (H := H3) (a := g) (o := .dK [])
    have ngd : g ≠ d := (ne_of_none hd3 ng).symm
    have ngH : H2 g = none := s3.free ng
    have S4 := s1.trans (s2.trans (s3.trans w1))
    have I4 : Inv16 K C C2 C3 H2 (upd H3 g (.dK [])) lp np d g N [] [] 0 := ⟨s3.trans w1, L3.same w1, hg, fun e h => (absurd h List.not_mem_nil), Nat.le_refl _, Nat.le_refl _, fun e h => absurd h List.not_mem_nil, rfl⟩
    generalize upd H3 g (.dK []) = H4 at S4 I4 ⊢
    clear w1 hg L3 nd3 kb3 hl3 hd3
    refine ⟨_, rfl, _, rfl, _, rfl, a, _, rfl, S4.seq hS, fun yl nyl => ?_⟩
    obtain ⟨ms, em, lms⟩ := cut_mid (ns := ns) (i := 2) (j := 9) (by decide)
    have em : cutV (ns.map V.int) (some 2) (some 9) = ms.map V.int := em
    have syl := same_new (o := .lst (cutV (ns.map V.int) (some 2) (some 9))) nyl
    have hyl : (upd H4 yl (.lst (cutV (ns.map V.int) (some 2) (some 9)))) yl = some (.lst (ms.map V.int)) := by rw [upd_same, em]
    have I5 := I4.up syl (Nat.le_refl 0)
    rw [em] at hyl I5 ⊢
    generalize upd H4 yl (.lst (ms.map V.int)) = H5 at hyl I5 ⊢
    clear syl em nyl I4
    refine ⟨yl, rfl, ⟨_, SqL.of hyl⟩, for_list (K := K) (a := yl) (xs := ms.map V.int) (fun i σ H' => ∃ (v5 v6 v7 v8 v9 v10 v11 v12 v13 : Option V) (E : Led) (kv : List (Key × V)), σ = [some (.ref a), some (.ref np), some (.ref pf), some (.ref lp), some (.ref g), v5, v6, v7, v8, v9, v10, v11, v12, v13] ∧ H' yl = some (.lst (ms.map V.int)) ∧ Inv16 K C C2 C3 H2 H' lp np d g N E kv i) ⟨none, none, none, none, none, none, none, none, none, [], [], rfl, hyl, I5⟩ (fun j σ H' _ ⟨_, _, _, _, _, _, _, _, _, _, _, _, z, _⟩ => SqL.of z) ?_ (fun σ H' _ => q _)⟩
    rintro i x σ H' hi ⟨v5, v6, v7, v8, v9, v10, v11, v12, v13, E, kv, rfl, hy, I⟩
    obtain ⟨z, ez, rfl⟩ := ints_at hi
    have il : i < ms.length := (List.getElem?_eq_some_iff.mp ez).1
    refine ⟨_, rfl, _, _, rfl, rfl, ⟨by decide, by decide, by decide⟩, z, 1048576, 8, rfl, by decide, by decide, by decide, fun H6 pn zs s6 npn hn lz bz => ?_⟩
    -- name
    refine ⟨by show 4 ≤ sizeLine; decide, fun l5 n5 => ?_⟩
    have s7 := same_new (o := .lst [V.str "a", V.str "b", V.str "c", V.str "d"]) n5
    obtain ⟨x, ex⟩ := word4 (z := zs.getD 0 0 % 4) (Int.emod_nonneg _ (by decide)) (Int.emod_lt_of_pos _ (by decide))
    refine ⟨_, rfl, pn, _, _, _, rfl, rfl, SqL.of (s7 _ _ hn), atI_ints (j := 0) rfl (by omega), _, _, rfl, rfl, (by show (0 : Int) < 4; decide), l5, _, _, _, rfl, rfl, SqL.of upd_same, ex, ?_⟩
    have I7 := (I.up s6 (Nat.le_refl i)).up s7 (Nat.le_refl i)
    have hy7 := s7 _ _ (s6 _ _ hy)
    have hn7 := s7 _ _ hn
    generalize upd H6 l5 (.lst [V.str "a", V.str "b", V.str "c", V.str "d"]) = H7 at I7 hy7 hn7 ⊢
    clear s7 n5 s6 hn npn I hy
    have ile := I7.le
    have gle := I7.gl
    refine ⟨fun σ' H' => ∃ (v8 v9 v10 v11 v12 v13 : Option V) (E : Led) (kv : List (Key × V)), σ' = [some (.ref a), some (.ref np), some (.ref pf), some (.ref lp), some (.ref g), some (.int z), some (.ref pn), some (.str x), v8, v9, v10, v11, v12, v13] ∧ H' yl = some (.lst (ms.map V.int)) ∧ H' pn = some (.lst (zs.map V.int)) ∧ Inv16 K C C2 C3 H2 H' lp np d g N E kv (i + 1), ?_, ?_⟩
    · refine ⟨_, rfl, pn, _, _, _, rfl, rfl, SqL.of hn7, atI_ints (j := 5) rfl (by omega), _, _, rfl, rfl, (by show (0 : Int) < 4; decide), rfl, _, rfl, ite2 (fun _ => ?_) (fun _ => ?_)⟩
      · obtain ⟨dxl, kvs, hl7, hd7, hk7, hN7⟩ := id I7.L
        have hE' : ∀ e ∈ E.filter (fun e => decide (e.1 ≠ x)), e.1 ≠ x ∧ e ∈ E := fun e he => by
          obtain ⟨h1, h2⟩ := List.mem_filter.mp he
          exact ⟨of_decide_eq_true h2, h1⟩
        have le' : (E.filter fun e => decide (e.1 ≠ x)).length ≤ i + 1 := by
          have := List.length_filter_le (fun e : Str × EntD => decide (e.1 ≠ x)) E
          omega
        have ok' : ∀ e ∈ esE (E.filter fun e => decide (e.1 ≠ x)), G16 N e := fun e he => by
          obtain ⟨y, hy, rfl⟩ := List.mem_map.mp he
          exact I7.ok _ (List.mem_map.mpr ⟨y, (hE' y hy).2, rfl⟩)
        have jd' := judged_filter (x := x) _ E rfl I7.jd
        refine ⟨_, rfl, lp, dxl, _, rfl, hl7, lm2, _, rfl, lp, np, d, N, E, x, rfl, I7.L, fun n H8 s8 => ?_, fun y H8 kb L8 => ?_⟩
        · have kb : But d H7 H8 := fun b o z _ => s8 _ _ z
          have same : E.filter (fun e => decide (e.1 ≠ x)) = E := List.filter_eq_self.mpr fun e he => decide_eq_true fun z => n (by rw [← z]; exact List.mem_map.mpr ⟨e, he, rfl⟩)
          have hg8 := s8 _ _ I7.gd
          refine ⟨_, rfl, _, rfl, g, upd H8 g (.dK (putK kv (.inr x) .non)), rfl, DPut.k (k := .inr x) hg8 (szl (by omega)), ?_⟩
          refine ⟨_, _, _, _, _, _, _, _, rfl, ?_, ?_, I7.put hd7 kb ngd (by rw [same]; exact I7.L.same s8) (fun e he => .inl (hE' e he)) le' ok' jd' ndH ngH⟩
          · rw [upd_ne (ne_of (s8 _ _ hy7) hg8 (by intro z; cases z))]
            exact s8 _ _ hy7
          · rw [upd_ne (ne_of (s8 _ _ hn7) hg8 (by intro z; cases z))]
            exact s8 _ _ hn7
        · have hg8 := kb _ _ I7.gd ngd
          have hy8 := kb _ _ hy7 (ne_of hy7 hd7 (by intro z; cases z))
          have hn8 := kb _ _ hn7 (ne_of hn7 hd7 (by intro z; cases z))
          refine ⟨_, rfl, _, rfl, g, upd H8 g (.dK (putK kv (.inr x) .non)), rfl, DPut.k (k := .inr x) hg8 (szl (by omega)), ?_⟩
          refine ⟨_, _, _, _, _, _, _, _, rfl, ?_, ?_, I7.put hd7 kb ngd L8 (fun e he => .inl (hE' e he)) le' ok' jd' ndH ngH⟩
          · rw [upd_ne (ne_of hy8 hg8 (by intro z; cases z))]
            exact hy8
          · rw [upd_ne (ne_of hn8 hg8 (by intro z; cases z))]
            exact hn8
      · -- path, stream
        have i0 : 0 ≤ zs.getD 1 0 % ((fs.map V.ref).length : Int) := Int.emod_nonneg _ (by rw [List.length_map]; omega)
        have i1 : zs.getD 1 0 % ((fs.map V.ref).length : Int) < ((fs.map V.ref).length : Int) := Int.emod_lt_of_pos _ (by rw [List.length_map]; omega)
        obtain ⟨j, ej⟩ : ∃ j : Nat, zs.getD 1 0 % ((fs.map V.ref).length : Int) = (j : Int) := ⟨_, (Int.toNat_of_nonneg i0).symm⟩
        have jl : j < fs.length := by rw [ej, List.length_map] at i1; omega
        obtain ⟨r, er, hr0, hrow⟩ := Paired.at hR (List.getElem?_eq_getElem jl)
        have rm := List.mem_of_getElem? er
        have hf7 := I7.sm _ _ hf
        have hrow7 := I7.sm _ _ hrow
        refine ⟨_, rfl, _, rfl, pn, _, _, _, rfl, rfl, SqL.of hn7, atI_ints (j := 1) rfl (by omega), _, rfl, pf, _, rfl, .inl (SqL.of hf7), _, _, rfl, rfl, (by rw [List.length_map]; omega), pf, _, _, _, rfl, rfl, SqL.of hf7, (by rw [ej]; exact atI_nat (by rw [List.getElem?_map, List.getElem?_eq_getElem jl]; rfl)), ?_⟩
        obtain ⟨pe, epe, pe0, pe1⟩ := pe_at4 (z := zs.getD 2 0 % 4) (Int.emod_nonneg _ (by decide)) (Int.emod_lt_of_pos _ (by decide))
        refine ⟨by show 4 ≤ sizeLine; decide, fun l4 n4 => ?_⟩
        have w4 := same_new (o := .lst [V.int 6, V.int 8, V.int 12, V.int 4]) n4
        have hn8 := w4 _ _ hn7
        refine ⟨_, rfl, pn, _, _, _, rfl, rfl, SqL.of hn8, atI_ints (j := 2) rfl (by omega), _, _, rfl, rfl, (by show (0 : Int) < 4; decide), l4, _, _, _, rfl, rfl, SqL.of upd_same, epe, ?_⟩
        refine ⟨_, rfl, pn, _, _, _, rfl, rfl, SqL.of hn8, atI_ints (j := 3) rfl (by omega), _, _, rfl, rfl, (by show (0 : Int) < 2; decide), _, _, rfl, rfl, ?_⟩
        refine ⟨_, rfl, pn, _, _, _, rfl, rfl, SqL.of hn8, atI_ints (j := 4) rfl (by omega), _, _, rfl, rfl, (by show (0 : Int) < 17; decide), _, _, rfl, rfl, ?_⟩
        have a2 : 0 ≤ zs.getD 3 0 % 2 ∧ zs.getD 3 0 % 2 < 2 := by omega
        have a17 : 0 ≤ zs.getD 4 0 % 17 ∧ zs.getD 4 0 % 17 < 17 := by omega
        refine ⟨_, rfl, fun u dy nu ndy neu => ⟨u, dy, fs[j], ⟨pe, 1 + zs.getD 3 0 % 2, 4 + zs.getD 4 0 % 17, r⟩, rfl, upd_same, SqL.of (same_make0 nu ndy _ _ (w4 _ _ hrow7)), fun H8 kb8 hS8 => ⟨rfl, ?_⟩⟩⟩
        have s8 := w4.trans (same_make nu ndy kb8)
        have d16 : S16 (foundOf N 4) ⟨pe, 1 + zs.getD 3 0 % 2, 4 + zs.getD 4 0 % 17, r⟩ := ⟨rm, pe0, pe1, by show 1 ≤ 1 + zs.getD 3 0 % 2; omega, by show 1 + zs.getD 3 0 % 2 ≤ 2; omega, by show 4 ≤ 4 + zs.getD 4 0 % 17; omega, by show 4 + zs.getD 4 0 % 17 ≤ 20; omega⟩
        obtain ⟨s, es⟩ : ∃ s : StrD, (⟨pe, 1 + zs.getD 3 0 % 2, 4 + zs.getD 4 0 % 17, r⟩ : StrD) = s := ⟨_, rfl⟩
        have hSt := hS8.at
        rw [es] at d16 hSt
        have so := d16.ok hG
        have I8 := I7.up s8 (Nat.le_refl i)
        have hy8 := s8 _ _ hy7
        have hn8' := s8 _ _ hn7
        clear hS8 kb8 w4 hn8 n4 es
        obtain ⟨dxl, kvs, hl8, hd8, hk8, hN8⟩ := id I8.L
        have po : POk N (esE E) := ⟨hD, fun e h => (I8.ok e h).ok, by rw [List.length_map]; omega⟩
        refine ⟨_, rfl, lp, dxl, _, rfl, hl8, lm1, _, rfl, _, rfl, lp, np, d, u, N, E, x, s, rfl, I8.L, po, by omega, hSt, so, fun y H9 s9 => ?_, fun n e H9 s9 => ?_, fun n l e H9 rr kb nr hrr L9 _ => ?_⟩
        · refine ⟨_, rfl, rfl, _, rfl, iteF ?_⟩
          exact ⟨_, _, _, _, _, _, E, kv, rfl, s9 _ _ hy8, s9 _ _ hn8', I8.up s9 (Nat.le_succ i)⟩
        · refine ⟨_, rfl, rfl, _, rfl, iteF ?_⟩
          exact ⟨_, _, _, _, _, _, E, kv, rfl, s9 _ _ hy8, s9 _ _ hn8', I8.up s9 (Nat.le_succ i)⟩
        · refine ⟨_, rfl, rfl, _, rfl, iteT ?_⟩
          obtain ⟨jj, j2, j3⟩ := admit_judged so (fun e h => (I8.ok e h).ok) e0 (tr s) I8.jd e
          have eo := so.eok (os := l) j2
          have ge : G16 N ⟨s, l⟩ := ⟨eo, d16.p0, d16.p1, d16.l1, fun h hh => by
            have := j3 _ (getD_mem hh)
            have := d16.d1
            show 0 ≤ l.getD h 0 ∧ l.getD h 0 ≤ 200
            omega⟩
          obtain ⟨E2, eE2⟩ : ∃ E2 : Led, E ++ [(x, ⟨s, l⟩)] = E2 := ⟨_, rfl⟩
          have esE2 : esE E2 = esE E ++ [⟨s, l⟩] := by rw [← eE2]; exact List.map_append
          rw [eE2] at L9
          refine ⟨_, rfl, rr, _, rfl, .inl (SqL.of hrr), fun lo nlo => ?_⟩
          have wl := same_new (o := .lst (l.map V.int)) nlo
          have hlo := upd_same (H := H9) (a := lo) (o := .lst (l.map V.int))
          generalize upd H9 lo (.lst (l.map V.int)) = HA at wl hlo ⊢
          have kbA : But d H8 HA := fun b o z nb => wl _ _ (kb _ _ z nb)
          have hgA := kbA _ _ I8.gd ngd
          have hyA := kbA _ _ hy8 (ne_of hy8 hd8 (by intro z; cases z))
          have hnA := kbA _ _ hn8' (ne_of hn8' hd8 (by intro z; cases z))
          refine ⟨_, rfl, _, rfl, g, upd HA g (.dK (putK kv (.inr x) (.ref lo))), rfl, DPut.k (k := .inr x) hgA (szl (by omega)), ?_⟩
          refine ⟨_, _, _, _, _, _, E2, _, rfl, ?_, ?_, I8.put hd8 kbA ngd (L9.same wl) (fun e he => ?_) ?_ ?_ (by rw [esE2]; exact jj) ndH ngH⟩
          · rw [upd_ne (ne_of hyA hgA (by intro z; cases z))]
            exact hyA
          · rw [upd_ne (ne_of hnA hgA (by intro z; cases z))]
            exact hnA
          · rw [← eE2] at he
            rcases List.mem_append.mp he with h | h
            · exact .inl ⟨fun z => n (by rw [← z]; exact List.mem_map.mpr ⟨e, h, rfl⟩), h⟩
            · rw [List.mem_singleton.mp h]
              exact .inr ⟨lo, rfl, rfl, hlo⟩
          · rw [← eE2, List.length_append]
            show E.length + 1 ≤ i + 1
            omega
          · rw [esE2]
            intro e he
            rcases List.mem_append.mp he with h | h
            · exact I8.ok e h
            · rw [List.mem_singleton.mp h]
              exact ge
    · rintro σ H8 ⟨v8, v9, v10, v11, v12, v13, E, kv, rfl, hy, hn, I⟩
      have leE := I.le
      obtain ⟨dxl, kvs, hl8, hd8, hk8, hN8⟩ := id I.L
      refine ⟨_, rfl, lp, dxl, _, rfl, hl8, lm4, lp, np, d, N, E, rfl, I.L, by omega, I.ne, fun H9 pl us s9 npl hpl hC => ?_⟩
      have I9 := I.up s9 (Nat.le_refl _)
      refine ⟨_, rfl, lp, dxl, _, rfl, s9 _ _ hl8, lm3, lp, np, d, N, E, rfl, I9.L, fun HA nl sA nnl hnl => ?_⟩
      have IA := I9.up sA (Nat.le_refl _)
      have hplA := sA _ _ hpl
      have hCA : Paired (CopyAt C2 H8 HA) us (esE E) := Paired.imp hC fun _ _ z => z.same sA
      have lus : us.length = E.length := by rw [hC.length, List.length_map]
      refine ⟨_, rfl, pl, _, rfl, .inl (SqL.of hplA), us.length, ?_, by omega, by omega, for_range (lo := 0) (n := us.length) (fun i σ H' => ∃ v13 : Option V, σ = [some (.ref a), some (.ref np), some (.ref pf), some (.ref lp), some (.ref g), some (.int z), some (.ref pn), some (.str x), v8, v9, v10, some (.ref pl), some (.ref nl), v13] ∧ H' = HA) ⟨_, rfl, rfl⟩ ?_ ?_⟩
      · rw [List.length_map]
      · rintro j σ H' hj ⟨v13, rfl, rfl⟩
        rw [Int.zero_add]
        obtain ⟨t, et⟩ : ∃ t, us[j]? = some t := ⟨_, List.getElem?_eq_getElem hj⟩
        obtain ⟨e, ee, hT⟩ := Paired.at hCA et
        rw [List.getElem?_map] at ee
        obtain ⟨xe, exe, rfl⟩ := Option.map_eq_some_iff.mp ee
        obtain ⟨r, hr1', hr2'⟩ := IA.gv xe (List.mem_of_getElem? exe)
        obtain ⟨u, lo, c1, c2', c3, _⟩ := hT
        refine ⟨_, rfl, _, rfl, pl, _, _, _, rfl, rfl, SqL.of hplA, atI_nat (v := V.ref t) (by rw [List.getElem?_map, et]; rfl), t, _, _, _, rfl, rfl, SqT.of c1, rfl, _, rfl, _, rfl, _, rfl, nl, _, _, _, rfl, rfl, SqL.of hnl, atI_nat (v := V.str xe.1) (by rw [List.getElem?_map, exe]; rfl), g, .ref r, rfl, (by rw [← hr1']; exact DGet.k (k := .inr xe.1) IA.gd), dRow xe.2.os, dRow xe.2.os, dp_row c3, dp_row hr2', shp_row _, shp_row _, _, rfl, ?_⟩
        rw [SeqAt.eqv_refl _ (SeqAt.canLay_of_shaped (shp_row _))]
        exact ite2 (fun z => by cases z) (fun _ => ⟨_, rfl, rfl⟩)
      · rintro σ H' ⟨v13, rfl, rfl⟩
        have hnA := sA _ _ (s9 _ _ hn)
        have hyA := sA _ _ (s9 _ _ hy)
        have hEA : EntsAt K C2 H' us (esE E) := Paired.imp hCA fun _ _ z => z.ent
        dsimp only [tIfS]
        refine and_read2 (a := decide (zs.getD 7 0 / 5 % 3 = 0)) (b := false) (fun Q h => ?_) (fun _ HB sB Q h => ?_) (fun HB sB => ?_)
        · refine ⟨_, rfl, pn, _, _, _, rfl, rfl, SqL.of hnA, atI_ints (j := 7) rfl (by omega), _, _, rfl, rfl, ⟨by decide, by decide⟩, _, _, rfl, rfl, (by show (0 : Int) < 3; decide), rfl, _, rfl, ?_⟩
          rw [dec_int]
          exact h _ (Same.refl _)
        · refine ⟨_, rfl, _, rfl, _, rfl, _, rfl, _, _, rfl, rfl, np, pl, pn, z + 1, N, us, esE E, zs, rfl, hN2.same (IA.sm.trans sB), wf, hls, SqL.of (sB _ _ hplA), hEA.same sB, I.ok, by rw [List.length_map]; omega, I.jd, sB _ _ hnA, lz, fun x hx => ?_, fun HC sC => ?_⟩
          · have := bz x hx
            omega
          · exact ⟨_, rfl, h _ sC⟩
        · rw [Bool.and_false]
          refine ite2 (fun z => by cases z) (fun _ => ?_)
          exact ⟨_, _, _, _, _, _, _, _, _, E, kv, rfl, sB _ _ hyA, IA.up sB (Nat.le_refl _)⟩
end
end My
namespace My
open PySem PySem.Spec PyProof.Rows L2
/-! ### what the top has written, the head -/
theorem all_mk {l : PySem.W.OpenLaw} {w : World} {K : PySem.W.Frag} {h : Heap} {mg : Str → Option Value} {fa C fI fDl C2 fSi C3 fLi fRq fRel fNa fPl C4 fTi fPt fPf fOc fIf fIl fSe C5 fRi fPo fTr fWo fAr fWa fMe fTL fWt fOf fWs fWy fAd fCo fOp fSm fD fCe fN fJ fP fRe fUs fRu fL : Addr} (X : K.In h) (G : h.Ns mainGlobals mg) (hfa : mg "law" = some (.ref fa))
    {DK : Addr}
    {odI anI : Option Addr} {slI : Array (Option Value)} {ocI dcI pmI cdI ctI : Value}
    {tkC0 : Tok}
    {tkC1 : Tok}
    {odDl anDl : Option Addr} {slDl : Array (Option Value)} {ocDl kVDl dcDl pmDl cdDl ctDl : Value}
    {odSi anSi : Option Addr} {slSi : Array (Option Value)} {ocSi dcSi pmSi cdSi ctSi kVSi : Value}
    {odLi anLi : Option Addr} {slLi : Array (Option Value)} {ocLi dcLi pmLi cdLi ctLi kVLi : Value}
    {odRq anRq : Option Addr} {slRq : Array (Option Value)} {ocRq kVRq dcRq pmRq cdRq ctRq : Value}
    {odRel anRel : Option Addr} {slRel : Array (Option Value)} {ocRel kVRel dcRel pmRel cdRel ctRel : Value}
    {odNa anNa : Option Addr} {slNa : Array (Option Value)} {ocNa kVNa dcNa pmNa cdNa ctNa : Value}
    {odPl anPl : Option Addr} {slPl : Array (Option Value)} {ocPl kVPl dcPl pmPl cdPl ctPl : Value}
    {odTi anTi : Option Addr} {slTi : Array (Option Value)} {ocTi dcTi pmTi cdTi ctTi kVTi : Value}
    {odPt anPt : Option Addr} {slPt : Array (Option Value)} {ocPt kVPt dcPt pmPt cdPt ctPt : Value}
    {odPf anPf : Option Addr} {slPf : Array (Option Value)} {ocPf kVPf dcPf pmPf cdPf ctPf : Value}
    {odOc anOc : Option Addr} {slOc : Array (Option Value)} {ocOc kVOc dcOc pmOc cdOc ctOc : Value}
    {odIf anIf : Option Addr} {slIf : Array (Option Value)} {ocIf kVIf dcIf pmIf cdIf ctIf : Value}
    {odIl anIl : Option Addr} {slIl : Array (Option Value)} {ocIl kVIl dcIl pmIl cdIl ctIl : Value}
    {odSe anSe : Option Addr} {slSe : Array (Option Value)} {ocSe kVSe dcSe pmSe cdSe ctSe : Value}
    {odRi anRi : Option Addr} {slRi : Array (Option Value)} {ocRi dcRi pmRi cdRi ctRi kVRi : Value}
    {odPo anPo : Option Addr} {slPo : Array (Option Value)} {ocPo kVPo dcPo pmPo cdPo ctPo : Value}
    {odTr anTr : Option Addr} {slTr : Array (Option Value)} {ocTr kVTr dcTr pmTr cdTr ctTr : Value}
    {odWo anWo : Option Addr} {slWo : Array (Option Value)} {ocWo kVWo dcWo pmWo cdWo ctWo : Value}
    {odAr anAr : Option Addr} {slAr : Array (Option Value)} {ocAr kVAr dcAr pmAr cdAr ctAr : Value}
    {odWa anWa : Option Addr} {slWa : Array (Option Value)} {ocWa kVWa dcWa pmWa cdWa ctWa : Value}
    {odMe anMe : Option Addr} {slMe : Array (Option Value)} {ocMe kVMe dcMe pmMe cdMe ctMe : Value}
    {odTL anTL : Option Addr} {slTL : Array (Option Value)} {ocTL kVTL dcTL pmTL cdTL ctTL : Value}
    {odWt anWt : Option Addr} {slWt : Array (Option Value)} {ocWt kVWt dcWt pmWt cdWt ctWt : Value}
    {odOf anOf : Option Addr} {slOf : Array (Option Value)} {ocOf kVOf dcOf pmOf cdOf ctOf : Value}
    {odWs anWs : Option Addr} {slWs : Array (Option Value)} {ocWs kVWs dcWs pmWs cdWs ctWs : Value}
    {odWy anWy : Option Addr} {slWy : Array (Option Value)} {ocWy kVWy dcWy pmWy cdWy ctWy : Value}
    {odAd anAd : Option Addr} {slAd : Array (Option Value)} {ocAd kVAd dcAd pmAd cdAd ctAd : Value}
    {odCo anCo : Option Addr} {slCo : Array (Option Value)} {ocCo kVCo dcCo pmCo cdCo ctCo : Value}
    {odOp anOp : Option Addr} {slOp : Array (Option Value)} {ocOp kVOp dcOp pmOp cdOp ctOp : Value}
    {DS : Addr} {odSm anSm : Option Addr} {slSm : Array (Option Value)} {ocSm dcSm pmSm cdSm ctSm : Value}
    {odD anD : Option Addr} {slD : Array (Option Value)} {ocD kVD dcD pmD cdD ctD : Value}
    {odCe anCe : Option Addr} {slCe : Array (Option Value)} {ocCe kVCe dcCe pmCe cdCe ctCe : Value}
    {odN anN : Option Addr} {slN : Array (Option Value)} {ocN kVN dcN pmN cdN ctN : Value}
    {odJ anJ : Option Addr} {slJ : Array (Option Value)} {ocJ kVJ dcJ pmJ cdJ ctJ : Value}
    {odP anP : Option Addr} {slP : Array (Option Value)} {ocP kVP dcP pmP cdP ctP : Value}
    {odRe anRe : Option Addr} {slRe : Array (Option Value)} {ocRe kVRe dcRe pmRe cdRe ctRe : Value}
    {odUs anUs : Option Addr} {slUs : Array (Option Value)} {ocUs kVUs dcUs pmUs cdUs ctUs : Value}
    {odRu anRu : Option Addr} {slRu : Array (Option Value)} {ocRu kVRu dcRu pmRu cdRu ctRu : Value}
    {odL anL : Option Addr} {slL : Array (Option Value)} {ocL kVL dcL pmL cdL ctL : Value}
    (aC : PySem.W.nsIn K mainGlobals "Net" = some (some (.ref C)))
    (aI : PySem.W.findIn K (.ref C) "__init__" = some (some (.ref fI)))
    (iI : PySem.W.isFn K (.ref fI) = true)
    (lI : K.lookup fI = some ⟨ocI, odI, .func (PySem.W.fnOf "__init__" "Net.__init__" (defArgs sInit) (defBody sInit) (defScope sInit) .none (.ref DK) dcI pmI anI cdI ctI), slI⟩)
    (cI : PySem.W.codeIn K cdI "Net.__init__" = true)
    (kI : PySem.W.keepIn K (.ref fI) = true)
    (kwC0 : PySem.W.nsIn K DK "processing" = some (some (.int 0 tkC0)))
    (kwC1 : PySem.W.nsIn K DK "error" = some (some (.int 0 tkC1)))
    (aDl : PySem.W.findIn K (.ref C) "delay" = some (some (.ref fDl)))
    (iDl : PySem.W.isFn K (.ref fDl) = true)
    (lDl : K.lookup fDl = some ⟨ocDl, odDl, .func (PySem.W.fnOf "delay" "Net.delay" (defArgs sDelay) (defBody sDelay) (defScope sDelay) .none kVDl dcDl pmDl anDl cdDl ctDl), slDl⟩)
    (cDl : PySem.W.codeIn K cdDl "Net.delay" = true)
    (kDl : PySem.W.keepIn K (.ref fDl) = true)
    (pgC : PySem.W.plainGet K C Str.empty = true)
    (hdC : PySem.W.hasDictIn K C = true)
    (poC : PySem.W.plainOver K C = true)
    (saC : PySem.W.findIn K (.ref C) "__setattr__" = some (some (.builtin "object.__setattr__")))
    (mkC : PySem.W.makesIn K C = true)
    (kcC : PySem.W.keepIn K (.ref C) = true)
    (nC1 : PySem.W.findIn K (.ref C) "kinds" = some none)
    (nC2 : PySem.W.findIn K (.ref C) "lines" = some none)
    (nC3 : PySem.W.findIn K (.ref C) "processing" = some none)
    (nC4 : PySem.W.findIn K (.ref C) "error" = some none)
    (nC5 : PySem.W.findIn K (.ref C) "_delays" = some none)
    (aC2 : PySem.W.nsIn K mainGlobals "Stream" = some (some (.ref C2)))
    (aSi : PySem.W.findIn K (.ref C2) "__init__" = some (some (.ref fSi)))
    (iSi : PySem.W.isFn K (.ref fSi) = true)
    (lSi : K.lookup fSi = some ⟨ocSi, odSi, .func (PySem.W.fnOf "__init__" "Stream.__init__" (defArgs sSInit) (defBody sSInit) (defScope sSInit) .none kVSi dcSi pmSi anSi cdSi ctSi), slSi⟩)
    (cSi : PySem.W.codeIn K cdSi "Stream.__init__" = true)
    (kSi : PySem.W.keepIn K (.ref fSi) = true)
    (pgC2 : PySem.W.plainGet K C2 Str.empty = true)
    (hdC2 : PySem.W.hasDictIn K C2 = true)
    (poC2 : PySem.W.plainOver K C2 = true)
    (saC2 : PySem.W.findIn K (.ref C2) "__setattr__" = some (some (.builtin "object.__setattr__")))
    (mkC2 : PySem.W.makesIn K C2 = true)
    (kcC2 : PySem.W.keepIn K (.ref C2) = true)
    (nC21 : PySem.W.findIn K (.ref C2) "period" = some none)
    (nC22 : PySem.W.findIn K (.ref C2) "length" = some none)
    (nC23 : PySem.W.findIn K (.ref C2) "deadline" = some none)
    (nC24 : PySem.W.findIn K (.ref C2) "path" = some none)
    (aC3 : PySem.W.nsIn K mainGlobals "Ledger" = some (some (.ref C3)))
    (aLi : PySem.W.findIn K (.ref C3) "__init__" = some (some (.ref fLi)))
    (iLi : PySem.W.isFn K (.ref fLi) = true)
    (lLi : K.lookup fLi = some ⟨ocLi, odLi, .func (PySem.W.fnOf "__init__" "Ledger.__init__" (defArgs sLdInit) (defBody sLdInit) (defScope sLdInit) .none kVLi dcLi pmLi anLi cdLi ctLi), slLi⟩)
    (cLi : PySem.W.codeIn K cdLi "Ledger.__init__" = true)
    (kLi : PySem.W.keepIn K (.ref fLi) = true)
    (aRq : PySem.W.findIn K (.ref C3) "request" = some (some (.ref fRq)))
    (iRq : PySem.W.isFn K (.ref fRq) = true)
    (lRq : K.lookup fRq = some ⟨ocRq, odRq, .func (PySem.W.fnOf "request" "Ledger.request" (defArgs sReq) (defBody sReq) (defScope sReq) .none kVRq dcRq pmRq anRq cdRq ctRq), slRq⟩)
    (cRq : PySem.W.codeIn K cdRq "Ledger.request" = true)
    (kRq : PySem.W.keepIn K (.ref fRq) = true)
    (aRel : PySem.W.findIn K (.ref C3) "release" = some (some (.ref fRel)))
    (iRel : PySem.W.isFn K (.ref fRel) = true)
    (lRel : K.lookup fRel = some ⟨ocRel, odRel, .func (PySem.W.fnOf "release" "Ledger.release" (defArgs sRel) (defBody sRel) (defScope sRel) .none kVRel dcRel pmRel anRel cdRel ctRel), slRel⟩)
    (cRel : PySem.W.codeIn K cdRel "Ledger.release" = true)
    (kRel : PySem.W.keepIn K (.ref fRel) = true)
    (aNa : PySem.W.findIn K (.ref C3) "names" = some (some (.ref fNa)))
    (iNa : PySem.W.isFn K (.ref fNa) = true)
    (lNa : K.lookup fNa = some ⟨ocNa, odNa, .func (PySem.W.fnOf "names" "Ledger.names" (defArgs sLdNames) (defBody sLdNames) (defScope sLdNames) .none kVNa dcNa pmNa anNa cdNa ctNa), slNa⟩)
    (cNa : PySem.W.codeIn K cdNa "Ledger.names" = true)
    (kNa : PySem.W.keepIn K (.ref fNa) = true)
    (aPl : PySem.W.findIn K (.ref C3) "plan" = some (some (.ref fPl)))
    (iPl : PySem.W.isFn K (.ref fPl) = true)
    (lPl : K.lookup fPl = some ⟨ocPl, odPl, .func (PySem.W.fnOf "plan" "Ledger.plan" (defArgs sLdPlan) (defBody sLdPlan) (defScope sLdPlan) .none kVPl dcPl pmPl anPl cdPl ctPl), slPl⟩)
    (cPl : PySem.W.codeIn K cdPl "Ledger.plan" = true)
    (kPl : PySem.W.keepIn K (.ref fPl) = true)
    (pgC3 : PySem.W.plainGet K C3 Str.empty = true)
    (hdC3 : PySem.W.hasDictIn K C3 = true)
    (poC3 : PySem.W.plainOver K C3 = true)
    (saC3 : PySem.W.findIn K (.ref C3) "__setattr__" = some (some (.builtin "object.__setattr__")))
    (mkC3 : PySem.W.makesIn K C3 = true)
    (kcC3 : PySem.W.keepIn K (.ref C3) = true)
    (nC31 : PySem.W.findIn K (.ref C3) "net" = some none)
    (nC32 : PySem.W.findIn K (.ref C3) "entries" = some none)
    (aC4 : PySem.W.nsIn K mainGlobals "Traffic" = some (some (.ref C4)))
    (aTi : PySem.W.findIn K (.ref C4) "__init__" = some (some (.ref fTi)))
    (iTi : PySem.W.isFn K (.ref fTi) = true)
    (lTi : K.lookup fTi = some ⟨ocTi, odTi, .func (PySem.W.fnOf "__init__" "Traffic.__init__" (defArgs sTInit) (defBody sTInit) (defScope sTInit) .none kVTi dcTi pmTi anTi cdTi ctTi), slTi⟩)
    (cTi : PySem.W.codeIn K cdTi "Traffic.__init__" = true)
    (kTi : PySem.W.keepIn K (.ref fTi) = true)
    (aPt : PySem.W.findIn K (.ref C4) "pass_tick" = some (some (.ref fPt)))
    (iPt : PySem.W.isFn K (.ref fPt) = true)
    (lPt : K.lookup fPt = some ⟨ocPt, odPt, .func (PySem.W.fnOf "pass_tick" "Traffic.pass_tick" (defArgs sPass) (defBody sPass) (defScope sPass) .none kVPt dcPt pmPt anPt cdPt ctPt), slPt⟩)
    (cPt : PySem.W.codeIn K cdPt "Traffic.pass_tick" = true)
    (kPt : PySem.W.keepIn K (.ref fPt) = true)
    (aPf : PySem.W.findIn K (.ref C4) "port_of" = some (some (.ref fPf)))
    (iPf : PySem.W.isFn K (.ref fPf) = true)
    (lPf : K.lookup fPf = some ⟨ocPf, odPf, .func (PySem.W.fnOf "port_of" "Traffic.port_of" (defArgs sPortOf) (defBody sPortOf) (defScope sPortOf) .none kVPf dcPf pmPf anPf cdPf ctPf), slPf⟩)
    (cPf : PySem.W.codeIn K cdPf "Traffic.port_of" = true)
    (kPf : PySem.W.keepIn K (.ref fPf) = true)
    (aOc : PySem.W.findIn K (.ref C4) "is_occupied" = some (some (.ref fOc)))
    (iOc : PySem.W.isFn K (.ref fOc) = true)
    (lOc : K.lookup fOc = some ⟨ocOc, odOc, .func (PySem.W.fnOf "is_occupied" "Traffic.is_occupied" (defArgs sOcc) (defBody sOcc) (defScope sOcc) .none kVOc dcOc pmOc anOc cdOc ctOc), slOc⟩)
    (cOc : PySem.W.codeIn K cdOc "Traffic.is_occupied" = true)
    (kOc : PySem.W.keepIn K (.ref fOc) = true)
    (aIf : PySem.W.findIn K (.ref C4) "is_first" = some (some (.ref fIf)))
    (iIf : PySem.W.isFn K (.ref fIf) = true)
    (lIf : K.lookup fIf = some ⟨ocIf, odIf, .func (PySem.W.fnOf "is_first" "Traffic.is_first" (defArgs sIsF) (defBody sIsF) (defScope sIsF) .none kVIf dcIf pmIf anIf cdIf ctIf), slIf⟩)
    (cIf : PySem.W.codeIn K cdIf "Traffic.is_first" = true)
    (kIf : PySem.W.keepIn K (.ref fIf) = true)
    (aIl : PySem.W.findIn K (.ref C4) "is_lost" = some (some (.ref fIl)))
    (iIl : PySem.W.isFn K (.ref fIl) = true)
    (lIl : K.lookup fIl = some ⟨ocIl, odIl, .func (PySem.W.fnOf "is_lost" "Traffic.is_lost" (defArgs sIsL) (defBody sIsL) (defScope sIsL) .none kVIl dcIl pmIl anIl cdIl ctIl), slIl⟩)
    (cIl : PySem.W.codeIn K cdIl "Traffic.is_lost" = true)
    (kIl : PySem.W.keepIn K (.ref fIl) = true)
    (aSe : PySem.W.findIn K (.ref C4) "send" = some (some (.ref fSe)))
    (iSe : PySem.W.isFn K (.ref fSe) = true)
    (lSe : K.lookup fSe = some ⟨ocSe, odSe, .func (PySem.W.fnOf "send" "Traffic.send" (defArgs sSend) (defBody sSend) (defScope sSend) .none kVSe dcSe pmSe anSe cdSe ctSe), slSe⟩)
    (cSe : PySem.W.codeIn K cdSe "Traffic.send" = true)
    (kSe : PySem.W.keepIn K (.ref fSe) = true)
    (pgC4 : PySem.W.plainGet K C4 Str.empty = true)
    (hdC4 : PySem.W.hasDictIn K C4 = true)
    (poC4 : PySem.W.plainOver K C4 = true)
    (saC4 : PySem.W.findIn K (.ref C4) "__setattr__" = some (some (.builtin "object.__setattr__")))
    (mkC4 : PySem.W.makesIn K C4 = true)
    (kcC4 : PySem.W.keepIn K (.ref C4) = true)
    (nC41 : PySem.W.findIn K (.ref C4) "net" = some none)
    (nC42 : PySem.W.findIn K (.ref C4) "streams" = some none)
    (nC43 : PySem.W.findIn K (.ref C4) "ports" = some none)
    (nC44 : PySem.W.findIn K (.ref C4) "broken_ports" = some none)
    (nC45 : PySem.W.findIn K (.ref C4) "deliveries" = some none)
    (nC46 : PySem.W.findIn K (.ref C4) "free_from" = some none)
    (nC47 : PySem.W.findIn K (.ref C4) "queues" = some none)
    (nC48 : PySem.W.findIn K (.ref C4) "coming" = some none)
    (nC49 : PySem.W.findIn K (.ref C4) "lost" = some none)
    (aC5 : PySem.W.nsIn K mainGlobals "Run" = some (some (.ref C5)))
    (aRi : PySem.W.findIn K (.ref C5) "__init__" = some (some (.ref fRi)))
    (iRi : PySem.W.isFn K (.ref fRi) = true)
    (lRi : K.lookup fRi = some ⟨ocRi, odRi, .func (PySem.W.fnOf "__init__" "Run.__init__" (defArgs sRInit) (defBody sRInit) (defScope sRInit) .none kVRi dcRi pmRi anRi cdRi ctRi), slRi⟩)
    (cRi : PySem.W.codeIn K cdRi "Run.__init__" = true)
    (kRi : PySem.W.keepIn K (.ref fRi) = true)
    (pgC5 : PySem.W.plainGet K C5 Str.empty = true)
    (hdC5 : PySem.W.hasDictIn K C5 = true)
    (poC5 : PySem.W.plainOver K C5 = true)
    (saC5 : PySem.W.findIn K (.ref C5) "__setattr__" = some (some (.builtin "object.__setattr__")))
    (mkC5 : PySem.W.makesIn K C5 = true)
    (kcC5 : PySem.W.keepIn K (.ref C5) = true)
    (nC51 : PySem.W.findIn K (.ref C5) "deliveries" = some none)
    (nC52 : PySem.W.findIn K (.ref C5) "fault" = some none)
    (aPo : PySem.W.nsIn K mainGlobals "ports_of" = some (some (.ref fPo)))
    (lPo : K.lookup fPo = some ⟨ocPo, odPo, .func (PySem.W.fnOf "ports_of" "ports_of" (defArgs sPorts) (defBody sPorts) (defScope sPorts) .none kVPo dcPo pmPo anPo cdPo ctPo), slPo⟩)
    (cPo : PySem.W.codeIn K cdPo "ports_of" = true)
    (kPo : PySem.W.keepIn K (.ref fPo) = true)
    (aTr : PySem.W.nsIn K mainGlobals "travel_of" = some (some (.ref fTr)))
    (lTr : K.lookup fTr = some ⟨ocTr, odTr, .func (PySem.W.fnOf "travel_of" "travel_of" (defArgs sTravel) (defBody sTravel) (defScope sTravel) .none kVTr dcTr pmTr anTr cdTr ctTr), slTr⟩)
    (cTr : PySem.W.codeIn K cdTr "travel_of" = true)
    (kTr : PySem.W.keepIn K (.ref fTr) = true)
    (aWo : PySem.W.nsIn K mainGlobals "window_of" = some (some (.ref fWo)))
    (lWo : K.lookup fWo = some ⟨ocWo, odWo, .func (PySem.W.fnOf "window_of" "window_of" (defArgs sWinOf) (defBody sWinOf) (defScope sWinOf) .none kVWo dcWo pmWo anWo cdWo ctWo), slWo⟩)
    (cWo : PySem.W.codeIn K cdWo "window_of" = true)
    (kWo : PySem.W.keepIn K (.ref fWo) = true)
    (aAr : PySem.W.nsIn K mainGlobals "arrival_of" = some (some (.ref fAr)))
    (lAr : K.lookup fAr = some ⟨ocAr, odAr, .func (PySem.W.fnOf "arrival_of" "arrival_of" (defArgs sArr) (defBody sArr) (defScope sArr) .none kVAr dcAr pmAr anAr cdAr ctAr), slAr⟩)
    (cAr : PySem.W.codeIn K cdAr "arrival_of" = true)
    (kAr : PySem.W.keepIn K (.ref fAr) = true)
    (aWa : PySem.W.nsIn K mainGlobals "windows_at" = some (some (.ref fWa)))
    (lWa : K.lookup fWa = some ⟨ocWa, odWa, .func (PySem.W.fnOf "windows_at" "windows_at" (defArgs sWinsAt) (defBody sWinsAt) (defScope sWinsAt) .none kVWa dcWa pmWa anWa cdWa ctWa), slWa⟩)
    (cWa : PySem.W.codeIn K cdWa "windows_at" = true)
    (kWa : PySem.W.keepIn K (.ref fWa) = true)
    (aMe : PySem.W.nsIn K mainGlobals "meet" = some (some (.ref fMe)))
    (lMe : K.lookup fMe = some ⟨ocMe, odMe, .func (PySem.W.fnOf "meet" "meet" (defArgs sMeet) (defBody sMeet) (defScope sMeet) .none kVMe dcMe pmMe anMe cdMe ctMe), slMe⟩)
    (cMe : PySem.W.codeIn K cdMe "meet" = true)
    (kMe : PySem.W.keepIn K (.ref fMe) = true)
    (aTL : PySem.W.nsIn K mainGlobals "waits_too_long" = some (some (.ref fTL)))
    (lTL : K.lookup fTL = some ⟨ocTL, odTL, .func (PySem.W.fnOf "waits_too_long" "waits_too_long" (defArgs sTooLong) (defBody sTooLong) (defScope sTooLong) .none kVTL dcTL pmTL anTL cdTL ctTL), slTL⟩)
    (cTL : PySem.W.codeIn K cdTL "waits_too_long" = true)
    (kTL : PySem.W.keepIn K (.ref fTL) = true)
    (aWt : PySem.W.nsIn K mainGlobals "wait_of" = some (some (.ref fWt)))
    (lWt : K.lookup fWt = some ⟨ocWt, odWt, .func (PySem.W.fnOf "wait_of" "wait_of" (defArgs sWait) (defBody sWait) (defScope sWait) .none kVWt dcWt pmWt anWt cdWt ctWt), slWt⟩)
    (cWt : PySem.W.codeIn K cdWt "wait_of" = true)
    (kWt : PySem.W.keepIn K (.ref fWt) = true)
    (aOf : PySem.W.nsIn K mainGlobals "offsets_at" = some (some (.ref fOf)))
    (lOf : K.lookup fOf = some ⟨ocOf, odOf, .func (PySem.W.fnOf "offsets_at" "offsets_at" (defArgs sOffs) (defBody sOffs) (defScope sOffs) .none kVOf dcOf pmOf anOf cdOf ctOf), slOf⟩)
    (cOf : PySem.W.codeIn K cdOf "offsets_at" = true)
    (kOf : PySem.W.keepIn K (.ref fOf) = true)
    (aWs : PySem.W.nsIn K mainGlobals "waits_at" = some (some (.ref fWs)))
    (lWs : K.lookup fWs = some ⟨ocWs, odWs, .func (PySem.W.fnOf "waits_at" "waits_at" (defArgs sWaitsAt) (defBody sWaitsAt) (defScope sWaitsAt) .none kVWs dcWs pmWs anWs cdWs ctWs), slWs⟩)
    (cWs : PySem.W.codeIn K cdWs "waits_at" = true)
    (kWs : PySem.W.keepIn K (.ref fWs) = true)
    (aWy : PySem.W.nsIn K mainGlobals "ways_before" = some (some (.ref fWy)))
    (lWy : K.lookup fWy = some ⟨ocWy, odWy, .func (PySem.W.fnOf "ways_before" "ways_before" (defArgs sWays) (defBody sWays) (defScope sWays) .none kVWy dcWy pmWy anWy cdWy ctWy), slWy⟩)
    (cWy : PySem.W.codeIn K cdWy "ways_before" = true)
    (kWy : PySem.W.keepIn K (.ref fWy) = true)
    (aAd : PySem.W.nsIn K mainGlobals "admit" = some (some (.ref fAd)))
    (lAd : K.lookup fAd = some ⟨ocAd, odAd, .func (PySem.W.fnOf "admit" "admit" (defArgs sAdmit) (defBody sAdmit) (defScope sAdmit) .none kVAd dcAd pmAd anAd cdAd ctAd), slAd⟩)
    (cAd : PySem.W.codeIn K cdAd "admit" = true)
    (kAd : PySem.W.keepIn K (.ref fAd) = true)
    (aCo : PySem.W.nsIn K mainGlobals "copy_of" = some (some (.ref fCo)))
    (lCo : K.lookup fCo = some ⟨ocCo, odCo, .func (PySem.W.fnOf "copy_of" "copy_of" (defArgs sCopy) (defBody sCopy) (defScope sCopy) .none kVCo dcCo pmCo anCo cdCo ctCo), slCo⟩)
    (cCo : PySem.W.codeIn K cdCo "copy_of" = true)
    (kCo : PySem.W.keepIn K (.ref fCo) = true)
    (aOp : PySem.W.nsIn K mainGlobals "openings_of" = some (some (.ref fOp)))
    (lOp : K.lookup fOp = some ⟨ocOp, odOp, .func (PySem.W.fnOf "openings_of" "openings_of" (defArgs sOpen) (defBody sOpen) (defScope sOpen) .none kVOp dcOp pmOp anOp cdOp ctOp), slOp⟩)
    (cOp : PySem.W.codeIn K cdOp "openings_of" = true)
    (kOp : PySem.W.keepIn K (.ref fOp) = true)
    (aSm : PySem.W.nsIn K mainGlobals "simulate" = some (some (.ref fSm)))
    (lSm : K.lookup fSm = some ⟨ocSm, odSm, .func (PySem.W.fnOf "simulate" "simulate" (defArgs sSim) (defBody sSim) (defScope sSim) .none (.ref DS) dcSm pmSm anSm cdSm ctSm), slSm⟩)
    (cSm : PySem.W.codeIn K cdSm "simulate" = true)
    (kSm : PySem.W.keepIn K (.ref fSm) = true)
    (kwDS0 : PySem.W.nsIn K DS "broken" = some (some .none))
    (aD : PySem.W.nsIn K mainGlobals "_law_draw" = some (some (.ref fD)))
    (lD : K.lookup fD = some ⟨ocD, odD, .func (PySem.W.fnOf "_law_draw" "_law_draw" (defArgs sDraw) (defBody sDraw) (defScope sDraw) .none kVD dcD pmD anD cdD ctD), slD⟩)
    (cD : PySem.W.codeIn K cdD "_law_draw" = true)
    (kD : PySem.W.keepIn K (.ref fD) = true)
    (aCe : PySem.W.nsIn K mainGlobals "_law_cell" = some (some (.ref fCe)))
    (lCe : K.lookup fCe = some ⟨ocCe, odCe, .func (PySem.W.fnOf "_law_cell" "_law_cell" (defArgs sCell) (defBody sCell) (defScope sCell) .none kVCe dcCe pmCe anCe cdCe ctCe), slCe⟩)
    (cCe : PySem.W.codeIn K cdCe "_law_cell" = true)
    (kCe : PySem.W.keepIn K (.ref fCe) = true)
    (aN : PySem.W.nsIn K mainGlobals "_law_net" = some (some (.ref fN)))
    (lN : K.lookup fN = some ⟨ocN, odN, .func (PySem.W.fnOf "_law_net" "_law_net" (defArgs sLNet) (defBody sLNet) (defScope sLNet) .none kVN dcN pmN anN cdN ctN), slN⟩)
    (cN : PySem.W.codeIn K cdN "_law_net" = true)
    (kN : PySem.W.keepIn K (.ref fN) = true)
    (aJ : PySem.W.nsIn K mainGlobals "_law_joined" = some (some (.ref fJ)))
    (lJ : K.lookup fJ = some ⟨ocJ, odJ, .func (PySem.W.fnOf "_law_joined" "_law_joined" (defArgs sJoined) (defBody sJoined) (defScope sJoined) .none kVJ dcJ pmJ anJ cdJ ctJ), slJ⟩)
    (cJ : PySem.W.codeIn K cdJ "_law_joined" = true)
    (kJ : PySem.W.keepIn K (.ref fJ) = true)
    (aP : PySem.W.nsIn K mainGlobals "_law_paths" = some (some (.ref fP)))
    (lP : K.lookup fP = some ⟨ocP, odP, .func (PySem.W.fnOf "_law_paths" "_law_paths" (defArgs sPaths) (defBody sPaths) (defScope sPaths) .none kVP dcP pmP anP cdP ctP), slP⟩)
    (cP : PySem.W.codeIn K cdP "_law_paths" = true)
    (kP : PySem.W.keepIn K (.ref fP) = true)
    (aRe : PySem.W.nsIn K mainGlobals "_law_ready" = some (some (.ref fRe)))
    (lRe : K.lookup fRe = some ⟨ocRe, odRe, .func (PySem.W.fnOf "_law_ready" "_law_ready" (defArgs sReady16) (defBody sReady16) (defScope sReady16) .none kVRe dcRe pmRe anRe cdRe ctRe), slRe⟩)
    (cRe : PySem.W.codeIn K cdRe "_law_ready" = true)
    (kRe : PySem.W.keepIn K (.ref fRe) = true)
    (aUs : PySem.W.nsIn K mainGlobals "_law_uses" = some (some (.ref fUs)))
    (lUs : K.lookup fUs = some ⟨ocUs, odUs, .func (PySem.W.fnOf "_law_uses" "_law_uses" (defArgs sUses16) (defBody sUses16) (defScope sUses16) .none kVUs dcUs pmUs anUs cdUs ctUs), slUs⟩)
    (cUs : PySem.W.codeIn K cdUs "_law_uses" = true)
    (kUs : PySem.W.keepIn K (.ref fUs) = true)
    (aRu : PySem.W.nsIn K mainGlobals "_law_runs" = some (some (.ref fRu)))
    (lRu : K.lookup fRu = some ⟨ocRu, odRu, .func (PySem.W.fnOf "_law_runs" "_law_runs" (defArgs sRuns) (defBody sRuns) (defScope sRuns) .none kVRu dcRu pmRu anRu cdRu ctRu), slRu⟩)
    (cRu : PySem.W.codeIn K cdRu "_law_runs" = true)
    (kRu : PySem.W.keepIn K (.ref fRu) = true)
    (aL : PySem.W.nsIn K mainGlobals "law" = some (some (.ref fL)))
    (lL : K.lookup fL = some ⟨ocL, odL, .func (PySem.W.fnOf "law" "law" (defArgs sLaw) (defBody sLaw) (defScope sLaw) .none kVL dcL pmL anL cdL ctL), slL⟩)
    (cL : PySem.W.codeIn K cdL "law" = true)
    (kL : PySem.W.keepIn K (.ref fL) = true)
    (z_range : PySem.W.nsIn K mainGlobals "range" = some none)
    (z_len : PySem.W.nsIn K mainGlobals "len" = some none)
    (z_int : PySem.W.nsIn K mainGlobals "int" = some none)
    (z_list : PySem.W.nsIn K mainGlobals "list" = some none)
    (z_enum : PySem.W.nsIn K mainGlobals "enumerate" = some none)
    (z_zip : PySem.W.nsIn K mainGlobals "zip" = some none)
    (z_max : PySem.W.nsIn K mainGlobals "max" = some none)
    (z_min : PySem.W.nsIn K mainGlobals "min" = some none)
    (z_any : PySem.W.nsIn K mainGlobals "any" = some none)
    (z_sorted : PySem.W.nsIn K mainGlobals "sorted" = some none)
    (z_gcd : PySem.W.nsIn K mainGlobals "gcd" = some (some (.builtin "math.gcd"))) :
    ∃ fd : FuncData, (∀ (s : Shared) (v : Value), BindsTo s fd ⟨[v], []⟩ [("script", v)]) ∧ ∀ base : Heap, K.In base → base.Ns mainGlobals mg → FnOk l.prog w K mg base CX0 9 fa fd ["script"] (spLaw K) := by
  have e := hfa.symm.trans (PySem.W.mg_of X G aL)
  cases e
  have T : Blt mg := ⟨PySem.W.mg_none_of X G z_range, PySem.W.mg_none_of X G z_len, PySem.W.mg_none_of X G z_int, PySem.W.mg_none_of X G z_list, PySem.W.mg_none_of X G z_enum⟩
  have hrange := PySem.W.mg_none_of X G z_range
  have hlen := PySem.W.mg_none_of X G z_len
  have hint := PySem.W.mg_none_of X G z_int
  have hlist := PySem.W.mg_none_of X G z_list
  have henum := PySem.W.mg_none_of X G z_enum
  have hzip := PySem.W.mg_none_of X G z_zip
  have hmax := PySem.W.mg_none_of X G z_max
  have hmin := PySem.W.mg_none_of X G z_min
  have hany := PySem.W.mg_none_of X G z_any
  have hsorted := PySem.W.mg_none_of X G z_sorted
  have hgcd := PySem.W.mg_of X G z_gcd
  have cC : NetC K C := ⟨⟨pgC, hdC, poC, saC⟩, nC1, nC2, nC3, nC4, nC5⟩
  have gCC := PySem.W.mg_of X G aC
  have FI : FunInit K fI _ := ⟨⟨_, _, _, _, _, _, _, _, _, _, rfl, lI, cI, .inl ⟨rfl, rfl⟩, .inr ⟨DK, rfl, fun q hq => by
    rcases List.mem_cons.mp hq with rfl | hq
    · exact ⟨_, kwC0, ⟨_, rfl⟩⟩
    rw [List.mem_singleton.mp hq]
    exact ⟨_, kwC1, ⟨_, rfl⟩⟩⟩⟩, kI⟩
  have MIC : Mk K C fI := ⟨mkC, aI, iI, kcC⟩
  have FDl := fun_mk (st := sDelay) lDl cDl kDl
  have mDl : Meth K C "delay" fDl := ⟨aDl, iDl, kDl⟩
  have BDl : Binds K _ ["self", "a", "b"] [] := FDl.binds (ps := ["self", "a", "b"]) fun _ _ _ _ _ _ us hl => match us, hl with | [_, _, _], _ => rfl
  have cC2 : StrC K C2 := ⟨⟨pgC2, hdC2, poC2, saC2⟩, nC21, nC22, nC23, nC24⟩
  have gCC2 := PySem.W.mg_of X G aC2
  have FSi := fun_mk (st := sSInit) lSi cSi kSi
  have BSi : Binds K _ ["self", "period", "length", "deadline", "path"] [] := FSi.binds (ps := ["self", "period", "length", "deadline", "path"]) fun _ _ _ _ _ _ us hl => match us, hl with | [_, _, _, _, _], _ => rfl
  have MIC2 : Mk K C2 fSi := ⟨mkC2, aSi, iSi, kcC2⟩
  have cC3 : LedC K C3 := ⟨⟨pgC3, hdC3, poC3, saC3⟩, nC31, nC32⟩
  have gCC3 := PySem.W.mg_of X G aC3
  have FLi := fun_mk (st := sLdInit) lLi cLi kLi
  have BLi : Binds K _ ["self", "net"] [] := FLi.binds (ps := ["self", "net"]) fun _ _ _ _ _ _ us hl => match us, hl with | [_, _], _ => rfl
  have MIC3 : Mk K C3 fLi := ⟨mkC3, aLi, iLi, kcC3⟩
  have FRq := fun_mk (st := sReq) lRq cRq kRq
  have mRq : Meth K C3 "request" fRq := ⟨aRq, iRq, kRq⟩
  have BRq : Binds K _ ["self", "name", "stream"] [] := FRq.binds (ps := ["self", "name", "stream"]) fun _ _ _ _ _ _ us hl => match us, hl with | [_, _, _], _ => rfl
  have FRel := fun_mk (st := sRel) lRel cRel kRel
  have mRel : Meth K C3 "release" fRel := ⟨aRel, iRel, kRel⟩
  have BRel : Binds K _ ["self", "name"] [] := FRel.binds (ps := ["self", "name"]) fun _ _ _ _ _ _ us hl => match us, hl with | [_, _], _ => rfl
  have FNa := fun_mk (st := sLdNames) lNa cNa kNa
  have mNa : Meth K C3 "names" fNa := ⟨aNa, iNa, kNa⟩
  have BNa : Binds K _ ["self"] [] := FNa.binds (ps := ["self"]) fun _ _ _ _ _ _ us hl => match us, hl with | [_], _ => rfl
  have FPl := fun_mk (st := sLdPlan) lPl cPl kPl
  have mPl : Meth K C3 "plan" fPl := ⟨aPl, iPl, kPl⟩
  have BPl : Binds K _ ["self"] [] := FPl.binds (ps := ["self"]) fun _ _ _ _ _ _ us hl => match us, hl with | [_], _ => rfl
  have cC4 : TrC K C4 := ⟨⟨pgC4, hdC4, poC4, saC4⟩, nC41, nC42, nC43, nC44, nC45, nC46, nC47, nC48, nC49⟩
  have gCC4 := PySem.W.mg_of X G aC4
  have FTi := fun_mk (st := sTInit) lTi cTi kTi
  have BTi : Binds K _ ["self", "net", "plan", "broken"] [] := FTi.binds (ps := ["self", "net", "plan", "broken"]) fun _ _ _ _ _ _ us hl => match us, hl with | [_, _, _, _], _ => rfl
  have MIC4 : Mk K C4 fTi := ⟨mkC4, aTi, iTi, kcC4⟩
  have FPt := fun_mk (st := sPass) lPt cPt kPt
  have mPt : Meth K C4 "pass_tick" fPt := ⟨aPt, iPt, kPt⟩
  have BPt : Binds K _ ["self", "tick", "opening"] [] := FPt.binds (ps := ["self", "tick", "opening"]) fun _ _ _ _ _ _ us hl => match us, hl with | [_, _, _], _ => rfl
  have FPf := fun_mk (st := sPortOf) lPf cPf kPf
  have mPf : Meth K C4 "port_of" fPf := ⟨aPf, iPf, kPf⟩
  have BPf : Binds K _ ["self", "window"] [] := FPf.binds (ps := ["self", "window"]) fun _ _ _ _ _ _ us hl => match us, hl with | [_, _], _ => rfl
  have FOc := fun_mk (st := sOcc) lOc cOc kOc
  have mOc : Meth K C4 "is_occupied" fOc := ⟨aOc, iOc, kOc⟩
  have BOc : Binds K _ ["self", "window", "tick"] [] := FOc.binds (ps := ["self", "window", "tick"]) fun _ _ _ _ _ _ us hl => match us, hl with | [_, _, _], _ => rfl
  have FIf := fun_mk (st := sIsF) lIf cIf kIf
  have mIf : Meth K C4 "is_first" fIf := ⟨aIf, iIf, kIf⟩
  have BIf : Binds K _ ["self", "window"] [] := FIf.binds (ps := ["self", "window"]) fun _ _ _ _ _ _ us hl => match us, hl with | [_, _], _ => rfl
  have FIl := fun_mk (st := sIsL) lIl cIl kIl
  have mIl : Meth K C4 "is_lost" fIl := ⟨aIl, iIl, kIl⟩
  have BIl : Binds K _ ["self", "window"] [] := FIl.binds (ps := ["self", "window"]) fun _ _ _ _ _ _ us hl => match us, hl with | [_, _], _ => rfl
  have FSe := fun_mk (st := sSend) lSe cSe kSe
  have mSe : Meth K C4 "send" fSe := ⟨aSe, iSe, kSe⟩
  have BSe : Binds K _ ["self", "window", "tick"] [] := FSe.binds (ps := ["self", "window", "tick"]) fun _ _ _ _ _ _ us hl => match us, hl with | [_, _, _], _ => rfl
  have cC5 : RunC K C5 := ⟨⟨pgC5, hdC5, poC5, saC5⟩, nC51, nC52⟩
  have gCC5 := PySem.W.mg_of X G aC5
  have FRi := fun_mk (st := sRInit) lRi cRi kRi
  have BRi : Binds K _ ["self", "deliveries", "fault"] [] := FRi.binds (ps := ["self", "deliveries", "fault"]) fun _ _ _ _ _ _ us hl => match us, hl with | [_, _, _], _ => rfl
  have MIC5 : Mk K C5 fRi := ⟨mkC5, aRi, iRi, kcC5⟩
  have FPo := fun_mk (st := sPorts) lPo cPo kPo
  have gPo := PySem.W.mg_of X G aPo
  have BPo : Binds K _ ["path"] [] := FPo.binds (ps := ["path"]) fun _ _ _ _ _ _ us hl => match us, hl with | [_], _ => rfl
  have FTr := fun_mk (st := sTravel) lTr cTr kTr
  have gTr := PySem.W.mg_of X G aTr
  have BTr : Binds K _ ["net", "stream", "hop"] [] := FTr.binds (ps := ["net", "stream", "hop"]) fun _ _ _ _ _ _ us hl => match us, hl with | [_, _, _], _ => rfl
  have FWo := fun_mk (st := sWinOf) lWo cWo kWo
  have gWo := PySem.W.mg_of X G aWo
  have BWo : Binds K _ ["entry", "hop"] [] := FWo.binds (ps := ["entry", "hop"]) fun _ _ _ _ _ _ us hl => match us, hl with | [_, _], _ => rfl
  have FAr := fun_mk (st := sArr) lAr cAr kAr
  have gAr := PySem.W.mg_of X G aAr
  have BAr : Binds K _ ["net", "entry", "hop"] [] := FAr.binds (ps := ["net", "entry", "hop"]) fun _ _ _ _ _ _ us hl => match us, hl with | [_, _, _], _ => rfl
  have FWa := fun_mk (st := sWinsAt) lWa cWa kWa
  have gWa := PySem.W.mg_of X G aWa
  have BWa : Binds K _ ["plan", "port"] [] := FWa.binds (ps := ["plan", "port"]) fun _ _ _ _ _ _ us hl => match us, hl with | [_, _], _ => rfl
  have FMe := fun_mk (st := sMeet) lMe cMe kMe
  have gMe := PySem.W.mg_of X G aMe
  have BMe : Binds K _ ["first", "second"] [] := FMe.binds (ps := ["first", "second"]) fun _ _ _ _ _ _ us hl => match us, hl with | [_, _], _ => rfl
  have FTL := fun_mk (st := sTooLong) lTL cTL kTL
  have gTL := PySem.W.mg_of X G aTL
  have BTL : Binds K _ ["wait"] [] := FTL.binds (ps := ["wait"]) fun _ _ _ _ _ _ us hl => match us, hl with | [_], _ => rfl
  have FWt := fun_mk (st := sWait) lWt cWt kWt
  have gWt := PySem.W.mg_of X G aWt
  have BWt : Binds K _ ["net", "entry", "hop"] [] := FWt.binds (ps := ["net", "entry", "hop"]) fun _ _ _ _ _ _ us hl => match us, hl with | [_, _, _], _ => rfl
  have FOf := fun_mk (st := sOffs) lOf cOf kOf
  have gOf := PySem.W.mg_of X G aOf
  have BOf : Binds K _ ["plan", "stream", "hop"] [] := FOf.binds (ps := ["plan", "stream", "hop"]) fun _ _ _ _ _ _ us hl => match us, hl with | [_, _, _], _ => rfl
  have FWs := fun_mk (st := sWaitsAt) lWs cWs kWs
  have gWs := PySem.W.mg_of X G aWs
  have BWs : Binds K _ ["net", "plan", "port"] [] := FWs.binds (ps := ["net", "plan", "port"]) fun _ _ _ _ _ _ us hl => match us, hl with | [_, _, _], _ => rfl
  have FWy := fun_mk (st := sWays) lWy cWy kWy
  have gWy := PySem.W.mg_of X G aWy
  have BWy : Binds K _ ["net", "plan", "stream", "hop", "ways"] [] := FWy.binds (ps := ["net", "plan", "stream", "hop", "ways"]) fun _ _ _ _ _ _ us hl => match us, hl with | [_, _, _, _, _], _ => rfl
  have FAd := fun_mk (st := sAdmit) lAd cAd kAd
  have gAd := PySem.W.mg_of X G aAd
  have BAd : Binds K _ ["net", "plan", "stream"] [] := FAd.binds (ps := ["net", "plan", "stream"]) fun _ _ _ _ _ _ us hl => match us, hl with | [_, _, _], _ => rfl
  have FCo := fun_mk (st := sCopy) lCo cCo kCo
  have gCo := PySem.W.mg_of X G aCo
  have BCo : Binds K _ ["entry"] [] := FCo.binds (ps := ["entry"]) fun _ _ _ _ _ _ us hl => match us, hl with | [_], _ => rfl
  have FOp := fun_mk (st := sOpen) lOp cOp kOp
  have gOp := PySem.W.mg_of X G aOp
  have BOp : Binds K _ ["plan", "errors", "count"] [] := FOp.binds (ps := ["plan", "errors", "count"]) fun _ _ _ _ _ _ us hl => match us, hl with | [_, _, _], _ => rfl
  have FSm := fun_mk (st := sSim) lSm cSm kSm
  have gSm := PySem.W.mg_of X G aSm
  have FD := fun_mk (st := sDraw) lD cD kD
  have gD := PySem.W.mg_of X G aD
  have BD : Binds K _ ["cell", "many", "bound"] [] := FD.binds (ps := ["cell", "many", "bound"]) fun _ _ _ _ _ _ us hl => match us, hl with | [_, _, _], _ => rfl
  have FCe := fun_mk (st := sCell) lCe cCe kCe
  have gCe := PySem.W.mg_of X G aCe
  have BCe : Binds K _ ["script", "k"] [] := FCe.binds (ps := ["script", "k"]) fun _ _ _ _ _ _ us hl => match us, hl with | [_, _], _ => rfl
  have FN := fun_mk (st := sLNet) lN cN kN
  have gN := PySem.W.mg_of X G aN
  have BN : Binds K _ ["cell", "more"] [] := FN.binds (ps := ["cell", "more"]) fun _ _ _ _ _ _ us hl => match us, hl with | [_, _], _ => rfl
  have FJ := fun_mk (st := sJoined) lJ cJ kJ
  have gJ := PySem.W.mg_of X G aJ
  have BJ : Binds K _ ["net", "a", "b"] [] := FJ.binds (ps := ["net", "a", "b"]) fun _ _ _ _ _ _ us hl => match us, hl with | [_, _, _], _ => rfl
  have FP := fun_mk (st := sPaths) lP cP kP
  have gP := PySem.W.mg_of X G aP
  have BP : Binds K _ ["net", "most"] [] := FP.binds (ps := ["net", "most"]) fun _ _ _ _ _ _ us hl => match us, hl with | [_, _], _ => rfl
  have FRe := fun_mk (st := sReady16) lRe cRe kRe
  have gRe := PySem.W.mg_of X G aRe
  have BRe : Binds K _ ["net", "stream", "offsets"] [] := FRe.binds (ps := ["net", "stream", "offsets"]) fun _ _ _ _ _ _ us hl => match us, hl with | [_, _, _], _ => rfl
  have FUs := fun_mk (st := sUses16) lUs cUs kUs
  have gUs := PySem.W.mg_of X G aUs
  have BUs : Binds K _ ["path", "cut"] [] := FUs.binds (ps := ["path", "cut"]) fun _ _ _ _ _ _ us hl => match us, hl with | [_, _], _ => rfl
  have FRu := fun_mk (st := sRuns) lRu cRu kRu
  have gRu := PySem.W.mg_of X G aRu
  have BRu : Binds K _ ["net", "plan", "numbers", "cell"] [] := FRu.binds (ps := ["net", "plan", "numbers", "cell"]) fun _ _ _ _ _ _ us hl => match us, hl with | [_, _, _, _], _ => rfl
  have FL := fun_mk (st := sLaw) lL cL kL
  refine ⟨PySem.W.fnOf "law" "law" (defArgs sLaw) (defBody sLaw) (defScope sLaw) .none kVL dcL pmL anL cdL ctL, fun s v => .of_eq rfl, fun base _ _ => ?_⟩
  have GI : NetMk l.prog w K mg base C fI _ := ⟨ok_init FI T cC, gCC, MIC, kb_net FI⟩
  have GSi : StrMk l.prog w K mg base C2 fSi _ := ⟨ok_sinit FSi T cC2, gCC2, MIC2, BSi, kcC2⟩
  have GDl : MethOf l.prog w K mg base 1 ["self", "a", "b"] (spDelay K C) fDl _ := ⟨ok_delay FDl cC, BDl⟩
  have GD : Callee l.prog w K mg base 1 "_law_draw" ["cell", "many", "bound"] spDraw fD _ := ⟨ok_draw FD T, gD, FD.kp, BD⟩
  have GCe : Callee l.prog w K mg base 1 "_law_cell" ["script", "k"] (spCell K) fCe _ := ⟨ok_cell FCe T, gCe, FCe.kp, BCe⟩
  have GN : Callee l.prog w K mg base 3 "_law_net" ["cell", "more"] (spLNet K C) fN _ := ⟨ok_lnet FN T GD GI, gN, FN.kp, BN⟩
  have GJ : Callee l.prog w K mg base 1 "_law_joined" ["net", "a", "b"] (spJoined K C) fJ _ := ⟨ok_joined FJ cC, gJ, FJ.kp, BJ⟩
  have GP : Callee l.prog w K mg base 2 "_law_paths" ["net", "most"] (spPaths K C) fP _ := ⟨ok_paths FP T cC GJ, gP, FP.kp, BP⟩
  have GPo : Callee l.prog w K mg base 1 "ports_of" ["path"] (spPo K) fPo _ := ⟨ok_ports FPo T hzip, gPo, FPo.kp, BPo⟩
  have GTr : Callee l.prog w K mg base 2 "travel_of" ["net", "stream", "hop"] (spTravel K C C2) fTr _ := ⟨ok_travel FTr cC cC2 mDl GDl, gTr, FTr.kp, BTr⟩
  have GWo : Callee l.prog w K mg base 1 "window_of" ["entry", "hop"] (spWinOf K C2) fWo _ := ⟨ok_winof FWo cC2, gWo, FWo.kp, BWo⟩
  have GAr : Callee l.prog w K mg base 3 "arrival_of" ["net", "entry", "hop"] (spArr K C C2) fAr _ := ⟨ok_arr FAr GTr, gAr, FAr.kp, BAr⟩
  have GWa : Callee l.prog w K mg base 2 "windows_at" ["plan", "port"] (spWinsAt K C2) fWa _ := ⟨ok_winsat FWa cC2 GPo GWo, gWa, FWa.kp, BWa⟩
  have GMe : Callee l.prog w K mg base 1 "meet" ["first", "second"] (spMeet K) fMe _ := ⟨ok_meet FMe hgcd, gMe, FMe.kp, BMe⟩
  have GTL : Callee l.prog w K mg base 1 "waits_too_long" ["wait"] (spTooLong K) fTL _ := ⟨ok_toolong FTL, gTL, FTL.kp, BTL⟩
  have GWt : Callee l.prog w K mg base 4 "wait_of" ["net", "entry", "hop"] (spWait K C C2) fWt _ := ⟨ok_wait FWt hmax cC GAr GWo, gWt, FWt.kp, BWt⟩
  have GOf : Callee l.prog w K mg base 3 "offsets_at" ["plan", "stream", "hop"] (spOffs K C2) fOf _ := ⟨ok_offs FOf T hany cC2 GPo GWa GMe, gOf, FOf.kp, BOf⟩
  have GWs : Callee l.prog w K mg base 5 "waits_at" ["net", "plan", "port"] (spWaitsAt K C C2) fWs _ := ⟨ok_waitsat FWs cC2 GPo GWt, gWs, FWs.kp, BWs⟩
  have GWy : Callee l.prog w K mg base 6 "ways_before" ["net", "plan", "stream", "hop", "ways"] (spWays K C C2) fWy _ := ⟨ok_ways FWy hmin hany cC cC2 GWs GPo GOf GTr GWt GTL GMe, gWy, FWy.kp, BWy⟩
  have GAd : Callee l.prog w K mg base 7 "admit" ["net", "plan", "stream"] (spAdmit K C C2) fAd _ := ⟨ok_admit FAd hmin hlen cC cC2 GOf GTr GWy, gAd, FAd.kp, BAd⟩
  have GCo : Callee l.prog w K mg base 3 "copy_of" ["entry"] (spCopy K C2) fCo _ := ⟨ok_copy FCo T cC2 GSi, gCo, FCo.kp, BCo⟩
  have GLi : LdMk l.prog w K mg base C3 fLi _ := ⟨ok_ldinit FLi cC3, gCC3, MIC3, BLi⟩
  have GNa : MethOf l.prog w K mg base 1 ["self"] (spLdNames K C C2 C3) fNa _ := ⟨ok_ldnames FNa T cC3, BNa⟩
  have GPl : MethOf l.prog w K mg base 4 ["self"] (spLdPlan K C C2 C3) fPl _ := ⟨ok_ldplan FPl cC3 GCo, BPl⟩
  have GRel : MethOf l.prog w K mg base 1 ["self", "name"] (spRel K C C2 C3) fRel _ := ⟨ok_rel FRel cC3, BRel⟩
  have GRq : MethOf l.prog w K mg base 8 ["self", "name", "stream"] (spReq K C C2 C3) fRq _ := ⟨ok_req FRq cC3 GAd mPl GPl GCo, BRq⟩
  have GPoT : Callee l.prog w K mg base 1 "ports_of" ["path"] (spPoT K) fPo _ := ⟨ok_portsT FPo T hzip, gPo, FPo.kp, BPo⟩
  have GTi : TrMk l.prog w K mg base C C2 C4 fTi _ := ⟨ok_tinit FTi cC2 cC4 GPoT, gCC4, MIC4, BTi, kcC4⟩
  have GRi : RunMk l.prog w K mg base C5 fRi _ := ⟨ok_rinit FRi cC5, gCC5, MIC5, BRi, kcC5⟩
  have GPf : MethOf l.prog w K mg base 1 ["self", "window"] (spPortOf K C C2 C4) fPf _ := ⟨ok_portof FPf cC4, BPf⟩
  have GOc : MethOf l.prog w K mg base 2 ["self", "window", "tick"] (spOcc K C C2 C4) fOc _ := ⟨ok_occ FOc cC4 mPf GPf, BOc⟩
  have GIf : MethOf l.prog w K mg base 2 ["self", "window"] (spIsF K C C2 C4) fIf _ := ⟨ok_isf FIf cC4 mPf GPf, BIf⟩
  have GIl : MethOf l.prog w K mg base 1 ["self", "window"] (spIsL K C C2 C4) fIl _ := ⟨ok_isl FIl cC4, BIl⟩
  have GSe : MethOf l.prog w K mg base 3 ["self", "window", "tick"] (spSend K C C2 C4) fSe _ := ⟨ok_send FSe cC2 cC4 mPf GPf GTr hlen, BSe⟩
  have GPt : MethOf l.prog w K mg base 4 ["self", "tick", "opening"] (spPass K C C2 C4) fPt _ := ⟨ok_pass FPt cC4 mPf GPf mOc GOc mIf GIf mIl GIl mSe GSe hsorted hmin hlen, BPt⟩
  have GOp : Callee l.prog w K mg base 1 "openings_of" ["plan", "errors", "count"] (spOpen K C2) fOp _ := ⟨ok_open FOp T cC2, gOp, FOp.kp, BOp⟩
  have FDSm : FunD K "simulate" "simulate" (defArgs sSim) (defBody sSim) (defScope sSim) [] [("broken", V.non)] fSm _ := ⟨⟨_, _, _, _, _, _, _, _, _, _, rfl, lSm, cSm, .inl ⟨rfl, rfl⟩, .inr ⟨DS, rfl, fun q hq => by rw [List.mem_singleton.mp hq]; exact ⟨_, kwDS0, rfl⟩⟩⟩, kSm⟩
  obtain ⟨mvSm, bSm⟩ := FDSm.kbinds0 (ps := ["net", "plan", "errors", "count", "broken"]) 4 ["broken"] [] (fun us _ ws => us ++ ws) (by simp) (fun q hq => by cases hq) (fun r1 _ r3 => r1.append r3) (fun D doc pm an cdv ct us mv ws h1 _ h3 => match us, ws, h1, h3 with | [_, _, _, _], [_], _, _ => rfl)
  have GSm : SimKw l.prog w K mg base C C2 C5 fSm _ := ⟨ok_sim FSm T cC4 GOp GTi GRi mPt GPt hsorted hmin hmax, gSm, FSm.kp, bSm⟩
  have GUs : Callee l.prog w K mg base 1 "_law_uses" ["path", "cut"] (spUses16 K) fUs _ := ⟨ok_uses16 FUs T, gUs, FUs.kp, BUs⟩
  have GRe : Callee l.prog w K mg base 2 "_law_ready" ["net", "stream", "offsets"] (spReady16 K C C2) fRe _ := ⟨ok_ready16 FRe T cC cC2 GJ, gRe, FRe.kp, BRe⟩
  have GRu : Callee l.prog w K mg base 6 "_law_runs" ["net", "plan", "numbers", "cell"] (spRuns K C C2) fRu _ := ⟨ok_runs FRu T cC cC2 cC5 GD GSm GRe GUs, gRu, FRu.kp, BRu⟩
  exact ok_law FL T cC cC2 cC3 GN GD GCe GP GSi GRu GLi mRel GRel mRq GRq mPl GPl mNa GNa
end My
open PySem PySem.W PyProof.Rows in
set_option maxHeartbeats 0 in
theorem PySem.Challenge.cw_metronet_k16_whole_streams_that_come_and_holds : PySem.Challenge.rw_metronet_k16_whole_streams_that_come_and.Holds := by
  w_on; o_law; k_head; (case hw => w_witness2)
  k_fill
  refine L2.walk_of (l := PySem.Challenge.rw_metronet_k16_whole_streams_that_come_and) (n := 63) (k := 9) (x := "script") (CX := fun _ => L2.CX0) (sp := fun w => My.spLaw _) rfl (by decide) rfl ⟨rfl, by decide, by decide⟩ (fun w h Y => PySem.W.kIn_of Y) ?F (fun _ _ a ns hl _ hS => ⟨a, ns, rfl, hS, hl, fun _ => rfl⟩) (fun _ _ _ _ _ h => h)
  case F =>
    intro w mg fa h KX G hmg
    refine' My.all_mk KX G hmg ?aC ?aI ?iI ?lI ?cI ?kI ?kwC0 ?kwC1 ?aDl ?iDl ?lDl ?cDl ?kDl ?pgC ?hdC ?poC ?saC ?mkC ?kcC ?nC1 ?nC2 ?nC3 ?nC4 ?nC5 ?aC2 ?aSi ?iSi ?lSi ?cSi ?kSi ?pgC2 ?hdC2 ?poC2 ?saC2 ?mkC2 ?kcC2 ?nC21 ?nC22 ?nC23 ?nC24 ?aC3 ?aLi ?iLi ?lLi ?cLi ?kLi ?aRq ?iRq ?lRq ?cRq ?kRq ?aRel ?iRel ?lRel ?cRel ?kRel ?aNa ?iNa ?lNa ?cNa ?kNa ?aPl ?iPl ?lPl ?cPl ?kPl ?pgC3 ?hdC3 ?poC3 ?saC3 ?mkC3 ?kcC3 ?nC31 ?nC32 ?aC4 ?aTi ?iTi ?lTi ?cTi ?kTi ?aPt ?iPt ?lPt ?cPt ?kPt ?aPf ?iPf ?lPf ?cPf ?kPf ?aOc ?iOc ?lOc ?cOc ?kOc ?aIf ?iIf ?lIf ?cIf ?kIf ?aIl ?iIl ?lIl ?cIl ?kIl ?aSe ?iSe ?lSe ?cSe ?kSe ?pgC4 ?hdC4 ?poC4 ?saC4 ?mkC4 ?kcC4 ?nC41 ?nC42 ?nC43 ?nC44 ?nC45 ?nC46 ?nC47 ?nC48 ?nC49 ?aC5 ?aRi ?iRi ?lRi ?cRi ?kRi ?pgC5 ?hdC5 ?poC5 ?saC5 ?mkC5 ?kcC5 ?nC51 ?nC52 ?aPo ?lPo ?cPo ?kPo ?aTr ?lTr ?cTr ?kTr ?aWo ?lWo ?cWo ?kWo ?aAr ?lAr ?cAr ?kAr ?aWa ?lWa ?cWa ?kWa ?aMe ?lMe ?cMe ?kMe ?aTL ?lTL ?cTL ?kTL ?aWt ?lWt ?cWt ?kWt ?aOf ?lOf ?cOf ?kOf ?aWs ?lWs ?cWs ?kWs ?aWy ?lWy ?cWy ?kWy ?aAd ?lAd ?cAd ?kAd ?aCo ?lCo ?cCo ?kCo ?aOp ?lOp ?cOp ?kOp ?aSm ?lSm ?cSm ?kSm ?kwDS0 ?aD ?lD ?cD ?kD ?aCe ?lCe ?cCe ?kCe ?aN ?lN ?cN ?kN ?aJ ?lJ ?cJ ?kJ ?aP ?lP ?cP ?kP ?aRe ?lRe ?cRe ?kRe ?aUs ?lUs ?cUs ?kUs ?aRu ?lRu ?cRu ?kRu ?aL ?lL ?cL ?kL ?z_range ?z_len ?z_int ?z_list ?z_enum ?z_zip ?z_max ?z_min ?z_any ?z_sorted ?z_gcd
    (case aC => k_is)
    (case aI => k_is)
    (case iI => k_is)
    (case lI => k_is)
    (case cI => k_is)
    (case kI => k_is)
    (case kwC0 => k_is)
    (case kwC1 => k_is)
    (case aDl => k_is)
    (case iDl => k_is)
    (case lDl => k_is)
    (case cDl => k_is)
    (case kDl => k_is)
    (case pgC => k_is)
    (case hdC => k_is)
    (case poC => k_is)
    (case saC => k_is)
    (case mkC => k_is)
    (case kcC => k_is)
    (case nC1 => k_is)
    (case nC2 => k_is)
    (case nC3 => k_is)
    (case nC4 => k_is)
    (case nC5 => k_is)
    (case aC2 => k_is)
    (case aSi => k_is)
    (case iSi => k_is)
    (case lSi => k_is)
    (case cSi => k_is)
    (case kSi => k_is)
    (case pgC2 => k_is)
    (case hdC2 => k_is)
    (case poC2 => k_is)
    (case saC2 => k_is)
    (case mkC2 => k_is)
    (case kcC2 => k_is)
    (case nC21 => k_is)
    (case nC22 => k_is)
    (case nC23 => k_is)
    (case nC24 => k_is)
    (case aC3 => k_is)
    (case aLi => k_is)
    (case iLi => k_is)
    (case lLi => k_is)
    (case cLi => k_is)
    (case kLi => k_is)
    (case aRq => k_is)
    (case iRq => k_is)
    (case lRq => k_is)
    (case cRq => k_is)
    (case kRq => k_is)
    (case aRel => k_is)
    (case iRel => k_is)
    (case lRel => k_is)
    (case cRel => k_is)
    (case kRel => k_is)
    (case aNa => k_is)
    (case iNa => k_is)
    (case lNa => k_is)
    (case cNa => k_is)
    (case kNa => k_is)
    (case aPl => k_is)
    (case iPl => k_is)
    (case lPl => k_is)
    (case cPl => k_is)
    (case kPl => k_is)
    (case pgC3 => k_is)
    (case hdC3 => k_is)
    (case poC3 => k_is)
    (case saC3 => k_is)
    (case mkC3 => k_is)
    (case kcC3 => k_is)
    (case nC31 => k_is)
    (case nC32 => k_is)
    (case aC4 => k_is)
    (case aTi => k_is)
    (case iTi => k_is)
    (case lTi => k_is)
    (case cTi => k_is)
    (case kTi => k_is)
    (case aPt => k_is)
    (case iPt => k_is)
    (case lPt => k_is)
    (case cPt => k_is)
    (case kPt => k_is)
    (case aPf => k_is)
    (case iPf => k_is)
    (case lPf => k_is)
    (case cPf => k_is)
    (case kPf => k_is)
    (case aOc => k_is)
    (case iOc => k_is)
    (case lOc => k_is)
    (case cOc => k_is)
    (case kOc => k_is)
    (case aIf => k_is)
    (case iIf => k_is)
    (case lIf => k_is)
    (case cIf => k_is)
    (case kIf => k_is)
    (case aIl => k_is)
    (case iIl => k_is)
    (case lIl => k_is)
    (case cIl => k_is)
    (case kIl => k_is)
    (case aSe => k_is)
    (case iSe => k_is)
    (case lSe => k_is)
    (case cSe => k_is)
    (case kSe => k_is)
    (case pgC4 => k_is)
    (case hdC4 => k_is)
    (case poC4 => k_is)
    (case saC4 => k_is)
    (case mkC4 => k_is)
    (case kcC4 => k_is)
    (case nC41 => k_is)
    (case nC42 => k_is)
    (case nC43 => k_is)
    (case nC44 => k_is)
    (case nC45 => k_is)
    (case nC46 => k_is)
    (case nC47 => k_is)
    (case nC48 => k_is)
    (case nC49 => k_is)
    (case aC5 => k_is)
    (case aRi => k_is)
    (case iRi => k_is)
    (case lRi => k_is)
    (case cRi => k_is)
    (case kRi => k_is)
    (case pgC5 => k_is)
    (case hdC5 => k_is)
    (case poC5 => k_is)
    (case saC5 => k_is)
    (case mkC5 => k_is)
    (case kcC5 => k_is)
    (case nC51 => k_is)
    (case nC52 => k_is)
    (case aPo => k_is)
    (case lPo => k_is)
    (case cPo => k_is)
    (case kPo => k_is)
    (case aTr => k_is)
    (case lTr => k_is)
    (case cTr => k_is)
    (case kTr => k_is)
    (case aWo => k_is)
    (case lWo => k_is)
    (case cWo => k_is)
    (case kWo => k_is)
    (case aAr => k_is)
    (case lAr => k_is)
    (case cAr => k_is)
    (case kAr => k_is)
    (case aWa => k_is)
    (case lWa => k_is)
    (case cWa => k_is)
    (case kWa => k_is)
    (case aMe => k_is)
    (case lMe => k_is)
    (case cMe => k_is)
    (case kMe => k_is)
    (case aTL => k_is)
    (case lTL => k_is)
    (case cTL => k_is)
    (case kTL => k_is)
    (case aWt => k_is)
    (case lWt => k_is)
    (case cWt => k_is)
    (case kWt => k_is)
    (case aOf => k_is)
    (case lOf => k_is)
    (case cOf => k_is)
    (case kOf => k_is)
    (case aWs => k_is)
    (case lWs => k_is)
    (case cWs => k_is)
    (case kWs => k_is)
    (case aWy => k_is)
    (case lWy => k_is)
    (case cWy => k_is)
    (case kWy => k_is)
    (case aAd => k_is)
    (case lAd => k_is)
    (case cAd => k_is)
    (case kAd => k_is)
    (case aCo => k_is)
    (case lCo => k_is)
    (case cCo => k_is)
    (case kCo => k_is)
    (case aOp => k_is)
    (case lOp => k_is)
    (case cOp => k_is)
    (case kOp => k_is)
    (case aSm => k_is)
    (case lSm => k_is)
    (case cSm => k_is)
    (case kSm => k_is)
    (case kwDS0 => k_is)
    (case aD => k_is)
    (case lD => k_is)
    (case cD => k_is)
    (case kD => k_is)
    (case aCe => k_is)
    (case lCe => k_is)
    (case cCe => k_is)
    (case kCe => k_is)
    (case aN => k_is)
    (case lN => k_is)
    (case cN => k_is)
    (case kN => k_is)
    (case aJ => k_is)
    (case lJ => k_is)
    (case cJ => k_is)
    (case kJ => k_is)
    (case aP => k_is)
    (case lP => k_is)
    (case cP => k_is)
    (case kP => k_is)
    (case aRe => k_is)
    (case lRe => k_is)
    (case cRe => k_is)
    (case kRe => k_is)
    (case aUs => k_is)
    (case lUs => k_is)
    (case cUs => k_is)
    (case kUs => k_is)
    (case aRu => k_is)
    (case lRu => k_is)
    (case cRu => k_is)
    (case kRu => k_is)
    (case aL => k_is)
    (case lL => k_is)
    (case cL => k_is)
    (case kL => k_is)
    (case z_range => k_is)
    (case z_len => k_is)
    (case z_int => k_is)
    (case z_list => k_is)
    (case z_enum => k_is)
    (case z_zip => k_is)
    (case z_max => k_is)
    (case z_min => k_is)
    (case z_any => k_is)
    (case z_sorted => k_is)
    (case z_gcd => k_is)
