import PyProof.Rows.All
import Wide.All
import OpenK.AllK
import Wide.FinOn
import HandS.ForMost
import HandS.Wide
import HandS.Defaults
import HandS.MakeKwOnly
import HandS.Flow
import HandS.More
import HandS.Walk
import KE.LtData
import HandS.Codes
import HandS.IsInst
import HandS.SetFor
import PySem.Challenge.RW_metronet_k18_each_number_once
set_option Elab.async false
set_option linter.all false
set_option maxRecDepth 100000
set_option maxHeartbeats 4000000
/-! What any law wants, without the row: heaps, loops, order of data. -/
namespace My
open PySem PySem.Spec PyProof.Rows L2

theorem same_new {H : Hp} {p : Addr} {o : HO} (h : H p = none) : Same H (upd H p o) := fun b x e => by
  rw [upd_ne (ne_of_none e h)]
  exact e
/-- an object that H does not know may change -/
theorem same_mut {H H' : Hp} {p : Addr} {o : HO} (e : Same H H') (h : H p = none) : Same H (upd H' p o) := fun a u ha => by
  rw [upd_ne (ne_of_none ha h)]
  exact e a u ha
theorem ne_new {H H' : Hp} {a p : Addr} (n : H p = none) (h : H' p ≠ none) (e : H' a = none) : p ≠ a := fun q => h (q ▸ e)
/-- a list of ints by place -/
theorem ints_at {ns : List Int} {i : Nat} {y : V} (h : (ns.map V.int)[i]? = some y) : ∃ n, ns[i]? = some n ∧ y = .int n := by
  rw [List.getElem?_map] at h
  cases e : ns[i]? with
  | none => rw [e] at h; cases h
  | some n => rw [e] at h; exact ⟨n, rfl, (Option.some.inj h).symm⟩
theorem int_at {ns : List Int} {i : Nat} {n : Int} (h : ns[i]? = some n) : (ns.map V.int)[i]? = some (.int n) := by
  rw [List.getElem?_map, h]; rfl
theorem atI_int {ns : List Int} {i : Nat} (h : i < ns.length) : atI (ns.map V.int) (i : Int) = some (.int ns[i]) := atI_nat (int_at (List.getElem?_eq_getElem h))
theorem sz {n : Nat} (h : n ≤ 100000) : n ≤ sizeLine := Nat.le_trans h (by decide)
theorem szl {n : Nat} (h : n < 100000) : n < sizeLine := Nat.lt_of_lt_of_le h (by decide)

theorem getD_lt {α : Type} {xs : List α} {j : Nat} (d : α) (h : j < xs.length) : xs.getD j d = xs[j] := by
  rw [List.getD_eq_getElem?_getD, List.getElem?_eq_getElem h]; rfl
theorem getD_at {α : Type} {xs : List α} {j : Nat} (d : α) (h : j < xs.length) : xs[j]? = some (xs.getD j d) := by
  rw [getD_lt d h, List.getElem?_eq_getElem h]
theorem atI_ints {ns : List Int} {z : Int} {j : Nat} (e : z = (j : Int)) (h : j < ns.length) : atI (ns.map V.int) z = some (.int (ns.getD j 0)) := by
  rw [e]
  exact atI_nat (int_at (getD_at 0 h))
theorem getD_mem {ns : List Int} {j : Nat} (h : j < ns.length) : ns.getD j 0 ∈ ns := by
  rw [getD_lt 0 h]; exact List.getElem_mem h
/-! ### tests that change nothing -/
theorem or_read {t u : TT} {σ : L2.St} {H : Hp} {Q : Bool → Hp → Prop} {a b : Bool} (ht : ∀ Q : Bool → Hp → Prop, Q a H → t σ H Q) (hu : ∀ Q : Bool → Hp → Prop, Q b H → u σ H Q) (h : Q (a || b) H) : tOr t u σ H Q := by
  refine ht _ ?_
  cases a with
  | true => exact iteT h
  | false => exact iteF (hu _ h)
theorem and_read {t u : TT} {σ : L2.St} {H : Hp} {Q : Bool → Hp → Prop} {a b : Bool} (ht : ∀ Q : Bool → Hp → Prop, Q a H → t σ H Q) (hu : a = true → ∀ Q : Bool → Hp → Prop, Q b H → u σ H Q) (h : Q (a && b) H) : tAnd t u σ H Q := by
  refine ht _ ?_
  cases a with
  | true => exact iteT (hu rfl _ h)
  | false => exact iteF h
/-! ### < of data -/
section
variable {X : Cx}
def rLtD (K : PySem.W.Frag) : R2 := fun x y H Q => ∃ d e, Dp K H x d ∧ Dp K H y e ∧ PySem.W.alike d e = true ∧ d ≠ .none ∧ min d.depth e.depth ≤ 64 ∧ Q (.bl (PySem.W.dataLt d e)) H
theorem op_ltD (hu : X.A.units + 64 < cLine) : OpR X (compareOp .Lt) (rLtD X.K) := by
  intro pins s σ H x y v u Q I rx ry h
  obtain ⟨d, e, hd, he, al, nn, dp, q⟩ := h
  obtain ⟨as, r1⟩ := Dp.reads I d x v hd rx
  obtain ⟨bs, r2⟩ := Dp.reads I e y u he ry
  have z : wpAny (model X.prog X.w) X.A (compareOp .Lt v u) (EP X pins σ Q) X.xe s := PySem.W.rcLt_alike d e X.A s v u as bs r1 r2 al nn (by omega) X.prog X.w X.xe (EP X pins σ Q) ⟨.bl _, H, I, rfl, q⟩
  exact z
end
/-! ### rules that name the written part, for a comprehension's block -/
section
variable {X : Cx} {K : PySem.W.Frag}
theorem pe_fldK {e : Expr} {f : Str} {pos : Pos} {ta : TE} (he : PE X e ta) (hK : X.K = K := by rfl) (hb : attributeBase e f X.env (eval e X.env) = eval e X.env := by rfl) : PE X (.Attribute e f pos) (tFld K ta f) := by
  subst hK
  exact pe_fld he hb
theorem ix_listK (hK : X.K = K := by rfl) : IxR X (rIxL K) := by
  subst hK
  exact ix_list
theorem ix_tupK (hK : X.K = K := by rfl) : IxR X (rIxT K) := by
  subst hK
  exact ix_tup
def rLenK (K : PySem.W.Frag) : List V → Hp → VK → Prop := fun xs H Q => ∃ p ys, xs = [.ref p] ∧ (SqL K H p ys ∨ SqT K H p ys) ∧ Q (.int ys.length) H
theorem call_lenK (hK : X.K = K := by rfl) : CallR X (.builtin "len") (rLenK K) := by
  subst hK
  exact call_len_seq
theorem pg_tupK {es : List Expr} {k : Nat} {t : TGs} {n : Nat} {pos : Pos} (hc : X.calm = true) (h : PGs X es t) (hK : X.K = K := by rfl)
    (hn : (assignEach es X.env).length = n := by rfl) (hst : (assignEach es X.env).findIdx? (·.1) = none := by rfl) : PG X (.Tuple es k pos) (gTup K n t) := by
  subst hK
  exact pg_tup hc h hn hst
end
end My
namespace My
open PySem PySem.Spec PyProof.Rows L2
def top (i : Nat) : Stmt := PySem.Challenge.pw_metronet_k18_each_number_once.main.body.getD i (.Pass ⟨0, 0, 0, 0⟩)
abbrev sDraw : Stmt := top 4 /-_law_draw-/
abbrev sCell : Stmt := top 5 /-_law_cell-/
/-- the built-in names that the module leaves -/
structure Blt (mg : Str → Option Value) : Prop where
  range : mg "range" = none
  len : mg "len" = none
  int : mg "int" = none
  list : mg "list" = none
  enum : mg "enumerate" = none
section
variable {P : Program} {w : World} {K : PySem.W.Frag} {mg : Str → Option Value} {base : Heap}
/-! ### _law_draw -/
theorem scDraw : FnScope ["cell", "many", "bound", "numbers", "k", "seed", "mixed"] ["cell", "many", "bound"] (defScope sDraw) := ⟨rfl, rfl, rfl, by decide +kernel, rfl, by decide +kernel, by decide +kernel⟩
def spDraw : Sp := fun vs H Q _ => ∃ (c b : Int) (m : Nat), vs = [.int c, .int (m : Int), .int b] ∧ m ≤ 1000 ∧ 0 < b ∧ b < 2 ^ 64 ∧
  ∀ (H' : Hp) (p : Addr) (ns : List Int), Same H H' → H p = none → H' p = some (.lst (ns.map V.int)) → ns.length = m → (∀ x ∈ ns, 0 ≤ x ∧ x < b) → Q (.ref p) H'
theorem ok_draw {f : Addr} {fd : FuncData} {k : Nat} (F : Fun K "_law_draw" "_law_draw" sDraw f fd) (T : Blt mg) : FnOk P w K mg base CX0 (k + 1) f fd ["cell", "many", "bound"] spDraw := by
  refine F.ok scDraw (fun vs H Q E h => ?_) (fun cdv A outer s H vs Q E hr h => ?_)
  · obtain ⟨c, b, m, rfl, _⟩ := h
    rfl
  · obtain ⟨c, b, m, rfl, hm, hb0, hb1, q⟩ := h
    have nd := scDraw.nd
    refine ⟨_, pss_cons (ps_set (i := 3) nd rfl (.inl rfl) (pe_lst pa_nil))
      (pss_cons (ps_if (pt_cmpR op_ge (pv 0) (pe_op op_pow pe_int pe_int) (nomark _))
        (pss_cons (ps_for PassesOwn.never rfl (pi_range1 (by rfl) T.range (pa_cons (pv 1) pa_nil)) (pg_name (i := 4) nd rfl (.inl rfl))
          (pss_cons (ps_expr (pe_bm PySem.F.plainAttrs_list PySem.F.slot_list_append PySem.F.type_list_append mt_append (pv 3)
              (pa_cons (pe_op op_mod (pe_callTy call_int1 (by rfl) T.int (by decide +kernel) (pa_cons (pv 0) pa_nil)) (pv 2)) pa_nil)))
          (pss_one (ps_set (i := 0) nd rfl (.inl rfl) (pe_op op_fdivW (pv 0) (pv 2))))))
        (pss_one (ps_ret (pv 3)))) pss_nil)
      (pss_cons (ps_set (i := 5) nd rfl (.inl rfl) (pe_op op_mod (pe_callTy call_int1 (by rfl) T.int (by decide +kernel) (pa_cons (pv 0) pa_nil)) pe_int))
      (pss_cons (ps_for PassesOwn.never rfl (pi_range1 (by rfl) T.range (pa_cons (pv 1) pa_nil)) (pg_name (i := 4) nd rfl (.inl rfl))
          (pss_cons (ps_set (i := 5) nd rfl (.inl rfl) (pe_op op_mod (pe_callTy call_int1 (by rfl) T.int (by decide +kernel)
              (pa_cons (pe_op op_add (pe_op op_add (pe_op op_mul (pv 5) pe_int) pe_int) (pv 4)) pa_nil)) pe_int))
          (pss_cons (ps_set (i := 6) nd rfl (.inl rfl) (pe_op op_mod (pe_callTy call_int1 (by rfl) T.int (by decide +kernel)
              (pa_cons (pe_op op_add (pe_op op_mul (pv 5) pe_int) (pe_op op_mul pe_int (pv 4))) pa_nil)) pe_int))
          (pss_one (ps_expr (pe_bm PySem.F.plainAttrs_list PySem.F.slot_list_append PySem.F.type_list_append mt_append (pv 3)
              (pa_cons (pe_op op_mod (pe_callTy call_int1 (by rfl) T.int (by decide +kernel) (pa_cons (pe_op op_fdiv (pv 6) pe_int) pa_nil)) (pv 2)) pa_nil)))))))
      (pss_one (ps_ret (pv 3)))))), ?_⟩
    -- numbers = []
    refine ⟨Nat.zero_le _, fun p np => ?_⟩
    have s1 : Same H (upd H p (.lst [])) := same_new np
    -- cell >= 10 ** 18
    refine ⟨_, rfl, _, _, rfl, rfl, ⟨by decide, by decide, by decide⟩, _, _, rfl, rfl, _, rfl, ite2 (fun _ => ?_) (fun _ => ?_)⟩
    · refine ⟨_, rfl, (m : Int), rfl, by omega, by omega, for_range (n := m) (fun i σ H' => ∃ (c' : Int) (ns : List Int) (v4 v5 v6 : Option V), σ = [some (.int c'), some (.int m), some (.int b), some (.ref p), v4, v5, v6] ∧
        Same H H' ∧ H' p = some (.lst (ns.map V.int)) ∧ ns.length = i ∧ ∀ x ∈ ns, 0 ≤ x ∧ x < b) ⟨c, [], none, none, none, rfl, s1, upd_same, rfl, fun x hx => by cases hx⟩ ?_ ?_⟩
      · rintro i σ H' hi ⟨c', ns, v4, v5, v6, rfl, sm, hp, hl, hx⟩
        refine ⟨_, rfl, .inl ⟨rfl, _, SqL.of hp⟩, _, rfl, .inl ⟨_, rfl, _, rfl, _, _, rfl, rfl, hb0, ?_⟩⟩
        refine ⟨p, _, _, rfl, rfl, hp, by rw [List.length_map]; exact small1000 (by omega), ?_⟩
        refine ⟨_, rfl, _, rfl, _, _, rfl, rfl, wide_div (b := 64) hb0 (by omega) (by decide) (by decide), ?_⟩
        refine ⟨c' / b, ns ++ [c' % b], _, v5, v6, rfl, same_mut sm np, ?_, by rw [List.length_append, hl]; rfl, ?_⟩
        · rw [upd_same, List.map_append]; rfl
        · intro x hm
          rcases List.mem_append.mp hm with h1 | h1
          · exact hx x h1
          · rw [List.mem_singleton.mp h1]
            exact ⟨Int.emod_nonneg _ (by omega), Int.emod_lt_of_pos _ hb0⟩
      · rintro σ H' ⟨c', ns, v4, v5, v6, rfl, sm, hp, hl, hx⟩
        exact ⟨_, rfl, q H' p ns sm np hp hl hx⟩
    · refine ⟨_, rfl, .inl ⟨_, rfl, _, _, rfl, rfl, (by show (0 : Int) < 2147483647; decide), ?_⟩⟩
      refine ⟨_, rfl, (m : Int), rfl, by omega, by omega, for_range (n := m) (fun i σ H' => ∃ (c' sd : Int) (ns : List Int) (v4 v6 : Option V), σ = [some (.int c'), some (.int m), some (.int b), some (.ref p), v4, some (.int sd), v6] ∧
        0 ≤ sd ∧ sd < 2147483647 ∧ Same H H' ∧ H' p = some (.lst (ns.map V.int)) ∧ ns.length = i ∧ ∀ x ∈ ns, 0 ≤ x ∧ x < b)
        ⟨c, c % 2147483647, [], none, none, rfl, Int.emod_nonneg _ (by decide), Int.emod_lt_of_pos _ (by decide), s1, upd_same, rfl, fun x hx => by cases hx⟩ ?_ ?_⟩
      · rintro i σ H' hi ⟨c', sd, ns, v4, v6, rfl, d0, d1, sm, hp, hl, hx⟩
        refine ⟨_, rfl, _, _, rfl, rfl, .inl ⟨by omega, by omega⟩, _, _, rfl, rfl, _, rfl, _, _, rfl, rfl, .inl ⟨_, rfl, _, _, rfl, rfl, (by show (0 : Int) < 2147483647; decide), ?_⟩⟩
        have e0 : 0 ≤ (sd * 48271 + 12345 + (0 + (i : Int))) % 2147483647 := Int.emod_nonneg _ (by decide)
        have e1 : (sd * 48271 + 12345 + (0 + (i : Int))) % 2147483647 < 2147483647 := Int.emod_lt_of_pos _ (by decide)
        refine ⟨_, rfl, _, _, rfl, rfl, .inl ⟨by omega, by omega⟩, _, rfl, _, _, rfl, rfl, .inl ⟨by decide, by decide⟩, _, _, rfl, rfl, .inl ⟨_, rfl, _, _, rfl, rfl, (by show (0 : Int) < 2147483629; decide), ?_⟩⟩
        refine ⟨_, rfl, .inl ⟨rfl, _, SqL.of hp⟩, _, rfl, _, _, rfl, rfl, ⟨by decide, by decide⟩, .inl ⟨_, rfl, _, rfl, _, _, rfl, rfl, hb0, ?_⟩⟩
        refine ⟨p, _, _, rfl, rfl, hp, by rw [List.length_map]; exact small1000 (by omega), ?_⟩
        refine ⟨c', _, ns ++ [((sd * 48271 + 12345 + (0 + (i : Int))) % 2147483647 * 69621 + 977 * (0 + (i : Int))) % 2147483629 / 3 % b], _, _, rfl, e0, e1, same_mut sm np, ?_, by rw [List.length_append, hl]; rfl, ?_⟩
        · rw [upd_same, List.map_append]; rfl
        · intro x hm
          rcases List.mem_append.mp hm with h1 | h1
          · exact hx x h1
          · rw [List.mem_singleton.mp h1]
            exact ⟨Int.emod_nonneg _ (by omega), Int.emod_lt_of_pos _ hb0⟩
      · rintro σ H' ⟨c', sd, ns, v4, v6, rfl, d0, d1, sm, hp, hl, hx⟩
        exact ⟨_, rfl, q H' p ns sm np hp hl hx⟩
/-! ### _law_cell -/
theorem scCell : FnScope ["script", "k"] ["script", "k"] (defScope sCell) := ⟨rfl, rfl, rfl, by decide +kernel, rfl, by decide +kernel, by decide +kernel⟩
def spCell (K : PySem.W.Frag) : Sp := fun vs H Q _ => ∃ (a : Addr) (ns : List Int) (j : Nat), vs = [.ref a, .int (j : Int)] ∧ SqL K H a (ns.map V.int) ∧ Q (.int (ns.getD j 0)) H
theorem ok_cell {f : Addr} {fd : FuncData} {k : Nat} (F : Fun K "_law_cell" "_law_cell" sCell f fd) (T : Blt mg) : FnOk P w K mg base CX0 (k + 1) f fd ["script", "k"] (spCell K) := by
  refine F.ok scCell (fun vs H Q E h => ?_) (fun cdv A outer s H vs Q E hr h => ?_)
  · obtain ⟨a, ns, j, rfl, _⟩ := h
    rfl
  · obtain ⟨a, ns, j, rfl, hS, q⟩ := h
    refine ⟨_, pss_cons (ps_if (pt_cmpR op_lt (pv 1) (pe_callB call_len_seq (by rfl) T.len PySem.boot_len (pa_cons (pv 0) pa_nil)) (nomark _))
        (pss_one (ps_ret (pe_ix ix_list (pv 0) (pv 1) (fun _ _ => rfl)))) pss_nil) (pss_one (ps_ret pe_int)), ?_⟩
    refine ⟨_, rfl, _, rfl, a, _, rfl, .inl hS, _, _, rfl, rfl, _, rfl, ite2 (fun e => ?_) (fun e => ?_)⟩
    · have hj : j < ns.length := by
        have := of_decide_eq_true e
        rw [List.length_map] at this
        omega
      refine ⟨_, rfl, _, rfl, a, _, _, _, rfl, rfl, hS, atI_int hj, ?_⟩
      rw [List.getD_eq_getElem?_getD, List.getElem?_eq_getElem hj] at q
      exact q
    · have hj : ns.length ≤ j := by
        rcases Nat.lt_or_ge j ns.length with h | h
        · exact absurd (decide_eq_true (by rw [List.length_map]; omega)) e
        · exact h
      rw [List.getD_eq_getElem?_getD, List.getElem?_eq_none hj] at q
      exact q
/-- what a def's caller knows of it -/
structure Callee (P : Program) (w : World) (K : PySem.W.Frag) (mg : Str → Option Value) (base : Heap) (k : Nat) (x : Str) (ps : List Str) (sp : Sp) (f : Addr) (fd : FuncData) : Prop where
  ok : FnOk P w K mg base CX0 k f fd ps sp
  mg : mg x = some (.ref f)
  kp : PySem.W.keepIn K (.ref f) = true
  b : Binds K fd ps []
end
end My
/-! An eliminator as data, and what it has taken. -/
namespace My
open PySem PySem.Spec PyProof.Rows L2
structure El where
  sz : Nat
  top : Option Int
  tk : List (Option Int)
def oV : Option Int → V
  | none => .non
  | some n => .int n
def aheadC (n t : Int) : Int := (n - t + 32768) % 65536 - 32768
theorem ahead0 (n : Int) : aheadC n n = 0 := by
  unfold aheadC
  omega
def ixC (sz : Nat) (c : Int) : Nat := (c % (sz : Int)).toNat
theorem ixC_lt {sz : Nat} (h : 1 ≤ sz) (c : Int) : ixC sz c < sz := by
  unfold ixC
  have := Int.emod_lt_of_pos c (show (0 : Int) < (sz : Int) by omega)
  have := Int.emod_nonneg c (show (sz : Int) ≠ 0 by omega)
  omega
theorem ixC_int {sz : Nat} (h : 1 ≤ sz) (c : Int) : ((ixC sz c : Nat) : Int) = c % (sz : Int) := by
  unfold ixC
  have := Int.emod_nonneg c (show (sz : Int) ≠ 0 by omega)
  omega
def elHit (E : El) (n : Int) : Bool := decide (aheadC n (E.top.getD n) ≤ -(E.sz : Int)) || decide (E.tk.getD (ixC E.sz (E.top.getD n + aheadC n (E.top.getD n))) none = some (E.top.getD n + aheadC n (E.top.getD n)))
def elNew (E : El) (n : Int) : El := if elHit E n = true then ⟨E.sz, some (E.top.getD n), E.tk⟩ else ⟨E.sz, some (max (E.top.getD n) (E.top.getD n + aheadC n (E.top.getD n))), E.tk.set (ixC E.sz (E.top.getD n + aheadC n (E.top.getD n))) (some (E.top.getD n + aheadC n (E.top.getD n)))⟩
/-- an eliminator that has taken the numbers of L (counted on) -/
structure ElOk (E : El) (L : List Int) : Prop where
  s1 : 1 ≤ E.sz
  len : E.tk.length = E.sz
  emp : E.top = none → L = [] ∧ ∀ i, E.tk.getD i none = none
  top : ∀ t, E.top = some t → t ∈ L ∧ ∀ x ∈ L, x ≤ t
  hold : ∀ i x, E.tk.getD i none = some x → x ∈ L ∧ ixC E.sz x = i
  inn : ∀ t, E.top = some t → ∀ x ∈ L, t - (E.sz : Int) < x → E.tk.getD (ixC E.sz x) none = some x
theorem el0 {sz : Nat} (h : 1 ≤ sz) : ElOk ⟨sz, none, List.replicate sz none⟩ [] := by
  have e : ∀ i, (List.replicate sz (none : Option Int)).getD i none = none := fun i => by
    by_cases z : i < sz
    · rw [List.getD_eq_getElem?_getD, List.getElem?_replicate, if_pos z]
      rfl
    · rw [List.getD_eq_getElem?_getD, List.getElem?_replicate, if_neg z]
      rfl
  refine ⟨h, List.length_replicate, fun _ => ⟨rfl, e⟩, (fun t z => by cases z), fun i x z => ?_, (fun t z => by cases z)⟩
  have z : (List.replicate sz (none : Option Int)).getD i none = some x := z
  rw [e] at z
  cases z
theorem getD_set {l : List (Option Int)} {i j : Nat} {v : Option Int} (h : i < l.length) : (l.set i v).getD j none = if i = j then v else l.getD j none := by
  rw [List.getD_eq_getElem?_getD, List.getElem?_set]
  split
  · rename_i e
    subst e
    first | rfl | (rw [if_pos h]; rfl) | simp [h]
  · rw [← List.getD_eq_getElem?_getD]
theorem mod_close {a b s : Int} (h0 : 0 < s) (e : a % s = b % s) (h1 : a - b < s) (h2 : b - a < s) : a = b := by
  have h := Int.emod_emod_of_dvd a (Int.dvd_refl s)
  have d : (a - b) % s = 0 := by rw [Int.sub_emod, e, Int.sub_self, Int.zero_emod]
  by_cases c : 0 ≤ a - b
  · rw [Int.emod_eq_of_lt c h1] at d
    omega
  · have d2 : (b - a) % s = 0 := by rw [Int.sub_emod, e, Int.sub_self, Int.zero_emod]
    rw [Int.emod_eq_of_lt (by omega) h2] at d2
    omega
/-- what a number does: it is dropped exactly if it is too old or was taken -/
theorem el_step {E : El} {L : List Int} (h : ElOk E L) {n t : Int} (ht : E.top = some t) : elHit E n = (decide (aheadC n t ≤ -(E.sz : Int)) || decide (t + aheadC n t ∈ L)) ∧ ElOk (elNew E n) (if elHit E n = true then L else L ++ [t + aheadC n t]) := by
  have eg : E.top.getD n = t := by rw [ht]; rfl
  have hs := h.s1
  have hit : elHit E n = (decide (aheadC n t ≤ -(E.sz : Int)) || decide (t + aheadC n t ∈ L)) := by
    unfold elHit
    rw [eg]
    by_cases a : aheadC n t ≤ -(E.sz : Int)
    · rw [decide_eq_true a, Bool.true_or, Bool.true_or]
    · rw [decide_eq_false a, Bool.false_or, Bool.false_or, decide_eq_decide]
      constructor
      · intro z
        exact (h.hold _ _ z).1
      · intro z
        exact h.inn t ht _ z (by omega)
  refine ⟨hit, ?_⟩
  unfold elNew
  rw [eg]
  by_cases b : elHit E n = true
  · rw [if_pos b, if_pos b]
    exact ⟨hs, h.len, (fun z => by cases z), fun t' z => by cases z; exact h.top t ht, h.hold, fun t' z => by cases z; exact h.inn t ht⟩
  · rw [if_neg b, if_neg b]
    rw [hit, Bool.or_eq_true, decide_eq_true_eq, decide_eq_true_eq] at b
    have ba : ¬ aheadC n t ≤ -(E.sz : Int) := fun z => b (.inl z)
    have bb : ¬ t + aheadC n t ∈ L := fun z => b (.inr z)
    generalize hc : t + aheadC n t = c at *
    have hi := ixC_lt hs c
    obtain ⟨tm, tl⟩ := h.top t ht
    have gs : ∀ j, (E.tk.set (ixC E.sz c) (some c)).getD j none = if ixC E.sz c = j then some c else E.tk.getD j none := fun j => getD_set (by rw [h.len]; exact hi)
    refine ⟨hs, by show (E.tk.set _ _).length = _; rw [List.length_set]; exact h.len, (fun z => by cases z), fun t' z => ?_, fun i x z => ?_, fun t' z x hx hl => ?_⟩
    · cases z
      refine ⟨?_, fun x hx => ?_⟩
      · by_cases q : t ≤ c
        · rw [Int.max_eq_right q]
          exact List.mem_append_right _ List.mem_cons_self
        · rw [Int.max_eq_left (by omega)]
          exact List.mem_append_left _ tm
      · rcases List.mem_append.mp hx with hx | hx
        · have := tl x hx
          omega
        · cases List.mem_singleton.mp hx
          omega
    · have z : (E.tk.set (ixC E.sz c) (some c)).getD i none = some x := z
      rw [gs] at z
      split at z
      · rename_i e
        cases z
        exact ⟨List.mem_append_right _ List.mem_cons_self, e⟩
      · exact ⟨List.mem_append_left _ (h.hold i x z).1, (h.hold i x z).2⟩
    · have hl : t' - (E.sz : Int) < x := hl
      cases z
      show (E.tk.set (ixC E.sz c) (some c)).getD (ixC E.sz x) none = some x
      rw [gs]
      split
      · rename_i e
        rcases List.mem_append.mp hx with hx | hx
        · have e2 : c % (E.sz : Int) = x % (E.sz : Int) := by rw [← ixC_int hs, ← ixC_int hs, e]
          have := tl x hx
          rw [mod_close (by omega) e2 (by omega) (by omega)]
        · rw [List.mem_singleton.mp hx]
      · rename_i e
        rcases List.mem_append.mp hx with hx | hx
        · exact h.inn t ht x hx (by omega)
        · exact absurd (by rw [List.mem_singleton.mp hx]) e
theorem el_first {E : El} {L : List Int} (h : ElOk E L) {n : Int} (ht : E.top = none) : elHit E n = false ∧ ElOk (elNew E n) [n] ∧ (elNew E n).top = some n := by
  obtain ⟨rfl, hn⟩ := h.emp ht
  have hs := h.s1
  have eg : E.top.getD n = n := by rw [ht]; rfl
  have hit : elHit E n = false := by
    unfold elHit
    rw [eg, ahead0, hn, decide_eq_false (show ¬ (0 : Int) ≤ -(E.sz : Int) by omega), decide_eq_false (by intro z; cases z)]
    rfl
  have hi := ixC_lt hs n
  have gs : ∀ j, (E.tk.set (ixC E.sz n) (some n)).getD j none = if ixC E.sz n = j then some n else E.tk.getD j none := fun j => getD_set (by rw [h.len]; exact hi)
  have en : elNew E n = ⟨E.sz, some n, E.tk.set (ixC E.sz n) (some n)⟩ := by
    unfold elNew
    rw [if_neg (by rw [hit]; exact Bool.false_ne_true), eg, ahead0, Int.add_zero, Int.max_eq_left (Int.le_refl _)]
  rw [en]
  refine ⟨hit, ⟨hs, by show (E.tk.set _ _).length = _; rw [List.length_set]; exact h.len, (fun z => by cases z), fun t' z => ?_, fun i x z => ?_, fun t' z x hx hl => ?_⟩, rfl⟩
  · cases z
    exact ⟨List.mem_cons_self, fun x hx => by rw [List.mem_singleton.mp hx]; exact Int.le_refl _⟩
  · have z : (E.tk.set (ixC E.sz n) (some n)).getD i none = some x := z
    rw [gs] at z
    split at z
    · rename_i e
      cases z
      exact ⟨List.mem_cons_self, e⟩
    · rw [hn] at z
      cases z
  · show (E.tk.set (ixC E.sz n) (some n)).getD (ixC E.sz x) none = some x
    rw [gs, List.mem_singleton.mp hx, if_pos rfl]
theorem elNew_top {E : El} {n t : Int} (ht : E.top = some t) : (elNew E n).top = some (if elHit E n = true then t else max t (t + aheadC n t)) := by
  have eg : E.top.getD n = t := by rw [ht]; rfl
  unfold elNew
  rw [eg]
  split <;> rfl
theorem elNew_sz {E : El} {n : Int} : (elNew E n).sz = E.sz := by
  unfold elNew
  split <;> rfl
end My
namespace My
open PySem PySem.Spec PyProof.Rows L2
abbrev sElim : Stmt := top 2 /-Eliminator-/
abbrev sEInit : Stmt := inClass sElim 0 /-Eliminator.__init__-/
abbrev sTake : Stmt := inClass sElim 1 /-Eliminator.take-/
abbrev ButH (p : Addr) (H H' : Hp) : Prop := ∀ b o, H b = some o → b ≠ p → H' b = some o
theorem stepNewH {H : Hp} {p a : Addr} {o v u : HO} (hp : H p = some v) (na : H a = none) : ButH p H (upd (upd H a o) p u) ∧ (upd (upd H a o) p u) p = some u ∧ (upd (upd H a o) p u) a = some o ∧ a ≠ p := by
  have n : a ≠ p := fun z => by rw [z, hp] at na; cases na
  refine ⟨fun b w h nb => ?_, upd_same, ?_, n⟩
  · rw [upd_ne nb, upd_ne (ne_of_none h na)]
    exact h
  · rw [upd_ne n, upd_same]
theorem putF_new {f : Str} {v : V} : ∀ {fs : List (Str × V)}, fs.lookup f = none → putF f v fs = fs ++ [(f, v)]
  | [], _ => rfl
  | (g, x) :: r, h => by
    have e : (f == g) = false := by
      cases q : f == g with
      | false => rfl
      | true => rw [List.lookup_cons, q] at h; cases h
    rw [List.lookup_cons, e] at h
    have ne : ¬ g = f := fun z => by rw [z] at e; simp at e
    show (if g = f then (g, v) :: r else (g, x) :: putF f v r) = _
    rw [if_neg ne, putF_new h]
    rfl
theorem or_read2 {t u : TT} {σ : L2.St} {H : Hp} {Q : Bool → Hp → Prop} {a b : Bool} (ht : ∀ Q : Bool → Hp → Prop, (∀ H1, Same H H1 → Q a H1) → t σ H Q) (hu : ∀ H1, Same H H1 → ∀ Q : Bool → Hp → Prop, (∀ H2, Same H1 H2 → Q b H2) → u σ H1 Q) (h : ∀ H1, Same H H1 → Q (a || b) H1) : tOr t u σ H Q := by
  refine ht _ fun H1 s1 => ?_
  cases a with
  | true => exact h H1 s1
  | false => exact hu H1 s1 _ fun H2 s2 => h H2 (s1.trans s2)
theorem and_read2 {t u : TT} {σ : L2.St} {H : Hp} {Q : Bool → Hp → Prop} {a b : Bool} (ht : ∀ Q : Bool → Hp → Prop, (∀ H1, Same H H1 → Q a H1) → t σ H Q) (hu : a = true → ∀ H1, Same H H1 → ∀ Q : Bool → Hp → Prop, (∀ H2, Same H1 H2 → Q b H2) → u σ H1 Q) (h : ∀ H1, Same H H1 → Q (a && b) H1) : tAnd t u σ H Q := by
  refine ht _ fun H1 s1 => ?_
  cases a with
  | true => exact hu rfl H1 s1 _ fun H2 s2 => h H2 (s1.trans s2)
  | false => exact h H1 s1
def elF (sz : Nat) (top : V) (tk : Addr) : List (Str × V) := [(("size" : Str), .int (sz : Int)), ("top", top), ("taken", .ref tk)]
theorem ef1 {sz : Nat} : putF "size" (.int (sz : Int)) [] = [(("size" : Str), V.int (sz : Int))] := rfl
theorem ef2 {sz : Nat} {v : V} : putF "top" v [(("size" : Str), V.int (sz : Int))] = [(("size" : Str), V.int (sz : Int)), ("top", v)] := putF_new rfl
theorem ef3 {sz : Nat} {v : V} {tk : Addr} : putF "taken" (.ref tk) [(("size" : Str), V.int (sz : Int)), ("top", v)] = elF sz v tk := putF_new rfl
theorem ef4 {sz : Nat} {v u : V} {tk : Addr} : putF "top" u (elF sz v tk) = elF sz u tk := rfl
theorem ixN_at {n j : Nat} (hj : j < n) : ixN n (j : Int) = some j := by
  unfold ixN
  rw [if_pos (by omega), if_pos (by omega)]
  simp
theorem oV_eq (x : Option Int) (c : Int) : decide (oV x = V.int c) = decide (x = some c) := by
  rw [decide_eq_decide]
  cases x with
  | none => exact ⟨(fun z => by cases z), (fun z => by cases z)⟩
  | some y => exact ⟨(fun z => by cases z; rfl), (fun z => by cases z; rfl)⟩
theorem atO {l : List (Option Int)} {i : Nat} (h : i < l.length) : (l.map oV)[i]? = some (oV (l.getD i none)) := by
  rw [List.getElem?_map, List.getD_eq_getElem?_getD, List.getElem?_eq_getElem h]
  rfl
section
variable {sz : Nat} {v : V} {tk : Addr}
theorem eg1 : (elF sz v tk).lookup ("size" : Str) = some (.int (sz : Int)) := rfl
theorem eg2 : (elF sz v tk).lookup ("top" : Str) = some v := rfl
theorem eg3 : (elF sz v tk).lookup ("taken" : Str) = some (.ref tk) := rfl
theorem em1 : (elF sz v tk).lookup ("take" : Str) = none := rfl
end
structure ElC (K : PySem.W.Frag) (C : Addr) : Prop where
  cl : Cls K C
  n1 : NoAttr K C "size"
  n2 : NoAttr K C "top"
  n3 : NoAttr K C "taken"
/-- an eliminator stands at p, its list at tk -/
def ElAt (C : Addr) (H : Hp) (p tk : Addr) (E : El) : Prop := ∃ dx, H p = some (.ins C dx (elF E.sz (oV E.top) tk)) ∧ H tk = some (.lst (E.tk.map oV))
section
variable {P : Program} {w : World} {K : PySem.W.Frag} {mg : Str → Option Value} {base : Heap}
theorem scEInit : FnScope ["self", "size"] ["self", "size"] (defScope sEInit) := ⟨rfl, rfl, rfl, by decide +kernel, rfl, by decide +kernel, by decide +kernel⟩
def spEInit (C : Addr) : Sp := fun vs H Q _ => ∃ (p dx : Addr) (sz : Nat), vs = [.ref p, .int (sz : Int)] ∧ sz ≤ 1000 ∧ H p = some (.ins C dx []) ∧
  ∀ (H' : Hp) (tk : Addr), ButH p H H' → H tk = none → H' p = some (.ins C dx (elF sz .non tk)) → H' tk = some (.lst (List.replicate sz V.non)) → Q .non H'
theorem ok_einit {f C : Addr} {fd : FuncData} {k : Nat} (F : Fun K "__init__" "Eliminator.__init__" sEInit f fd) (c : ElC K C) : FnOk P w K mg base CX0 (k + 1) f fd ["self", "size"] (spEInit C) := by
  refine F.ok scEInit (fun vs H Q E h => ?_) (fun cdv A0 outer s0 H vs Q E hr h => ?_)
  · obtain ⟨p, dx, sz, rfl, _⟩ := h
    rfl
  · obtain ⟨p, dx, sz, rfl, hsz, hp, q⟩ := h
    have nd := scEInit.nd
    refine ⟨_, PSs.nox (pss_cons (ps_fld (pv 0) (pv 1) rfl) <| pss_cons (ps_fld (pv 0) pe_non rfl) <| pss_one (ps_fld (pv 0) (pe_op op_rep (pe_lst (pa_cons pe_non pa_nil)) (pv 1)) rfl)), ?_⟩
    refine ⟨_, rfl, _, rfl, p, C, dx, [], rfl, hp, c.cl, c.n1, (by show 0 < 1000; decide), ?_⟩
    refine ⟨_, rfl, p, C, dx, _, rfl, upd_same, c.cl, c.n2, (by rw [ef1]; show 1 < 1000; decide), ?_⟩
    rw [ef1, ef2]
    refine ⟨by show 1 ≤ sizeLine; decide, fun y ny => ?_⟩
    have p2 : (upd (upd H p (.ins C dx [(("size" : Str), V.int (sz : Int))])) p (.ins C dx [(("size" : Str), V.int (sz : Int)), ("top", V.non)])) p = some (.ins C dx [(("size" : Str), V.int (sz : Int)), ("top", V.non)]) := upd_same
    have b2 : ButH p H (upd (upd H p (.ins C dx [(("size" : Str), V.int (sz : Int))])) p (.ins C dx [(("size" : Str), V.int (sz : Int)), ("top", V.non)])) := fun b o z n => by rw [upd_ne n, upd_ne n]; exact z
    revert p2 b2 ny
    generalize (upd (upd H p (.ins C dx [(("size" : Str), V.int (sz : Int))])) p (.ins C dx [(("size" : Str), V.int (sz : Int)), ("top", V.non)])) = H2
    intro ny p2 b2
    have sy := same_new (o := .lst [V.non]) ny
    refine ⟨_, rfl, y, _, _, rfl, rfl, upd_same, by omega, by omega, (by show 1 * (sz : Int).toNat ≤ sizeLine; rw [Nat.one_mul, Int.toNat_natCast]; exact Nat.le_of_lt (small1000 hsz)), fun tk ntk => ?_⟩
    have e : (List.replicate (sz : Int).toNat [V.non]).flatten = List.replicate sz V.non := by
      rw [Int.toNat_natCast]
      clear q hsz p2 b2 sy ntk ny
      induction sz with
      | zero => rfl
      | succ n ih => exact congrArg (V.non :: ·) ih
    rw [e]
    obtain ⟨b3, p3, t3, n3⟩ := stepNewH (o := .lst (List.replicate sz V.non)) (u := .ins C dx (elF sz .non tk)) (sy _ _ p2) ntk
    refine ⟨_, rfl, p, C, dx, _, rfl, (by rw [upd_ne n3.symm]; exact sy _ _ p2), c.cl, c.n3, (by show 2 < 1000; decide), ?_⟩
    rw [ef3]
    refine q _ tk (fun b o z n => b3 b o (sy _ _ (b2 _ _ z n)) n) ?_ p3 t3
    cases z : H tk with
    | none => rfl
    | some o =>
      by_cases n : tk = p
      · exact absurd n n3
      · rw [sy _ _ (b2 _ _ z n)] at ntk
        cases ntk
theorem scTake : FnScope ["self", "number", "ahead", "counted", "place"] ["self", "number"] (defScope sTake) := ⟨rfl, rfl, rfl, by decide +kernel, rfl, by decide +kernel, by decide +kernel⟩
def spTake (C : Addr) : Sp := fun vs H Q _ => ∃ (p dx tk : Addr) (n : Int) (E : El), vs = [.ref p, .int n] ∧ H p = some (.ins C dx (elF E.sz (oV E.top) tk)) ∧ H tk = some (.lst (E.tk.map oV)) ∧ E.tk.length = E.sz ∧ 1 ≤ E.sz ∧
  ∀ (H' : Hp), (∀ b o, H b = some o → b ≠ p → b ≠ tk → H' b = some o) → H' p = some (.ins C dx (elF E.sz (oV (elNew E n).top) tk)) → H' tk = some (.lst ((elNew E n).tk.map oV)) → Q (.bl (!elHit E n)) H'
theorem ok_take {f C : Addr} {fd : FuncData} {k : Nat} {tN : Tok} (F : Fun K "take" "Eliminator.take" sTake f fd) (c : ElC K C) (hN : mg "NUMBERS" = some (.int 65536 tN)) (hmax : mg "max" = none) : FnOk P w K mg base CX0 (k + 1) f fd ["self", "number"] (spTake C) := by
  refine F.ok scTake (fun vs H Q E h => ?_) (fun cdv A0 outer s0 H vs Q E hr h => ?_)
  · obtain ⟨p, dx, tk, n, E, rfl, _⟩ := h
    rfl
  · obtain ⟨p, dx, tk, n, E, rfl, hp, ht, hl, h1, q⟩ := h
    have nd := scTake.nd
    refine ⟨_, C8.pss_cut (ps_if (pt_cmpR op_isN (pe_fld (pv 0) rfl) pe_non (nomark _)) (pss_one (ps_fld (pv 0) (pv 1) rfl)) (pss_nil)) <| pss_cons (ps_set (i := 2) nd rfl (.inl rfl) (pe_op op_sub (pe_op op_mod (pe_op op_add (pe_op op_sub (pv 1) (pe_fld (pv 0) rfl)) (pe_op op_fdiv (pe_glob (v := .int 65536) (by rfl) hN ⟨_, rfl⟩) pe_int)) (pe_glob (v := .int 65536) (by rfl) hN ⟨_, rfl⟩)) (pe_op op_fdiv (pe_glob (v := .int 65536) (by rfl) hN ⟨_, rfl⟩) pe_int))) <| pss_cons (ps_set (i := 3) nd rfl (.inl rfl) (pe_op op_add (pe_fld (pv 0) rfl) (pv 2))) <| pss_cons (ps_set (i := 4) nd rfl (.inl rfl) (pe_op op_mod (pv 3) (pe_fld (pv 0) rfl))) <| pss_cons (ps_if (PW.pt (pw_or (pt_cmpR op_le (pv 2) (pe_un un_neg (pe_fld (pv 0) rfl)) (nomark _)) (pw_or1 (pt_cmpR op_eq (pe_ix ix_list (pe_fld (pv 0) rfl) (pv 4) (fun _ _ => rfl)) (pv 3) (nomark _))))) (pss_one (ps_ret pe_bl)) (pss_nil)) <| pss_cons (ps_fld (pv 0) (pe_callB (call_max2 rfl) (by rfl) hmax (by decide +kernel) (pa_cons (pe_fld (pv 0) rfl) (pa_cons (pv 3) pa_nil))) rfl) <| pss_cons (ps_asg (pv 3) (pg_sub (pe_fld (pv 0) rfl) (pv 4) set_list)) <| pss_one (ps_ret pe_bl), ?_⟩
    refine ⟨fun σ H' => σ = [some (.ref p), some (.int n), none, none, none] ∧ ButH p H H' ∧ H' p = some (.ins C dx (elF E.sz (.int (E.top.getD n)) tk)), ?_, ?_⟩
    · cases et : E.top with
      | none =>
        rw [et] at hp
        refine ⟨_, rfl, p, C, dx, _, _, rfl, hp, c.cl, c.n2, eg2, rfl, _, rfl, ite2 (fun _ => ?_) (fun z => absurd (decide_eq_true rfl) z)⟩
        refine ⟨_, rfl, _, rfl, p, C, dx, _, rfl, hp, c.cl, c.n2, (by show 3 < 1000; decide), ?_⟩
        rw [ef4]
        exact ⟨rfl, fun b o z nb => by rw [upd_ne nb]; exact z, upd_same⟩
      | some t =>
        rw [et] at hp
        refine ⟨_, rfl, p, C, dx, _, _, rfl, hp, c.cl, c.n2, eg2, rfl, _, rfl, ite2 (fun z => absurd (of_decide_eq_true z) (by intro y; cases y)) (fun _ => ?_)⟩
        exact ⟨rfl, fun b o z nb => z, hp⟩
    · rintro σ H1 ⟨rfl, b1, p1⟩
      have ntp : tk ≠ p := fun z => by rw [z, hp] at ht; cases ht
      have ht1 := b1 _ _ ht ntp
      have m0 : (0 : Int) < 65536 := by decide
      refine ⟨_, rfl, _, rfl, p, C, dx, _, _, rfl, p1, c.cl, c.n2, eg2, _, _, rfl, rfl, _, _, rfl, rfl, ⟨by decide, by decide⟩, _, _, rfl, rfl, _, _, rfl, rfl, m0, _, _, rfl, rfl, ⟨by decide, by decide⟩, _, _, rfl, rfl, ?_⟩
      have ea : (n - E.top.getD n + 65536 / 2) % 65536 - 65536 / 2 = aheadC n (E.top.getD n) := by
        unfold aheadC
        omega
      dsimp only [gName, tSeq, tIfS]
      rw [ea]
      generalize hah : aheadC n (E.top.getD n) = ah
      generalize htt : E.top.getD n = t at *
      refine ⟨_, rfl, p, C, dx, _, _, rfl, p1, c.cl, c.n2, eg2, _, rfl, _, _, rfl, rfl, ?_⟩
      refine ⟨_, rfl, _, rfl, p, C, dx, _, _, rfl, p1, c.cl, c.n1, eg1, _, _, rfl, rfl, (by show (0 : Int) < (E.sz : Int); omega), ?_⟩
      have hi := ixC_lt h1 (t + ah)
      dsimp only [gName, tSeq, tIfS]
      rw [← ixC_int h1]
      refine or_read2 (a := decide (ah ≤ -(E.sz : Int))) (b := decide (E.tk.getD (ixC E.sz (t + ah)) none = some (t + ah))) (fun Q h => ?_) (fun H6 s7 Q h => ?_) (fun H6 s7 => ?_)
      · refine ⟨_, rfl, _, rfl, p, C, dx, _, _, rfl, p1, c.cl, c.n1, eg1, _, rfl, _, _, rfl, rfl, _, rfl, h _ (Same.refl _)⟩
      · refine ⟨_, rfl, p, C, dx, _, _, rfl, s7 _ _ p1, c.cl, c.n3, eg3, _, rfl, tk, _, _, oV (E.tk.getD (ixC E.sz (t + ah)) none), rfl, rfl, SqL.of (s7 _ _ ht1), ?_, _, rfl, ?_, _, rfl, ?_⟩
        · exact atI_nat (atO (by rw [hl]; exact hi))
        · cases E.tk.getD (ixC E.sz (t + ah)) none <;> rfl
        · rw [oV_eq]
          exact h _ (Same.refl _)
      · have p6 := s7 _ _ p1
        have t6 := s7 _ _ ht1
        have ent : elHit E n = (decide (ah ≤ -(E.sz : Int)) || decide (E.tk.getD (ixC E.sz (t + ah)) none = some (t + ah))) := by
          unfold elHit
          rw [htt, hah]
        rw [← ent]
        cases hh : elHit E n with
        | true =>
          refine iteT ?_
          have en : elNew E n = ⟨E.sz, some t, E.tk⟩ := by
            unfold elNew
            rw [if_pos hh, htt]
          rw [hh, en] at q
          exact q H6 (fun b o z n1 n2 => s7 _ _ (b1 _ _ z n1)) p6 t6
        | false =>
          have en : elNew E n = ⟨E.sz, some (max t (t + ah)), E.tk.set (ixC E.sz (t + ah)) (some (t + ah))⟩ := by
            unfold elNew
            rw [if_neg (by rw [hh]; exact Bool.false_ne_true), htt, hah]
          rw [hh, en] at q
          refine iteF ?_
          dsimp only [tNext, tSeq]
          refine ⟨_, rfl, p, C, dx, _, _, rfl, p6, c.cl, c.n2, eg2, _, rfl, _, _, rfl, ?_⟩
          rw [show (if t + ah > t then t + ah else t) = max t (t + ah) by rw [Int.max_def]; split <;> split <;> omega]
          refine ⟨_, rfl, p, C, dx, _, rfl, p6, c.cl, c.n2, (by show 3 < 1000; decide), ?_⟩
          rw [ef4]
          refine ⟨_, rfl, _, rfl, p, C, dx, _, _, rfl, upd_same, c.cl, c.n3, eg3, _, rfl, tk, _, _, _, rfl, rfl, (by rw [upd_ne ntp]; exact t6), ixN_at (by rw [List.length_map, hl]; exact hi), ?_⟩
          refine q _ (fun b o z n1 n2 => by rw [upd_ne n2, upd_ne n1]; exact s7 _ _ (b1 _ _ z n1)) (by rw [upd_ne ntp.symm]; exact upd_same) ?_
          rw [upd_same, List.map_set]
          rfl
end
end My
namespace My
open PySem PySem.Spec PyProof.Rows L2
abbrev sOnce : Stmt := top 6 /-_law_once-/
/-- the eliminator E, that has taken L, beside the numbers tk that were told -/
def Onc (first : Int) (E : El) (L : List Int) (top : Int) (tk : List Int) : Prop := ElOk E L ∧ ((E.top = none ∧ tk = [] ∧ top = -1) ∨ ∃ off : Int, E.top = some (top + off) ∧ (∀ x, x ∈ L ↔ x - off ∈ tk) ∧ (first - off) % 65536 = 0 ∧ 0 ≤ top ∧ top < 60)
theorem once_step {first : Int} {E : El} {L : List Int} {top : Int} {tk : List Int} {n : Int} (h : Onc first E L top tk) (n0 : 0 ≤ n) (n1 : n < 60) (hn : ¬ n < top - (E.sz : Int) + 1) : elHit E ((first + n) % 65536) = decide (n ∈ tk) ∧ ∃ L2, Onc first (elNew E ((first + n) % 65536)) L2 (max top n) (tk ++ [n]) := by
  obtain ⟨eo, ⟨et, rfl, rfl⟩ | ⟨off, et, hL, hf, t0, t1⟩⟩ := h
  · obtain ⟨a, b, c⟩ := el_first eo (n := (first + n) % 65536) et
    refine ⟨by rw [a]; exact (decide_eq_false (List.not_mem_nil)).symm, _, b, .inr ⟨(first + n) % 65536 - n, ?_, fun x => ?_, ?_, by omega, by omega⟩⟩
    · rw [c]
      congr 1
      omega
    · rw [List.nil_append, List.mem_singleton, List.mem_singleton]
      omega
    · omega
  · obtain ⟨a, b⟩ := el_step eo (n := (first + n) % 65536) et
    have ea : aheadC ((first + n) % 65536) (top + off) = n - top := by
      unfold aheadC
      omega
    have ec : top + off + (n - top) = n + off := by omega
    rw [ea, ec] at a b
    have hit : elHit E ((first + n) % 65536) = decide (n ∈ tk) := by
      rw [a, decide_eq_false (by omega), Bool.false_or, decide_eq_decide, hL]
      rw [show n + off - off = n by omega]
    have tp := elNew_top (E := E) (n := (first + n) % 65536) et
    rw [ea, ec] at tp
    refine ⟨hit, _, b, .inr ⟨off, ?_, fun x => ?_, hf, by omega, by omega⟩⟩
    · rw [tp]
      congr 1
      split
      · rename_i z
        rw [hit, decide_eq_true_eq] at z
        have := (eo.top _ et).2 (n + off) ((hL _).mpr (by rw [show n + off - off = n by omega]; exact z))
        omega
      · omega
    · rw [List.mem_append, List.mem_singleton]
      split
      · rename_i z
        rw [hit, decide_eq_true_eq] at z
        rw [hL]
        refine ⟨.inl, fun y => y.elim id fun y => by rw [y]; exact z⟩
      · rw [List.mem_append, List.mem_singleton, hL]
        refine or_congr Iff.rfl ?_
        omega
theorem in_ints (L : List Int) (c : Int) : inV (.int c) (L.map V.int) = decide (c ∈ L) := by
  unfold inV
  rw [List.any_map]
  induction L with
  | nil => rfl
  | cons a r ih =>
    rw [List.any_cons, ih]
    by_cases e : c = a
    · subst e
      have : ((fun y => eqV y (V.int c)) ∘ V.int) c = true := by show decide (_ = _) = true; exact decide_eq_true rfl
      rw [this, Bool.true_or, decide_eq_true List.mem_cons_self]
    · have : ((fun y => eqV y (V.int c)) ∘ V.int) a = false := by
        show decide (_ = _) = false
        refine decide_eq_false fun z => e ?_
        have z : a = c := z
        omega
      rw [this, Bool.false_or, decide_eq_decide, List.mem_cons]
      exact ⟨.inr, fun h => h.elim (fun z => absurd z e) id⟩
theorem flat_int (L : List Int) : (L.map V.int).all flatV = true := by
  rw [List.all_map]
  exact List.all_eq_true.mpr fun _ _ => rfl
end My
namespace My
open PySem PySem.Spec PyProof.Rows L2
theorem mk_el {C p dx tk : Addr} {H H' : Hp} (np : H p = none) (nd : H dx = none) (ne : dx ≠ p) (b : ButH p (upd (upd H dx (.own p)) p (.ins C dx [])) H') (nt : (upd (upd H dx (.own p)) p (.ins C dx [])) tk = none) : Same H H' ∧ H tk = none := by
  refine ⟨fun x o z => ?_, ?_⟩
  · have h1 := ne_of_none z np
    have h2 := ne_of_none z nd
    exact b x o (by rw [upd_ne h1, upd_ne h2]; exact z) h1
  · cases z : H tk with
    | none => rfl
    | some o =>
      rw [upd_ne (ne_of_none z np), upd_ne (ne_of_none z nd), z] at nt
      cases nt
/-- how an eliminator is made -/
structure ElMk (P : Program) (w : World) (K : PySem.W.Frag) (mg : Str → Option Value) (base : Heap) (C f : Addr) (fd : FuncData) : Prop where
  ok : FnOk P w K mg base CX0 1 f fd ["self", "size"] (spEInit C)
  mg : mg "Eliminator" = some (.ref C)
  mkC : Mk K C f
  b : Binds K fd ["self", "size"] []
  kp : PySem.W.keepIn K (.ref C) = true
/-- what a method's caller knows of it -/
structure MethE (P : Program) (w : World) (K : PySem.W.Frag) (mg : Str → Option Value) (base : Heap) (k : Nat) (ps : List Str) (sp : Sp) (f : Addr) (fd : FuncData) : Prop where
  ok : FnOk P w K mg base CX0 k f fd ps sp
  b : Binds K fd ps []
section
variable {P : Program} {w : World} {K : PySem.W.Frag} {mg : Str → Option Value} {base : Heap}
theorem scOnce : FnScope ["size", "first", "order", "gate", "top", "taken", "number", "told"] ["size", "first", "order"] (defScope sOnce) := ⟨rfl, rfl, rfl, by decide +kernel, rfl, by decide +kernel, by decide +kernel⟩
def spOnce (K : PySem.W.Frag) : Sp := fun vs H Q _ => ∃ (sz : Nat) (first : Int) (o : Addr) (ns : List Int), vs = [.int (sz : Int), .int first, .ref o] ∧ 1 ≤ sz ∧ sz ≤ 1000 ∧ H o = some (.lst (ns.map V.int)) ∧ ns.length ≤ 900 ∧ (∀ n ∈ ns, 0 ≤ n ∧ n < 60) ∧ ∀ H', Q (.bl true) H'
theorem ok_once {f C fI fT : Addr} {fd fdI fdT : FuncData} {k : Nat} (F : Fun K "_law_once" "_law_once" sOnce f fd) (hmax : mg "max" = none) (hint : mg "int" = none) (c : ElC K C)
    (GE : ElMk P w K mg base C fI fdI) (mT : Meth K C "take" fT) (GT : MethE P w K mg base 1 ["self", "number"] (spTake C) fT fdT) : FnOk P w K mg base CX0 (k + 3) f fd ["size", "first", "order"] (spOnce K) := by
  refine F.ok scOnce (fun vs H Q E h => ?_) (fun cdv A0 outer s0 H vs Q E hr h => ?_)
  · obtain ⟨sz, first, o, ns, rfl, _⟩ := h
    rfl
  · obtain ⟨sz, first, o, ns, rfl, z1, z2, ho, lo, hb, q⟩ := h
    have nd := scOnce.nd
    have hr1 : Room 1 _ := hr.mono (by omega)
    have hr2 : Room 2 _ := hr.mono (by omega)
    refine ⟨_, pss_cons (ps_set (i := 3) nd rfl (.inl rfl) (pe_make GE.mkC GE.ok hr2 (by rfl) GE.mg GE.b .nil pass0 (pa_cons (pv 0) pa_nil))) <| pss_cons (ps_set (i := 4) nd rfl (.inl rfl) (pe_un un_neg pe_int)) <| pss_cons (ps_set (i := 5) nd rfl (.inl rfl) (pe_lst pa_nil)) <| pss_cons (ps_for PassesOwn.never rfl (pi_list (pv 2)) (pg_name (i := 6) nd rfl (.inl rfl)) (pss_cons (ps_if (pt_cmpR op_lt (pv 6) (pe_op op_add (pe_op op_sub (pv 4) (pv 0)) pe_int) (nomark _)) (pss_one (ps_ret pe_bl)) (pss_nil)) <| pss_cons (ps_set (i := 4) nd rfl (.inl rfl) (pe_callB (call_max2 rfl) (by rfl) hmax (by decide +kernel) (pa_cons (pv 4) (pa_cons (pv 6) pa_nil)))) <| pss_cons (ps_set (i := 7) nd rfl (.inl rfl) (pe_meth (pv 3) c.cl mT GT.ok hr1 GT.b .nil pass0 (pa_cons (pe_op op_mod (pe_callTy call_int1 (by rfl) hint (by decide +kernel) (pa_cons (pe_op op_add (pv 1) (pv 6)) pa_nil)) pe_int) pa_nil))) <| pss_cons (ps_if (pt_cmpR op_ne (pv 7) (pe_cmpR op_notIn_seq (pv 6) (pv 5) rfl) (nomark _)) (pss_one (ps_ret pe_bl)) (pss_nil)) <| pss_one (ps_expr (pe_bm PySem.F.plainAttrs_list PySem.F.slot_list_append PySem.F.type_list_append mt_append (pv 5) (pa_cons (pv 6) pa_nil))))) <| pss_one (ps_ret pe_bl), ?_⟩
    refine ⟨_, rfl, fun p dx np ndx ne => ?_⟩
    refine ⟨p, dx, sz, rfl, z2, upd_same, fun H1 k b nk hp hk => ⟨rfl, ?_⟩⟩
    obtain ⟨s1, nk⟩ := mk_el np ndx ne b nk
    refine ⟨_, rfl, ?_⟩
    refine ⟨Nat.zero_le _, fun t nt => ?_⟩
    have st := same_new (o := .lst []) nt
    have ht := upd_same (H := H1) (a := t) (o := .lst [])
    have hp2 := st _ _ hp
    have hk2 := st _ _ hk
    have ho2 := st _ _ (s1 _ _ ho)
    have nkt : k ≠ t := ne_of_none hk nt
    have not_ : o ≠ t := ne_of_none (s1 _ _ ho) nt
    have nok : o ≠ k := ne_of_none ho nk
    revert hp2 hk2 ho2 ht
    generalize upd H1 t (.lst []) = H2
    intro ht hp2 hk2 ho2
    have rp : (List.replicate sz (none : Option Int)).map oV = List.replicate sz V.non := List.map_replicate
    refine ⟨_, rfl, o, rfl, ⟨_, SqL.of ho2⟩, for_list (K := K) (a := o) (xs := ns.map V.int) (fun i σ H' => ∃ (top : Int) (v6 v7 : Option V) (E : El) (L tk : List Int), σ = [some (.int (sz : Int)), some (.int first), some (.ref o), some (.ref p), some (.int top), some (.ref t), v6, v7] ∧ H' p = some (.ins C dx (elF E.sz (oV E.top) k)) ∧ H' k = some (.lst (E.tk.map oV)) ∧ H' t = some (.lst (tk.map V.int)) ∧ H' o = some (.lst (ns.map V.int)) ∧ E.sz = sz ∧ Onc first E L top tk ∧ tk.length ≤ i) ⟨-1, none, none, ⟨sz, none, List.replicate sz none⟩, [], [], rfl, hp2, by rw [hk2, rp], ht, ho2, rfl, ⟨el0 z1, .inl ⟨rfl, rfl, rfl⟩⟩, Nat.le_refl _⟩ (fun i σ H' _ ⟨_, _, _, _, _, _, _, _, _, _, h, _⟩ => SqL.of h) ?_ ?_⟩
    · rintro i x σ H3 hi ⟨top, v6, v7, E, L, tk, rfl, hp, hk, ht, ho, es, on, lt⟩
      obtain ⟨n, en, rfl⟩ := ints_at hi
      have il : i < ns.length := (List.getElem?_eq_some_iff.mp en).1
      obtain ⟨n0, n1⟩ := hb n (List.mem_of_getElem? en)
      refine ⟨_, rfl, _, rfl, _, rfl, _, _, rfl, rfl, _, _, rfl, rfl, _, _, rfl, rfl, _, rfl, ite2 (fun _ => q _) (fun hn => ?_)⟩
      have hn : ¬ n < top - (sz : Int) + 1 := fun z => hn (decide_eq_true z)
      obtain ⟨hit, L2, on2⟩ := once_step on n0 n1 (by rw [es]; exact hn)
      refine ⟨_, rfl, _, rfl, _, _, rfl, ?_⟩
      rw [show (if n > top then n else top) = max top n by rw [Int.max_def]; split <;> split <;> omega]
      refine ⟨_, rfl, p, dx, _, rfl, hp, em1, _, rfl, _, rfl, _, _, rfl, rfl, .inl ⟨_, rfl, _, _, rfl, rfl, (by show (0 : Int) < 65536; decide), p, dx, k, _, E, rfl, hp, hk, on.1.len, on.1.s1, fun H4 fr q1 q2 => ?_⟩⟩
      have ntp : t ≠ p := ne_of ht hp (by intro y; cases y)
      have nop : o ≠ p := ne_of ho hp (by intro y; cases y)
      have ht4 := fr _ _ ht ntp nkt.symm
      have ho4 := fr _ _ ho nop nok
      refine ⟨_, rfl, _, rfl, _, rfl, t, _, rfl, .inl (SqL.of ht4), rfl, flat_int tk, ?_⟩
      rw [in_ints, hit]
      refine ⟨rfl, _, rfl, ite2 (fun z => ?_) (fun _ => ?_)⟩
      · exact absurd z (by simp)
      refine ⟨_, rfl, .inl ⟨rfl, _, SqL.of ht4⟩, _, rfl, t, _, _, rfl, rfl, ht4, szl (by rw [List.length_map]; omega), ?_⟩
      refine ⟨_, _, _, elNew E ((first + n) % 65536), L2, tk ++ [n], rfl, ?_, ?_, ?_, ?_, by rw [elNew_sz]; exact es, on2, by rw [List.length_append]; show tk.length + 1 ≤ i + 1; omega⟩
      · rw [upd_ne ntp.symm, elNew_sz]
        exact q1
      · rw [upd_ne nkt]
        exact q2
      · rw [upd_same, List.map_append]
        rfl
      · rw [upd_ne not_]
        exact ho4
    · rintro σ H' ⟨top, v6, v7, E, L, tk, rfl, _⟩
      exact q _
end
end My
namespace My
open PySem PySem.Spec PyProof.Rows L2
abbrev sLaw : Stmt := top 7 /-law-/
/-- the three lists of the law, and the one that is walked -/
structure Li (H : Hp) (w o t y : Addr) (W O T cs : List Int) : Prop where
  hw : H w = some (.lst (W.map V.int))
  ho : H o = some (.lst (O.map V.int))
  ht : H t = some (.lst (T.map V.int))
  hy : H y = some (.lst (cs.map V.int))
  nwo : w ≠ o
  nwt : w ≠ t
  nwy : w ≠ y
  not_ : o ≠ t
  noy : o ≠ y
  nty : t ≠ y
section
variable {H H' : Hp} {w o t y : Addr} {W O T cs : List Int}
theorem Li.same (h : Li H w o t y W O T cs) (s : Same H H') : Li H' w o t y W O T cs := ⟨s _ _ h.hw, s _ _ h.ho, s _ _ h.ht, s _ _ h.hy, h.nwo, h.nwt, h.nwy, h.not_, h.noy, h.nty⟩
theorem Li.setW (h : Li H w o t y W O T cs) (W2 : List Int) : Li (upd H w (.lst (W2.map V.int))) w o t y W2 O T cs := ⟨upd_same, by rw [upd_ne h.nwo.symm]; exact h.ho, by rw [upd_ne h.nwt.symm]; exact h.ht, by rw [upd_ne h.nwy.symm]; exact h.hy, h.nwo, h.nwt, h.nwy, h.not_, h.noy, h.nty⟩
theorem Li.setO (h : Li H w o t y W O T cs) (O2 : List Int) : Li (upd H o (.lst (O2.map V.int))) w o t y W O2 T cs := ⟨by rw [upd_ne h.nwo]; exact h.hw, upd_same, by rw [upd_ne h.not_.symm]; exact h.ht, by rw [upd_ne h.noy.symm]; exact h.hy, h.nwo, h.nwt, h.nwy, h.not_, h.noy, h.nty⟩
theorem Li.setT (h : Li H w o t y W O T cs) (T2 : List Int) : Li (upd H t (.lst (T2.map V.int))) w o t y W O T2 cs := ⟨by rw [upd_ne h.nwt]; exact h.hw, by rw [upd_ne h.not_]; exact h.ho, upd_same, by rw [upd_ne h.nty.symm]; exact h.hy, h.nwo, h.nwt, h.nwy, h.not_, h.noy, h.nty⟩
theorem snocV {L : List Int} {x : Int} : L.map V.int ++ [V.int x] = (L ++ [x]).map V.int := by rw [List.map_append]; rfl
end
theorem filt_sn {W : List Int} {j : Nat} {n : Int} {p : Int → Bool} (h : W[j]? = some n) : (W.take (j + 1)).filter p = (W.take j).filter p ++ (if p n = true then [n] else []) := by
  rw [List.take_add_one, h, List.filter_append]
  show _ ++ List.filter p [n] = _
  rw [List.filter_cons]
  rfl
theorem filt_le {W : List Int} {j : Nat} {p : Int → Bool} : ((W.take j).filter p).length ≤ W.length := by
  have h1 := List.length_filter_le p (W.take j)
  have h2 := List.length_take_le j W
  have h3 : (W.take j).length ≤ W.length := by rw [List.length_take]; exact Nat.min_le_right _ _
  omega
theorem rep1 {m : Nat} {x : Int} : (List.replicate (m : Int).toNat [V.int x]).flatten = (List.replicate m x).map V.int := by
  rw [Int.toNat_natCast]
  induction m with
  | zero => rfl
  | succ m ih =>
    rw [List.replicate_succ, List.replicate_succ, List.flatten_cons, ih]
    rfl
theorem first_ix {n : Int} : ∀ {W : List Int}, n ∈ W → ∃ j : Nat, W[j]? = some n ∧ ∀ m : Nat, m < j → W[m]? ≠ some n
  | a :: W, h => by
    by_cases e : a = n
    · exact ⟨0, by rw [e]; rfl, fun m hm => absurd hm (Nat.not_lt_zero m)⟩
    · obtain ⟨j, h1, h2⟩ := first_ix ((List.mem_cons.mp h).resolve_left (Ne.symm e))
      refine ⟨j + 1, h1, fun m hm => ?_⟩
      cases m with
      | zero => exact fun z => e (Option.some.inj z)
      | succ m => exact h2 m (by omega)
/-- what holds of the numbers -/
structure Bd (W O T : List Int) (top last : Int) (i : Nat) : Prop where
  w : ∀ x ∈ W, 0 ≤ x ∧ x < 60
  o : ∀ x ∈ O, 0 ≤ x ∧ x < 60
  t0 : -1 ≤ top
  t1 : top < 60
  lw : W.length ≤ i
  lo : O.length ≤ 2 * i
  lt : T.length ≤ i
theorem cut_mid {ns : List Int} {i j : Nat} (h : i ≤ j) : ∃ cs : List Int, cutV (ns.map V.int) (some (i : Int)) (some (j : Int)) = cs.map V.int ∧ cs.length ≤ j - i := by
  refine ⟨(ns.drop (HT.sIx (ns.map V.int).length 0 (some (i : Int)))).take (HT.sIx (ns.map V.int).length (ns.map V.int).length (some (j : Int)) - HT.sIx (ns.map V.int).length 0 (some (i : Int))), ?_, ?_⟩
  · unfold cutV
    rw [List.map_take, List.map_drop]
  · rw [HT.sIx_nat, HT.sIx_nat, List.length_take]
    omega
section
variable {P : Program} {w : World} {K : PySem.W.Frag} {mg : Str → Option Value} {base : Heap}
theorem scLaw : FnScope ["script", "sizes", "size", "first", "waiting", "order", "late", "top", "last", "cell", "numbers", "number", "choices", "forced"] ["script"] (defScope sLaw) := ⟨rfl, rfl, rfl, by decide +kernel, rfl, by decide +kernel, by decide +kernel⟩
def spLaw (K : PySem.W.Frag) : Sp := fun vs H Q _ => ∃ (a : Addr) (ns : List Int), vs = [.ref a] ∧ SqL K H a (ns.map V.int) ∧ ns.length ≤ 63 ∧ ∀ H', Q (.bl true) H'
theorem ok_law {f fD fCe fOn : Addr} {fd fdD fdCe fdOn : FuncData} {k : Nat} (F : Fun K "law" "law" sLaw f fd) (T : Blt mg)
    (GD : Callee P w K mg base 1 "_law_draw" ["cell", "many", "bound"] spDraw fD fdD) (GC : Callee P w K mg base 1 "_law_cell" ["script", "k"] (spCell K) fCe fdCe) (GO : Callee P w K mg base 3 "_law_once" ["size", "first", "order"] (spOnce K) fOn fdOn) : FnOk P w K mg base CX0 (k + 4) f fd ["script"] (spLaw K) := by
  refine F.ok scLaw (fun vs H Q E h => ?_) (fun cdv A0 outer s0 H vs Q E hr h => ?_)
  · obtain ⟨a, ns, rfl, _⟩ := h
    rfl
  · obtain ⟨a, ns, rfl, hS, hlen, q⟩ := h
    have nd := scLaw.nd
    have hr1 : Room 1 _ := hr.mono (by omega)
    have hr3 : Room 3 _ := hr.mono (by omega)
    refine ⟨_, pss_cons (ps_set (i := 1) nd rfl (.inl rfl) (pe_call GD.ok hr1 (by rfl) GD.mg GD.kp GD.b .nil pass0 (pa_cons (pe_call GC.ok hr1 (by rfl) GC.mg GC.kp GC.b .nil pass0 (pa_cons (pv 0) (pa_cons pe_int pa_nil))) (pa_cons pe_int (pa_cons (pe_op op_shl pe_int pe_int) pa_nil))))) <| pss_cons (ps_set (i := 2) nd rfl (.inr rfl) (pe_op op_add pe_int (pe_op op_mod (pe_ix ix_list (pv 1) pe_int (fun _ _ => rfl)) pe_int))) <| pss_cons (ps_set (i := 3) nd rfl (.inl rfl) (pe_op op_mod (pe_ix ix_list (pv 1) pe_int (fun _ _ => rfl)) pe_int)) <| C8.pss_cut (ps_if (pt_cmpR op_eq (pe_op op_mod (pe_op op_fdiv (pe_ix ix_list (pv 1) pe_int (fun _ _ => rfl)) pe_int) pe_int) pe_int (nomark _)) (pss_one (ps_set (i := 3) nd rfl (.inl rfl) (pe_op op_add pe_int (pe_op op_mod (pe_ix ix_list (pv 1) pe_int (fun _ _ => rfl)) pe_int)))) (pss_nil)) <| pss_cons (ps_set (i := 4) nd rfl (.inl rfl) (pe_lst pa_nil)) <| pss_cons (ps_set (i := 5) nd rfl (.inl rfl) (pe_lst pa_nil)) <| pss_cons (ps_set (i := 6) nd rfl (.inl rfl) (pe_lst pa_nil)) <| pss_cons (ps_set (i := 7) nd rfl (.inr rfl) (pe_un un_neg pe_int)) <| pss_cons (ps_set (i := 8) nd rfl (.inl rfl) (pe_op op_mod (pe_ix ix_list (pv 1) pe_int (fun _ _ => rfl)) pe_int)) <| pss_cons (ps_for PassesOwn.never rfl (pi_list (pe_op op_cat (pe_slice sl_list (pv 0) (po_some pe_int) (po_some pe_int)) (pe_op op_rep (pe_lst (pa_cons (pe_ix ix_list (pv 1) pe_int (fun _ _ => rfl)) (pa_cons (pe_ix ix_list (pv 1) pe_int (fun _ _ => rfl)) (pa_cons (pe_ix ix_list (pv 1) pe_int (fun _ _ => rfl)) pa_nil)))) pe_int))) (pg_name (i := 9) nd rfl (.inl rfl)) (pss_cons (ps_set (i := 10) nd rfl (.inl rfl) (pe_call GD.ok hr1 (by rfl) GD.mg GD.kp GD.b .nil pass0 (pa_cons (pv 9) (pa_cons pe_int (pa_cons (pe_op op_shl pe_int pe_int) pa_nil))))) <| C8.pss_cut (ps_if (PW.pt (pw_and (pt_cmpR op_eq (pe_callB call_len_seq (by rfl) T.len PySem.boot_len (pa_cons (pv 4) pa_nil)) pe_int (nomark _)) (pw_and1 (pt_cmpR op_ge (pe_op op_add (pv 7) pe_int) (pv 8) (nomark _))))) (pss_one (ps_break)) (pss_nil)) <| pss_cons (ps_set (i := 12) nd rfl (.inl rfl) (pe_op op_cat (pe_lc (own := [("number", 11)]) (g := gName 11) rfl nd (pi_list (pv 4)) (blkOk_by (own := [("number", 11)]) (N := ["script", "sizes", "size", "first", "waiting", "order", "late", "top", "last", "cell", "numbers", "number", "choices", "forced"]) (sc := defScope sLaw) (by decide +kernel)) (fun _ _ _ _ _ => pg_name (i := 11) nd rfl (Or.inl rfl)) (fun _ _ _ _ _ => pts_one (pt_cmpR op_ge (pv 11) (pe_op op_sub (pe_op op_add (pv 7) pe_int) (pv 2)) (nomark _))) (fun _ _ _ _ _ => (pv 11))) (pe_op op_rep (pe_lst (pa_cons (pe_op op_add (pv 7) pe_int) pa_nil)) (pe_callTy call_int1 (by rfl) T.int (by decide +kernel) (pa_cons (pe_cmpR op_lt (pe_op op_add (pv 7) pe_int) (pv 8) (nomark _)) pa_nil))))) <| pss_cons (ps_setLc (i := 13) (own := [("number", 11)]) (g := gName 11) rfl nd rfl rfl (sw_true rfl rfl rfl (by decide +kernel)) (pi_list (pv 4)) (blkOk_by (own := [("number", 11)]) (N := ["script", "sizes", "size", "first", "waiting", "order", "late", "top", "last", "cell", "numbers", "number", "choices", "forced"]) (sc := defScope sLaw) (by decide +kernel)) (fun _ _ _ _ _ => pg_name (i := 11) nd rfl (Or.inl rfl)) (fun _ _ _ _ _ => pts_one (pt_cmpR op_lt (pv 11) (pe_op op_sub (pe_op op_add (pv 7) pe_int) (pv 2)) (nomark _))) (fun _ _ _ _ _ => (pv 11))) <| C8.pss_cut (ps_if (pt_cmpR op_gt (pe_callB call_len_seq (by rfl) T.len PySem.boot_len (pa_cons (pv 13) pa_nil)) pe_int (nomark _)) (pss_one (ps_set (i := 12) nd rfl (.inl rfl) (pv 13))) (pss_nil)) <| pss_cons (ps_set (i := 11) nd rfl (.inl rfl) (pe_ix ix_list (pv 12) (pe_op op_mod (pe_ix ix_list (pv 10) pe_int (fun _ _ => rfl)) (pe_callB call_len_seq (by rfl) T.len PySem.boot_len (pa_cons (pv 12) pa_nil))) (fun _ _ => rfl))) <| C8.pss_cut (ps_if (pt_cmpR op_eq (pv 11) (pe_op op_add (pv 7) pe_int) (nomark _)) (pss_one (ps_set (i := 7) nd rfl (.inr rfl) (pv 11))) (pss_one (ps_expr (pe_bm PySem.F.plainAttrs_list PySem.F.slot_list_remove PySem.F.type_list_remove mt_remove (pv 4) (pa_cons (pv 11) pa_nil))))) <| pss_one (ps_if (PW.pt (pw_and (pt_cmpR op_eq (pv 11) (pv 7) (nomark _)) (pw_and (pt_cmpR op_eq (pe_op op_mod (pe_ix ix_list (pv 10) pe_int (fun _ _ => rfl)) pe_int) pe_int (nomark _)) (pw_and (pt_cmpR op_gt (pv 2) pe_int (nomark _)) (pw_and1 (pt_cmpR op_notIn_seq (pv 11) (pv 6) rfl)))))) (pss_cons (ps_expr (pe_bm PySem.F.plainAttrs_list PySem.F.slot_list_append PySem.F.type_list_append mt_append (pv 4) (pa_cons (pv 11) pa_nil))) <| pss_one (ps_expr (pe_bm PySem.F.plainAttrs_list PySem.F.slot_list_append PySem.F.type_list_append mt_append (pv 6) (pa_cons (pv 11) pa_nil)))) (pss_cons (ps_expr (pe_bm PySem.F.plainAttrs_list PySem.F.slot_list_append PySem.F.type_list_append mt_append (pv 5) (pa_cons (pv 11) pa_nil))) <| pss_one (ps_if (pt_cmpR op_eq (pe_op op_mod (pe_ix ix_list (pv 10) pe_int (fun _ _ => rfl)) pe_int) pe_int (nomark _)) (pss_one (ps_expr (pe_bm PySem.F.plainAttrs_list PySem.F.slot_list_append PySem.F.type_list_append mt_append (pv 5) (pa_cons (pv 11) pa_nil)))) (pss_nil)))))) <| pss_one (ps_ret (pe_call GO.ok hr3 (by rfl) GO.mg GO.kp GO.b .nil pass0 (pa_cons (pv 2) (pa_cons (pv 3) (pa_cons (pv 5) pa_nil))))), ?_⟩
    refine ⟨_, rfl, a, ns, 0, rfl, hS, _, _, rfl, rfl, ⟨by decide, by decide, by decide⟩, ns.getD 0 0, 1048576, 3, rfl, by decide, by decide, by decide, fun H1 pz zs s1 npz hz lz bz => ?_⟩
    have z0 := bz (zs.getD 0 0) (getD_mem (by omega))
    have z1 := bz (zs.getD 1 0) (getD_mem (by omega))
    have z2 := bz (zs.getD 2 0) (getD_mem (by omega))
    have x0 : 0 ≤ zs.getD 0 0 % 8 := Int.emod_nonneg _ (by decide)
    have x1 : zs.getD 0 0 % 8 < 8 := Int.emod_lt_of_pos _ (by decide)
    refine ⟨_, rfl, pz, _, _, _, rfl, rfl, SqL.of hz, atI_ints (j := 0) rfl (by omega), _, _, rfl, rfl, (by show (0 : Int) < 8; decide), _, _, rfl, rfl, ?_⟩
    refine ⟨_, rfl, pz, _, _, _, rfl, rfl, SqL.of hz, atI_ints (j := 1) rfl (by omega), _, _, rfl, rfl, (by show (0 : Int) < 65536; decide), ?_⟩
    refine ⟨fun σ H' => ∃ fi : Int, σ = [some (.ref a), some (.ref pz), some (.int (1 + zs.getD 0 0 % 8)), some (.int fi), none, none, none, none, none, none, none, none, none, none] ∧ H' = H1, ?_, ?_⟩
    · refine ⟨_, rfl, pz, _, _, _, rfl, rfl, SqL.of hz, atI_ints (j := 1) rfl (by omega), _, _, rfl, rfl, ⟨by decide, by decide⟩, _, _, rfl, rfl, (by show (0 : Int) < 2; decide), rfl, _, rfl, ite2 (fun _ => ?_) (fun _ => ⟨_, rfl, rfl⟩)⟩
      exact ⟨_, rfl, pz, _, _, _, rfl, rfl, SqL.of hz, atI_ints (j := 1) rfl (by omega), _, _, rfl, rfl, (by show (0 : Int) < 6; decide), _, _, rfl, rfl, _, rfl, rfl⟩
    rintro σ H2 ⟨fi, rfl, rfl⟩
    obtain ⟨sz, esz⟩ : ∃ sz : Nat, 1 + zs.getD 0 0 % 8 = (sz : Int) := ⟨(1 + zs.getD 0 0 % 8).toNat, by omega⟩
    rw [esz]
    refine ⟨Nat.zero_le _, fun w nw => ?_⟩
    have s2 := same_new (o := .lst []) nw
    refine ⟨Nat.zero_le _, fun o no => ?_⟩
    have s3 := same_new (o := .lst []) no
    refine ⟨Nat.zero_le _, fun t nt => ?_⟩
    have s4 := same_new (o := .lst []) nt
    have hw := upd_same (H := H2) (a := w) (o := .lst [])
    have ho := upd_same (H := upd H2 w (.lst [])) (a := o) (o := .lst [])
    have ht := upd_same (H := upd (upd H2 w (.lst [])) o (.lst [])) (a := t) (o := .lst [])
    have nwo : w ≠ o := ne_of_none hw no
    have nwt : w ≠ t := ne_of_none (s3 _ _ hw) nt
    have not_ : o ≠ t := ne_of_none ho nt
    have hw := s4 _ _ (s3 _ _ hw)
    have ho := s4 _ _ ho
    have S4 := s1.trans (s2.trans (s3.trans s4))
    have hz4 := (s2.trans (s3.trans s4)) _ _ hz
    revert hw ho ht S4 hz4
    generalize (upd (upd (upd H2 w (.lst [])) o (.lst [])) t (.lst [])) = H3
    intro ht hw ho S4 hz4
    refine ⟨_, rfl, ?_⟩
    refine ⟨_, rfl, pz, _, _, _, rfl, rfl, SqL.of hz4, atI_ints (j := 2) rfl (by omega), _, _, rfl, rfl, (by show (0 : Int) < 61; decide), ?_⟩
    have la0 : 0 ≤ zs.getD 2 0 % 61 := Int.emod_nonneg _ (by decide)
    have la1 : zs.getD 2 0 % 61 < 61 := Int.emod_lt_of_pos _ (by decide)
    dsimp only [gName, tSeq, tIfS]
    generalize zs.getD 2 0 % 61 = last at la0 la1 ⊢
    obtain ⟨cs, ecs, lcs⟩ := cut_mid (ns := ns) (i := 1) (j := 63) (by decide)
    have ecs : cutV (ns.map V.int) (some 1) (some 63) = cs.map V.int := ecs
    refine ⟨_, rfl, _, rfl, _, rfl, a, _, rfl, S4.seq hS, fun y1 ny1 => ?_⟩
    rw [ecs]
    have s5 := same_new (o := .lst (cs.map V.int)) ny1
    refine ⟨_, rfl, pz, _, _, _, rfl, rfl, SqL.of (s5 _ _ hz4), atI_ints (j := 0) rfl (by omega), ?_⟩
    refine ⟨_, rfl, pz, _, _, _, rfl, rfl, SqL.of (s5 _ _ hz4), atI_ints (j := 1) rfl (by omega), ?_⟩
    refine ⟨_, rfl, pz, _, _, _, rfl, rfl, SqL.of (s5 _ _ hz4), atI_ints (j := 2) rfl (by omega), ?_⟩
    refine ⟨by show 3 ≤ sizeLine; decide, fun y2 ny2 => ?_⟩
    have s6 := same_new (o := .lst [V.int (zs.getD 0 0), V.int (zs.getD 1 0), V.int (zs.getD 2 0)]) ny2
    refine ⟨y2, 30, _, rfl, rfl, upd_same, by decide, by decide, by show 3 * 30 ≤ sizeLine; decide, fun y3 ny3 => ?_⟩
    have e90 : (List.replicate (30 : Int).toNat [V.int (zs.getD 0 0), V.int (zs.getD 1 0), V.int (zs.getD 2 0)]).flatten = (List.replicate 30 [zs.getD 0 0, zs.getD 1 0, zs.getD 2 0]).flatten.map V.int := rfl
    have l90 : (List.replicate 30 [zs.getD 0 0, zs.getD 1 0, zs.getD 2 0]).flatten.length = 90 := rfl
    rw [e90]
    generalize (List.replicate 30 [zs.getD 0 0, zs.getD 1 0, zs.getD 2 0]).flatten = ds at l90 ⊢
    have s7 := same_new (o := .lst (ds.map V.int)) ny3
    have s57 := s5.trans (s6.trans s7)
    have hy1 := (s6.trans s7) _ _ (upd_same (H := H3) (a := y1) (o := .lst (cs.map V.int)))
    have hy3 := upd_same (H := (upd (upd H3 y1 (.lst (cs.map V.int))) y2 (.lst [V.int (zs.getD 0 0), V.int (zs.getD 1 0), V.int (zs.getD 2 0)]))) (a := y3) (o := .lst (ds.map V.int))
    clear s7
    revert s57 hy1 hy3
    generalize (upd (upd (upd H3 y1 (.lst (cs.map V.int))) y2 (.lst [V.int (zs.getD 0 0), V.int (zs.getD 1 0), V.int (zs.getD 2 0)])) y3 (.lst (ds.map V.int))) = HB
    intro s57 hy1 hy3
    have lcd : (cs.map V.int).length + (ds.map V.int).length ≤ sizeLine := by
      refine Nat.le_of_lt (szl ?_)
      rw [List.length_map, List.length_map]
      omega
    refine ⟨y1, y3, cs.map V.int, ds.map V.int, rfl, rfl, hy1, hy3, lcd, fun y ny => ?_⟩
    rw [← List.map_append]
    have lct : (cs ++ ds).length ≤ 152 := by rw [List.length_append]; omega
    generalize (cs ++ ds) = cs at lct ⊢
    have s8 := same_new (o := .lst (cs.map V.int)) ny
    have s58 := s57.trans s8
    have hy := upd_same (H := HB) (a := y) (o := .lst (cs.map V.int))
    have L0 : Li (upd HB y (.lst (cs.map V.int))) w o t y [] [] [] cs := ⟨s58 _ _ hw, s58 _ _ ho, s58 _ _ ht, hy, nwo, nwt, (ne_of_none (s57 _ _ hw) ny), not_, ne_of_none (s57 _ _ ho) ny, ne_of_none (s57 _ _ ht) ny⟩
    have S8 := S4.trans s58
    revert L0 S8
    generalize (upd HB y (.lst (cs.map V.int))) = H4
    intro L0 S8
    have hsz1 : 1 ≤ sz := by omega
    have hsz2 : sz ≤ 1000 := by omega
    refine ⟨y, rfl, ⟨_, SqL.of L0.hy⟩, for_list (K := K) (a := y) (xs := cs.map V.int) (fun i σ H' => ∃ (top : Int) (W O T : List Int) (v9 v10 v11 v12 v13 : Option V), σ = [some (.ref a), some (.ref pz), some (.int (sz : Int)), some (.int fi), some (.ref w), some (.ref o), some (.ref t), some (.int top), some (.int last), v9, v10, v11, v12, v13] ∧ Li H' w o t y W O T cs ∧ Bd W O T top last i) ⟨-1, [], [], [], none, none, none, none, none, rfl, L0, ⟨fun x h => (List.not_mem_nil h).elim, fun x h => (List.not_mem_nil h).elim, by decide, by decide, Nat.le_refl _, Nat.zero_le _, Nat.le_refl _⟩⟩ (fun i σ H' _ ⟨_, _, _, _, _, _, _, _, _, _, h, _⟩ => SqL.of h.hy) ?_ ?_⟩
    · rintro i x σ H5 hi ⟨top, W, O, T, v9, v10, v11, v12, v13, rfl, hL, hB⟩
      obtain ⟨cv, ec, rfl⟩ := ints_at hi
      have il : i < cs.length := (List.getElem?_eq_some_iff.mp ec).1
      refine ⟨_, rfl, _, _, rfl, rfl, ⟨by decide, by decide, by decide⟩, cv, 1048576, 3, rfl, by decide, by decide, by decide, fun H6 pn ms s9 npn hn ln bn => ?_⟩
      have nwp := ne_of_none hL.hw npn
      have nop := ne_of_none hL.ho npn
      have hL := hL.same s9
      dsimp only [gName, tSeq, tIfS]
      have b0 := hB.t0
      have b1 := hB.t1
      have bw := hB.lw
      have bo := hB.lo
      have bt := hB.lt
      refine ⟨fun σ H' => σ = [some (.ref a), some (.ref pz), some (.int (sz : Int)), some (.int fi), some (.ref w), some (.ref o), some (.ref t), some (.int top), some (.int last), some (.int cv), some (.ref pn), v11, v12, v13] ∧ H' = H6 ∧ (W ≠ [] ∨ top + 1 < last), ?_, ?_⟩
      · refine and_read (a := decide (W.length = 0)) (b := decide (last ≤ top + 1)) (fun Q h => ?_) (fun _ Q h => ?_) (ite2 (fun z => ?_) (fun z => ?_))
        · refine ⟨_, rfl, w, _, rfl, .inl (SqL.of hL.hw), rfl, _, rfl, ?_⟩
          rw [show decide (V.int (((W.map V.int).length : Nat) : Int) = V.int 0) = decide (W.length = 0) by
            rw [decide_eq_decide, List.length_map]
            constructor
            · intro z
              injection z with z
              omega
            · intro z
              rw [z]
              rfl]
          exact h
        · exact ⟨_, rfl, _, _, rfl, rfl, _, rfl, _, _, rfl, rfl, _, rfl, h⟩
        · exact ⟨_, rfl, _, rfl, _, rfl, sz, fi, o, O, rfl, hsz1, hsz2, hL.ho, by omega, hB.o, fun H' => q H'⟩
        · refine ⟨rfl, rfl, ?_⟩
          rw [Bool.and_eq_true, decide_eq_true_eq, decide_eq_true_eq] at z
          by_cases y : W = []
          · refine .inr ?_
            have : W.length = 0 := by rw [y]; rfl
            omega
          · exact .inl y
      rintro σ H7 ⟨rfl, rfl, hne⟩
      -- choices
      refine ⟨_, rfl, w, rfl, ⟨_, SqL.of hL.hw⟩, fun D nD => ?_⟩
      refine lc_list (K := K) (a := w) (xs := W.map V.int) (fun i H' => Same H7 H' ∧ H' D = some (.lst (((W.take i).filter (fun x => decide (top + 2 - (sz : Int) ≤ x))).map V.int))) ⟨same_new nD, upd_same⟩ (fun i H' _ z => SqL.of (z.1 _ _ hL.hw)) ?_ ?_
      · rintro j v H' hj ⟨sm, hD⟩
        obtain ⟨n, en, rfl⟩ := ints_at hj
        refine ⟨rfl, ?_⟩
        refine ⟨_, rfl, _, rfl, _, _, rfl, rfl, _, rfl, _, _, rfl, rfl, _, _, rfl, rfl, _, rfl, ite2 (fun e => ?_) (fun e => ?_)⟩
        · refine ⟨_, rfl, _, hD, szl (by rw [List.length_map]; have := filt_le (W := W) (j := j) (p := fun x => decide (top + 2 - (sz : Int) ≤ x)); omega), same_mut sm nD, ?_⟩
          rw [upd_same, filt_sn en, if_pos e, List.map_append]
          rfl
        · refine ⟨sm, ?_⟩
          rw [filt_sn en, if_neg e, List.append_nil]
          exact hD
      rintro H8 ⟨s10, hD⟩
      rw [List.length_map, List.take_length] at hD
      refine ⟨_, rfl, _, _, rfl, rfl, by show 1 ≤ sizeLine; decide, fun l nl => ?_⟩
      have s11 := same_new (o := .lst [V.int (top + 1)]) nl
      obtain ⟨m, em, m1, m2, m3⟩ : ∃ m : Nat, (if decide (top + 1 < last) = true then (1 : Int) else 0) = (m : Int) ∧ m ≤ 1 ∧ (1 ≤ m → top + 1 < last) ∧ (top + 1 < last → m = 1) := by
        by_cases z : top + 1 < last
        · exact ⟨1, by rw [decide_eq_true z]; rfl, Nat.le_refl _, fun _ => z, fun _ => rfl⟩
        · exact ⟨0, by rw [decide_eq_false z]; rfl, Nat.zero_le _, fun h => by omega, fun h => absurd h z⟩
      refine ⟨_, rfl, _, _, rfl, rfl, _, rfl, _, _, rfl, rfl, .inr ⟨_, rfl, ?_⟩⟩
      dsimp only
      rw [em]
      refine ⟨l, _, _, rfl, rfl, upd_same, by omega, by omega, (by show 1 * (m : Int).toNat ≤ sizeLine; rw [Nat.one_mul, Int.toNat_natCast]; exact Nat.le_of_lt (szl (by omega))), fun l2 nl2 => ?_⟩
      rw [rep1]
      have s12 := same_new (o := .lst ((List.replicate m (top + 1)).map V.int)) nl2
      have hD := (s11.trans s12) _ _ hD
      have hl2 := upd_same (H := upd H8 l (.lst [V.int (top + 1)])) (a := l2) (o := .lst ((List.replicate m (top + 1)).map V.int))
      have s13 := s10.trans (s11.trans s12)
      revert hD hl2 s13
      generalize upd (upd H8 l (.lst [V.int (top + 1)])) l2 (.lst ((List.replicate m (top + 1)).map V.int)) = H9
      intro hD hl2 s13
      have hL9 := hL.same s13
      have lch : ((W.filter (fun x => decide (top + 2 - (sz : Int) ≤ x))).map V.int).length + ((List.replicate m (top + 1)).map V.int).length ≤ sizeLine := by
        refine Nat.le_of_lt (szl ?_)
        rw [List.length_map, List.length_map, List.length_replicate]
        have := List.length_filter_le (fun x => decide (top + 2 - (sz : Int) ≤ x)) W
        omega
      refine ⟨D, l2, _, _, rfl, rfl, hD, hl2, lch, fun ch nch => ?_⟩
      rw [← List.map_append]
      have s14 := same_new (o := .lst ((W.filter (fun x => decide (top + 2 - (sz : Int) ≤ x)) ++ List.replicate m (top + 1)).map V.int)) nch
      have hch := upd_same (H := H9) (a := ch) (o := .lst ((W.filter (fun x => decide (top + 2 - (sz : Int) ≤ x)) ++ List.replicate m (top + 1)).map V.int))
      revert hch s14
      generalize upd H9 ch (.lst ((W.filter (fun x => decide (top + 2 - (sz : Int) ≤ x)) ++ List.replicate m (top + 1)).map V.int)) = H10
      intro s14 hch
      have hL10 := hL9.same s14
      -- forced
      refine ⟨_, rfl, w, rfl, ⟨_, SqL.of hL10.hw⟩, fun D2 nD2 => ?_⟩
      refine lc_list (K := K) (a := w) (xs := W.map V.int) (fun i H' => Same H10 H' ∧ H' D2 = some (.lst (((W.take i).filter (fun x => decide (x < top + 3 - (sz : Int)))).map V.int))) ⟨same_new nD2, upd_same⟩ (fun i H' _ z => SqL.of (z.1 _ _ hL10.hw)) ?_ ?_
      · rintro j v H' hj ⟨sm, hD⟩
        obtain ⟨n, en, rfl⟩ := ints_at hj
        refine ⟨rfl, ?_⟩
        refine ⟨_, rfl, _, rfl, _, _, rfl, rfl, _, rfl, _, _, rfl, rfl, _, _, rfl, rfl, _, rfl, ite2 (fun e => ?_) (fun e => ?_)⟩
        · refine ⟨_, rfl, _, hD, szl (by rw [List.length_map]; have := filt_le (W := W) (j := j) (p := fun x => decide (x < top + 3 - (sz : Int))); omega), same_mut sm nD2, ?_⟩
          rw [upd_same, filt_sn en, if_pos e, List.map_append]
          rfl
        · refine ⟨sm, ?_⟩
          rw [filt_sn en, if_neg e, List.append_nil]
          exact hD
      rintro H11 ⟨s15, hD2⟩
      rw [List.length_map, List.take_length] at hD2
      have s16 := s13.trans (s14.trans s15)
      have hL11 := hL10.same s15
      refine ⟨fun σ H' => ∃ (ch : Addr) (chs : List Int) (v13 : Option V), σ = [some (.ref a), some (.ref pz), some (.int (sz : Int)), some (.int fi), some (.ref w), some (.ref o), some (.ref t), some (.int top), some (.int last), some (.int cv), some (.ref pn), v11, some (.ref ch), v13] ∧ H' = H11 ∧ H11 ch = some (.lst (chs.map V.int)) ∧ chs ≠ [] ∧ ∀ x ∈ chs, x ∈ W ∨ (x = top + 1 ∧ top + 1 < last), ?_, ?_⟩
      · refine ⟨_, rfl, D2, _, rfl, .inl (SqL.of hD2), _, _, rfl, rfl, _, rfl, ite2 (fun z => ?_) (fun z => ?_)⟩
        · have z := of_decide_eq_true z
          refine ⟨_, rfl, D2, _, _, rfl, rfl, hD2, ?_, fun x hx => .inl ((List.mem_filter.mp hx).1)⟩
          intro y
          rw [y] at z
          exact absurd z (by decide)
        · have z := fun y => z (decide_eq_true y)
          refine ⟨ch, _, _, rfl, rfl, s15 _ _ hch, ?_, fun x hx => ?_⟩
          · intro y
            obtain ⟨y1, y2⟩ := List.append_eq_nil_iff.mp y
            have nl : ¬ top + 1 < last := fun u => by
              rw [m3 u] at y2
              cases y2
            rcases hne with hne | hne
            · obtain ⟨x, hx⟩ := List.exists_mem_of_ne_nil _ hne
              have h1 : x ∉ W.filter (fun x => decide (top + 2 - (sz : Int) ≤ x)) := by rw [y1]; exact List.not_mem_nil
              have h2 : ¬ top + 2 - (sz : Int) ≤ x := fun u => h1 (List.mem_filter.mpr ⟨hx, decide_eq_true u⟩)
              have h3 : x ∈ W.filter (fun x => decide (x < top + 3 - (sz : Int))) := List.mem_filter.mpr ⟨hx, decide_eq_true (by omega)⟩
              refine z ?_
              rw [List.length_map]
              have := List.length_pos_of_mem h3
              omega
            · exact nl hne
          · rcases List.mem_append.mp hx with hx | hx
            · exact .inl ((List.mem_filter.mp hx).1)
            · obtain ⟨u1, u2⟩ := List.mem_replicate.mp hx
              exact .inr ⟨u2, m2 (by omega)⟩
      rintro σ H12 ⟨ch, chs, v13, rfl, rfl, hch, cne, cin⟩
      have hn12 := s16 _ _ hn
      have lc0 : 0 < chs.length := List.length_pos_iff.mpr cne
      obtain ⟨j, ej⟩ : ∃ j : Nat, ms.getD 0 0 % (chs.length : Int) = (j : Int) := ⟨(ms.getD 0 0 % (chs.length : Int)).toNat, by have := Int.emod_nonneg (ms.getD 0 0) (b := (chs.length : Int)) (by omega); omega⟩
      have jl : j < chs.length := by have := Int.emod_lt_of_pos (ms.getD 0 0) (b := (chs.length : Int)) (by omega); omega
      refine ⟨_, rfl, _, rfl, pn, _, _, _, rfl, rfl, SqL.of hn12, atI_ints (j := 0) rfl (by omega), _, rfl, ch, _, rfl, .inl (SqL.of hch), _, _, rfl, rfl, (by show (0 : Int) < (((chs.map V.int).length : Nat) : Int); rw [List.length_map]; omega), ch, _, _, _, rfl, rfl, SqL.of hch, (by rw [List.length_map, ej]; exact atI_ints rfl jl), ?_⟩
      have cn := cin _ (getD_mem jl)
      generalize chs.getD j 0 = n at cn ⊢
      have n01 : 0 ≤ n ∧ n < 60 := by
        rcases cn with cn | cn
        · exact hB.w n cn
        · omega
      dsimp only [gName, tSeq, tIfS]
      refine ⟨fun σ H' => ∃ (top : Int) (W : List Int), σ = [some (.ref a), some (.ref pz), some (.int (sz : Int)), some (.int fi), some (.ref w), some (.ref o), some (.ref t), some (.int top), some (.int last), some (.int cv), some (.ref pn), some (.int n), some (.ref ch), v13] ∧ Li H' w o t y W O T cs ∧ H' pn = some (.lst (ms.map V.int)) ∧ -1 ≤ top ∧ top < 60 ∧ W.length ≤ i ∧ ∀ x ∈ W, 0 ≤ x ∧ x < 60, ?_, ?_⟩
      · refine ⟨_, rfl, _, rfl, _, _, rfl, rfl, rfl, _, rfl, ite2 (fun z => ?_) (fun z => ?_)⟩
        · exact ⟨_, rfl, n, W, rfl, hL11, hn12, by omega, n01.2, bw, hB.w⟩
        · have z : n ≠ top + 1 := fun u => z (decide_eq_true (by rw [u]))
          have nW : n ∈ W := cn.resolve_right fun u => z u.1
          obtain ⟨j, j1, j2⟩ := first_ix nW
          refine ⟨_, rfl, .inl ⟨rfl, _, SqL.of hL11.hw⟩, _, rfl, w, W, n, j, rfl, rfl, hL11.hw, j1, j2, ?_⟩
          refine ⟨top, W.eraseIdx j, rfl, hL11.setW _, ?_, b0, b1, Nat.le_trans (List.eraseIdx_sublist W j).length_le bw, fun x hx => hB.w x ((List.eraseIdx_sublist W j).subset hx)⟩
          rw [upd_ne nwp.symm]
          exact hn12
      clear hL11 hn12 hch cn cin
      rintro σ H13 ⟨top, W, rfl, hL13, hn13, b0, b1, bw, hBw⟩
      refine and_read (a := decide (V.int n = V.int top)) (b := decide (V.int (ms.getD 1 0 % 3) = V.int 0) && (decide ((1 : Int) < (sz : Int)) && !inV (.int n) (T.map V.int))) (fun Q h => ?_) (fun _ Q h => ?_) (ite2 (fun z => ?_) (fun z => ?_))
      · exact ⟨_, rfl, _, rfl, rfl, _, rfl, h⟩
      · refine and_read (a := decide (V.int (ms.getD 1 0 % 3) = V.int 0)) (b := decide ((1 : Int) < (sz : Int)) && !inV (.int n) (T.map V.int)) (fun Q h => ?_) (fun _ Q h => ?_) h
        · exact ⟨_, rfl, pn, _, _, _, rfl, rfl, SqL.of hn13, atI_ints (j := 1) rfl (by omega), _, _, rfl, rfl, (by show (0 : Int) < 3; decide), rfl, _, rfl, h⟩
        · refine and_read (a := decide ((1 : Int) < (sz : Int))) (b := !inV (.int n) (T.map V.int)) (fun Q h => ?_) (fun _ Q h => ?_) h
          · exact ⟨_, rfl, _, _, rfl, rfl, _, rfl, h⟩
          · exact ⟨_, rfl, _, rfl, t, _, rfl, .inl (SqL.of hL13.ht), rfl, flat_int T, _, rfl, h⟩
      · have hL14 := hL13.setW (W ++ [n])
        refine ⟨_, rfl, .inl ⟨rfl, _, SqL.of hL13.hw⟩, _, rfl, w, _, _, rfl, rfl, hL13.hw, szl (by rw [List.length_map]; omega), ?_⟩
        rw [snocV]
        refine ⟨_, rfl, .inl ⟨rfl, _, SqL.of hL14.ht⟩, _, rfl, t, _, _, rfl, rfl, hL14.ht, szl (by rw [List.length_map]; omega), ?_⟩
        rw [snocV]
        refine ⟨top, W ++ [n], O, T ++ [n], _, _, _, _, _, rfl, hL14.setT _, ⟨fun x hx => ?_, hB.o, b0, b1, ?_, by omega, ?_⟩⟩
        · rcases List.mem_append.mp hx with hx | hx
          · exact hBw x hx
          · rw [List.mem_singleton.mp hx]
            exact n01
        · rw [List.length_append]
          show W.length + 1 ≤ i + 1
          omega
        · rw [List.length_append]
          show T.length + 1 ≤ i + 1
          omega
      · have hL14 := hL13.setO (O ++ [n])
        have hn14 : (upd H13 o (.lst ((O ++ [n]).map V.int))) pn = some (.lst (ms.map V.int)) := by
          rw [upd_ne nop.symm]
          exact hn13
        have hO1 : ∀ x ∈ O ++ [n], 0 ≤ x ∧ x < 60 := fun x hx => by
          rcases List.mem_append.mp hx with hx | hx
          · exact hB.o x hx
          · rw [List.mem_singleton.mp hx]
            exact n01
        have l1 : (O ++ [n]).length = O.length + 1 := List.length_append
        refine ⟨_, rfl, .inl ⟨rfl, _, SqL.of hL13.ho⟩, _, rfl, o, _, _, rfl, rfl, hL13.ho, szl (by rw [List.length_map]; omega), ?_⟩
        rw [snocV]
        refine ⟨_, rfl, pn, _, _, _, rfl, rfl, SqL.of hn14, atI_ints (j := 2) rfl (by omega), _, _, rfl, rfl, (by show (0 : Int) < 3; decide), rfl, _, rfl, ite2 (fun _ => ?_) (fun _ => ?_)⟩
        · refine ⟨_, rfl, .inl ⟨rfl, _, SqL.of hL14.ho⟩, _, rfl, o, _, _, rfl, rfl, hL14.ho, szl (by rw [List.length_map]; omega), ?_⟩
          rw [snocV]
          refine ⟨top, W, O ++ [n] ++ [n], T, _, _, _, _, _, rfl, hL14.setO _, ⟨hBw, fun x hx => ?_, b0, b1, by omega, ?_, by omega⟩⟩
          · rcases List.mem_append.mp hx with hx | hx
            · exact hO1 x hx
            · rw [List.mem_singleton.mp hx]
              exact n01
          · rw [List.length_append]
            show (O ++ [n]).length + 1 ≤ 2 * (i + 1)
            omega
        · exact ⟨top, W, O ++ [n], T, _, _, _, _, _, rfl, hL14, ⟨hBw, hO1, b0, b1, by omega, by omega, by omega⟩⟩
    · rintro σ H5 ⟨top, W, O, T, v9, v10, v11, v12, v13, rfl, hL, hB⟩
      have bo := hB.lo
      rw [List.length_map] at bo
      refine ⟨_, rfl, _, rfl, _, rfl, sz, fi, o, O, rfl, hsz1, hsz2, hL.ho, by omega, hB.o, fun H' => q H'⟩
end
end My
namespace My
open PySem PySem.Spec PyProof.Rows L2
/-! ### what the top has written, the head -/
theorem all_mk {l : PySem.W.OpenLaw} {w : World} {K : PySem.W.Frag} {h : Heap} {mg : Str → Option Value} {fa C fI fTk fD fCe fO fL : Addr} (X : K.In h) (G : h.Ns mainGlobals mg) (hfa : mg "law" = some (.ref fa))
    {tN : Tok}
    {odI anI : Option Addr} {slI : Array (Option Value)} {ocI dcI pmI cdI ctI kVI : Value}
    {odTk anTk : Option Addr} {slTk : Array (Option Value)} {ocTk kVTk dcTk pmTk cdTk ctTk : Value}
    {odD anD : Option Addr} {slD : Array (Option Value)} {ocD kVD dcD pmD cdD ctD : Value}
    {odCe anCe : Option Addr} {slCe : Array (Option Value)} {ocCe kVCe dcCe pmCe cdCe ctCe : Value}
    {odO anO : Option Addr} {slO : Array (Option Value)} {ocO kVO dcO pmO cdO ctO : Value}
    {odL anL : Option Addr} {slL : Array (Option Value)} {ocL kVL dcL pmL cdL ctL : Value}
    (aC : PySem.W.nsIn K mainGlobals "Eliminator" = some (some (.ref C)))
    (aI : PySem.W.findIn K (.ref C) "__init__" = some (some (.ref fI)))
    (iI : PySem.W.isFn K (.ref fI) = true)
    (lI : K.lookup fI = some ⟨ocI, odI, .func (PySem.W.fnOf "__init__" "Eliminator.__init__" (defArgs sEInit) (defBody sEInit) (defScope sEInit) .none kVI dcI pmI anI cdI ctI), slI⟩)
    (cI : PySem.W.codeIn K cdI "Eliminator.__init__" = true)
    (kI : PySem.W.keepIn K (.ref fI) = true)
    (aTk : PySem.W.findIn K (.ref C) "take" = some (some (.ref fTk)))
    (iTk : PySem.W.isFn K (.ref fTk) = true)
    (lTk : K.lookup fTk = some ⟨ocTk, odTk, .func (PySem.W.fnOf "take" "Eliminator.take" (defArgs sTake) (defBody sTake) (defScope sTake) .none kVTk dcTk pmTk anTk cdTk ctTk), slTk⟩)
    (cTk : PySem.W.codeIn K cdTk "Eliminator.take" = true)
    (kTk : PySem.W.keepIn K (.ref fTk) = true)
    (pgC : PySem.W.plainGet K C Str.empty = true)
    (hdC : PySem.W.hasDictIn K C = true)
    (poC : PySem.W.plainOver K C = true)
    (saC : PySem.W.findIn K (.ref C) "__setattr__" = some (some (.builtin "object.__setattr__")))
    (mkC : PySem.W.makesIn K C = true)
    (kcC : PySem.W.keepIn K (.ref C) = true)
    (nC1 : PySem.W.findIn K (.ref C) "size" = some none)
    (nC2 : PySem.W.findIn K (.ref C) "top" = some none)
    (nC3 : PySem.W.findIn K (.ref C) "taken" = some none)
    (aD : PySem.W.nsIn K mainGlobals "_law_draw" = some (some (.ref fD)))
    (lD : K.lookup fD = some ⟨ocD, odD, .func (PySem.W.fnOf "_law_draw" "_law_draw" (defArgs sDraw) (defBody sDraw) (defScope sDraw) .none kVD dcD pmD anD cdD ctD), slD⟩)
    (cD : PySem.W.codeIn K cdD "_law_draw" = true)
    (kD : PySem.W.keepIn K (.ref fD) = true)
    (aCe : PySem.W.nsIn K mainGlobals "_law_cell" = some (some (.ref fCe)))
    (lCe : K.lookup fCe = some ⟨ocCe, odCe, .func (PySem.W.fnOf "_law_cell" "_law_cell" (defArgs sCell) (defBody sCell) (defScope sCell) .none kVCe dcCe pmCe anCe cdCe ctCe), slCe⟩)
    (cCe : PySem.W.codeIn K cdCe "_law_cell" = true)
    (kCe : PySem.W.keepIn K (.ref fCe) = true)
    (aO : PySem.W.nsIn K mainGlobals "_law_once" = some (some (.ref fO)))
    (lO : K.lookup fO = some ⟨ocO, odO, .func (PySem.W.fnOf "_law_once" "_law_once" (defArgs sOnce) (defBody sOnce) (defScope sOnce) .none kVO dcO pmO anO cdO ctO), slO⟩)
    (cO : PySem.W.codeIn K cdO "_law_once" = true)
    (kO : PySem.W.keepIn K (.ref fO) = true)
    (aL : PySem.W.nsIn K mainGlobals "law" = some (some (.ref fL)))
    (lL : K.lookup fL = some ⟨ocL, odL, .func (PySem.W.fnOf "law" "law" (defArgs sLaw) (defBody sLaw) (defScope sLaw) .none kVL dcL pmL anL cdL ctL), slL⟩)
    (cL : PySem.W.codeIn K cdL "law" = true)
    (kL : PySem.W.keepIn K (.ref fL) = true)
    (z_range : PySem.W.nsIn K mainGlobals "range" = some none)
    (z_len : PySem.W.nsIn K mainGlobals "len" = some none)
    (z_int : PySem.W.nsIn K mainGlobals "int" = some none)
    (z_list : PySem.W.nsIn K mainGlobals "list" = some none)
    (z_enum : PySem.W.nsIn K mainGlobals "enumerate" = some none)
    (z_max : PySem.W.nsIn K mainGlobals "max" = some none)
    (zN : PySem.W.nsIn K mainGlobals "NUMBERS" = some (some (.int 65536 tN))) :
    ∃ fd : FuncData, (∀ (s : Shared) (v : Value), BindsTo s fd ⟨[v], []⟩ [("script", v)]) ∧ ∀ base : Heap, K.In base → base.Ns mainGlobals mg → FnOk l.prog w K mg base CX0 4 fa fd ["script"] (spLaw K) := by
  have e := hfa.symm.trans (PySem.W.mg_of X G aL)
  cases e
  have T : Blt mg := ⟨PySem.W.mg_none_of X G z_range, PySem.W.mg_none_of X G z_len, PySem.W.mg_none_of X G z_int, PySem.W.mg_none_of X G z_list, PySem.W.mg_none_of X G z_enum⟩
  have hrange := PySem.W.mg_none_of X G z_range
  have hlen := PySem.W.mg_none_of X G z_len
  have hint := PySem.W.mg_none_of X G z_int
  have hlist := PySem.W.mg_none_of X G z_list
  have henum := PySem.W.mg_none_of X G z_enum
  have hmax := PySem.W.mg_none_of X G z_max
  have cC : ElC K C := ⟨⟨pgC, hdC, poC, saC⟩, nC1, nC2, nC3⟩
  have gCC := PySem.W.mg_of X G aC
  have FI := fun_mk (st := sEInit) lI cI kI
  have BI : Binds K _ ["self", "size"] [] := FI.binds (ps := ["self", "size"]) fun _ _ _ _ _ _ us hl => match us, hl with | [_, _], _ => rfl
  have MIC : Mk K C fI := ⟨mkC, aI, iI, kcC⟩
  have FTk := fun_mk (st := sTake) lTk cTk kTk
  have mTk : Meth K C "take" fTk := ⟨aTk, iTk, kTk⟩
  have BTk : Binds K _ ["self", "number"] [] := FTk.binds (ps := ["self", "number"]) fun _ _ _ _ _ _ us hl => match us, hl with | [_, _], _ => rfl
  have FD := fun_mk (st := sDraw) lD cD kD
  have gD := PySem.W.mg_of X G aD
  have BD : Binds K _ ["cell", "many", "bound"] [] := FD.binds (ps := ["cell", "many", "bound"]) fun _ _ _ _ _ _ us hl => match us, hl with | [_, _, _], _ => rfl
  have FCe := fun_mk (st := sCell) lCe cCe kCe
  have gCe := PySem.W.mg_of X G aCe
  have BCe : Binds K _ ["script", "k"] [] := FCe.binds (ps := ["script", "k"]) fun _ _ _ _ _ _ us hl => match us, hl with | [_, _], _ => rfl
  have FO := fun_mk (st := sOnce) lO cO kO
  have gO := PySem.W.mg_of X G aO
  have BO : Binds K _ ["size", "first", "order"] [] := FO.binds (ps := ["size", "first", "order"]) fun _ _ _ _ _ _ us hl => match us, hl with | [_, _, _], _ => rfl
  have FL := fun_mk (st := sLaw) lL cL kL
  refine ⟨PySem.W.fnOf "law" "law" (defArgs sLaw) (defBody sLaw) (defScope sLaw) .none kVL dcL pmL anL cdL ctL, fun s v => .of_eq rfl, fun base _ _ => ?_⟩
  have hN := PySem.W.mg_of X G zN
  have GE : ElMk l.prog w K mg base C fI _ := ⟨ok_einit FI cC, gCC, MIC, BI, kcC⟩
  have GT : MethE l.prog w K mg base 1 ["self", "number"] (spTake C) fTk _ := ⟨ok_take FTk cC hN hmax, BTk⟩
  have GD : Callee l.prog w K mg base 1 "_law_draw" ["cell", "many", "bound"] spDraw fD _ := ⟨ok_draw FD T, gD, FD.kp, BD⟩
  have GCe : Callee l.prog w K mg base 1 "_law_cell" ["script", "k"] (spCell K) fCe _ := ⟨ok_cell FCe T, gCe, FCe.kp, BCe⟩
  have GO : Callee l.prog w K mg base 3 "_law_once" ["size", "first", "order"] (spOnce K) fO _ := ⟨ok_once FO hmax hint cC GE mTk GT, gO, FO.kp, BO⟩
  exact ok_law FL T GD GCe GO
end My
open PySem PySem.W PyProof.Rows in
set_option maxHeartbeats 0 in
theorem PySem.Challenge.cw_metronet_k18_each_number_once_holds : PySem.Challenge.rw_metronet_k18_each_number_once.Holds := by
  w_on; o_law; k_head; (case hw => w_witness2)
  k_fill
  refine L2.walk_of (l := PySem.Challenge.rw_metronet_k18_each_number_once) (n := 63) (k := 4) (x := "script") (CX := fun _ => L2.CX0) (sp := fun w => My.spLaw _) rfl (by decide) rfl ⟨rfl, by decide, by decide⟩ (fun w h Y => PySem.W.kIn_of Y) ?F (fun _ _ a ns hl _ hS => ⟨a, ns, rfl, hS, hl, fun _ => rfl⟩) (fun _ _ _ _ _ h => h)
  case F =>
    intro w mg fa h KX G hmg
    refine' My.all_mk KX G hmg ?aC ?aI ?iI ?lI ?cI ?kI ?aTk ?iTk ?lTk ?cTk ?kTk ?pgC ?hdC ?poC ?saC ?mkC ?kcC ?nC1 ?nC2 ?nC3 ?aD ?lD ?cD ?kD ?aCe ?lCe ?cCe ?kCe ?aO ?lO ?cO ?kO ?aL ?lL ?cL ?kL ?z_range ?z_len ?z_int ?z_list ?z_enum ?z_max ?zN
    (case aC => k_is)
    (case aI => k_is)
    (case iI => k_is)
    (case lI => k_is)
    (case cI => k_is)
    (case kI => k_is)
    (case aTk => k_is)
    (case iTk => k_is)
    (case lTk => k_is)
    (case cTk => k_is)
    (case kTk => k_is)
    (case pgC => k_is)
    (case hdC => k_is)
    (case poC => k_is)
    (case saC => k_is)
    (case mkC => k_is)
    (case kcC => k_is)
    (case nC1 => k_is)
    (case nC2 => k_is)
    (case nC3 => k_is)
    (case aD => k_is)
    (case lD => k_is)
    (case cD => k_is)
    (case kD => k_is)
    (case aCe => k_is)
    (case lCe => k_is)
    (case cCe => k_is)
    (case kCe => k_is)
    (case aO => k_is)
    (case lO => k_is)
    (case cO => k_is)
    (case kO => k_is)
    (case aL => k_is)
    (case lL => k_is)
    (case cL => k_is)
    (case kL => k_is)
    (case z_range => k_is)
    (case z_len => k_is)
    (case z_int => k_is)
    (case z_list => k_is)
    (case z_enum => k_is)
    (case z_max => k_is)
    (case zN => k_is)
