import PyProof.Rows.All
import Wide.All
import OpenK.AllK
import Wide.FinOn
import HandS.ForMost
import HandS.Wide
import HandS.Defaults
import HandS.MakeKwOnly
import HandS.Flow
import HandS.More
import HandS.Walk
import KE.LtData
import HandS.Codes
import HandS.IsInst
import PySem.Challenge.RW_metronet_k17_numbers_that_are_taken
set_option Elab.async false
set_option linter.all false
set_option maxRecDepth 100000
set_option maxHeartbeats 4000000
/-! What any law wants, without the row: heaps, loops, order of data. -/
namespace My
open PySem PySem.Spec PyProof.Rows L2

theorem same_new {H : Hp} {p : Addr} {o : HO} (h : H p = none) : Same H (upd H p o) := fun b x e => by
  rw [upd_ne (ne_of_none e h)]
  exact e
/-- an object that H does not know may change -/
theorem same_mut {H H' : Hp} {p : Addr} {o : HO} (e : Same H H') (h : H p = none) : Same H (upd H' p o) := fun a u ha => by
  rw [upd_ne (ne_of_none ha h)]
  exact e a u ha
theorem ne_new {H H' : Hp} {a p : Addr} (n : H p = none) (h : H' p ≠ none) (e : H' a = none) : p ≠ a := fun q => h (q ▸ e)
/-- a list of ints by place -/
theorem ints_at {ns : List Int} {i : Nat} {y : V} (h : (ns.map V.int)[i]? = some y) : ∃ n, ns[i]? = some n ∧ y = .int n := by
  rw [List.getElem?_map] at h
  cases e : ns[i]? with
  | none => rw [e] at h; cases h
  | some n => rw [e] at h; exact ⟨n, rfl, (Option.some.inj h).symm⟩
theorem int_at {ns : List Int} {i : Nat} {n : Int} (h : ns[i]? = some n) : (ns.map V.int)[i]? = some (.int n) := by
  rw [List.getElem?_map, h]; rfl
theorem atI_int {ns : List Int} {i : Nat} (h : i < ns.length) : atI (ns.map V.int) (i : Int) = some (.int ns[i]) := atI_nat (int_at (List.getElem?_eq_getElem h))
theorem sz {n : Nat} (h : n ≤ 100000) : n ≤ sizeLine := Nat.le_trans h (by decide)
theorem szl {n : Nat} (h : n < 100000) : n < sizeLine := Nat.lt_of_lt_of_le h (by decide)

theorem getD_lt {α : Type} {xs : List α} {j : Nat} (d : α) (h : j < xs.length) : xs.getD j d = xs[j] := by
  rw [List.getD_eq_getElem?_getD, List.getElem?_eq_getElem h]; rfl
theorem getD_at {α : Type} {xs : List α} {j : Nat} (d : α) (h : j < xs.length) : xs[j]? = some (xs.getD j d) := by
  rw [getD_lt d h, List.getElem?_eq_getElem h]
theorem atI_ints {ns : List Int} {z : Int} {j : Nat} (e : z = (j : Int)) (h : j < ns.length) : atI (ns.map V.int) z = some (.int (ns.getD j 0)) := by
  rw [e]
  exact atI_nat (int_at (getD_at 0 h))
theorem getD_mem {ns : List Int} {j : Nat} (h : j < ns.length) : ns.getD j 0 ∈ ns := by
  rw [getD_lt 0 h]; exact List.getElem_mem h
/-! ### tests that change nothing -/
theorem or_read {t u : TT} {σ : L2.St} {H : Hp} {Q : Bool → Hp → Prop} {a b : Bool} (ht : ∀ Q : Bool → Hp → Prop, Q a H → t σ H Q) (hu : ∀ Q : Bool → Hp → Prop, Q b H → u σ H Q) (h : Q (a || b) H) : tOr t u σ H Q := by
  refine ht _ ?_
  cases a with
  | true => exact iteT h
  | false => exact iteF (hu _ h)
theorem and_read {t u : TT} {σ : L2.St} {H : Hp} {Q : Bool → Hp → Prop} {a b : Bool} (ht : ∀ Q : Bool → Hp → Prop, Q a H → t σ H Q) (hu : a = true → ∀ Q : Bool → Hp → Prop, Q b H → u σ H Q) (h : Q (a && b) H) : tAnd t u σ H Q := by
  refine ht _ ?_
  cases a with
  | true => exact iteT (hu rfl _ h)
  | false => exact iteF h
/-! ### < of data -/
section
variable {X : Cx}
def rLtD (K : PySem.W.Frag) : R2 := fun x y H Q => ∃ d e, Dp K H x d ∧ Dp K H y e ∧ PySem.W.alike d e = true ∧ d ≠ .none ∧ min d.depth e.depth ≤ 64 ∧ Q (.bl (PySem.W.dataLt d e)) H
theorem op_ltD (hu : X.A.units + 64 < cLine) : OpR X (compareOp .Lt) (rLtD X.K) := by
  intro pins s σ H x y v u Q I rx ry h
  obtain ⟨d, e, hd, he, al, nn, dp, q⟩ := h
  obtain ⟨as, r1⟩ := Dp.reads I d x v hd rx
  obtain ⟨bs, r2⟩ := Dp.reads I e y u he ry
  have z : wpAny (model X.prog X.w) X.A (compareOp .Lt v u) (EP X pins σ Q) X.xe s := PySem.W.rcLt_alike d e X.A s v u as bs r1 r2 al nn (by omega) X.prog X.w X.xe (EP X pins σ Q) ⟨.bl _, H, I, rfl, q⟩
  exact z
end
/-! ### rules that name the written part, for a comprehension's block -/
section
variable {X : Cx} {K : PySem.W.Frag}
theorem pe_fldK {e : Expr} {f : Str} {pos : Pos} {ta : TE} (he : PE X e ta) (hK : X.K = K := by rfl) (hb : attributeBase e f X.env (eval e X.env) = eval e X.env := by rfl) : PE X (.Attribute e f pos) (tFld K ta f) := by
  subst hK
  exact pe_fld he hb
theorem ix_listK (hK : X.K = K := by rfl) : IxR X (rIxL K) := by
  subst hK
  exact ix_list
theorem ix_tupK (hK : X.K = K := by rfl) : IxR X (rIxT K) := by
  subst hK
  exact ix_tup
def rLenK (K : PySem.W.Frag) : List V → Hp → VK → Prop := fun xs H Q => ∃ p ys, xs = [.ref p] ∧ (SqL K H p ys ∨ SqT K H p ys) ∧ Q (.int ys.length) H
theorem call_lenK (hK : X.K = K := by rfl) : CallR X (.builtin "len") (rLenK K) := by
  subst hK
  exact call_len_seq
theorem pg_tupK {es : List Expr} {k : Nat} {t : TGs} {n : Nat} {pos : Pos} (hc : X.calm = true) (h : PGs X es t) (hK : X.K = K := by rfl)
    (hn : (assignEach es X.env).length = n := by rfl) (hst : (assignEach es X.env).findIdx? (·.1) = none := by rfl) : PG X (.Tuple es k pos) (gTup K n t) := by
  subst hK
  exact pg_tup hc h hn hst
end
end My
namespace My
open PySem PySem.Spec PyProof.Rows L2
def top (i : Nat) : Stmt := PySem.Challenge.pw_metronet_k17_numbers_that_are_taken.main.body.getD i (.Pass ⟨0, 0, 0, 0⟩)
abbrev sDraw : Stmt := top 4 /-_law_draw-/
abbrev sCell : Stmt := top 5 /-_law_cell-/
/-- the built-in names that the module leaves -/
structure Blt (mg : Str → Option Value) : Prop where
  range : mg "range" = none
  len : mg "len" = none
  int : mg "int" = none
  list : mg "list" = none
  enum : mg "enumerate" = none
section
variable {P : Program} {w : World} {K : PySem.W.Frag} {mg : Str → Option Value} {base : Heap}
/-! ### _law_draw -/
theorem scDraw : FnScope ["cell", "many", "bound", "numbers", "k", "seed", "mixed"] ["cell", "many", "bound"] (defScope sDraw) := ⟨rfl, rfl, rfl, by decide +kernel, rfl, by decide +kernel, by decide +kernel⟩
def spDraw : Sp := fun vs H Q _ => ∃ (c b : Int) (m : Nat), vs = [.int c, .int (m : Int), .int b] ∧ m ≤ 1000 ∧ 0 < b ∧ b < 2 ^ 64 ∧
  ∀ (H' : Hp) (p : Addr) (ns : List Int), Same H H' → H p = none → H' p = some (.lst (ns.map V.int)) → ns.length = m → (∀ x ∈ ns, 0 ≤ x ∧ x < b) → Q (.ref p) H'
theorem ok_draw {f : Addr} {fd : FuncData} {k : Nat} (F : Fun K "_law_draw" "_law_draw" sDraw f fd) (T : Blt mg) : FnOk P w K mg base CX0 (k + 1) f fd ["cell", "many", "bound"] spDraw := by
  refine F.ok scDraw (fun vs H Q E h => ?_) (fun cdv A outer s H vs Q E hr h => ?_)
  · obtain ⟨c, b, m, rfl, _⟩ := h
    rfl
  · obtain ⟨c, b, m, rfl, hm, hb0, hb1, q⟩ := h
    have nd := scDraw.nd
    refine ⟨_, pss_cons (ps_set (i := 3) nd rfl (.inl rfl) (pe_lst pa_nil))
      (pss_cons (ps_if (pt_cmpR op_ge (pv 0) (pe_op op_pow pe_int pe_int) (nomark _))
        (pss_cons (ps_for PassesOwn.never rfl (pi_range1 (by rfl) T.range (pa_cons (pv 1) pa_nil)) (pg_name (i := 4) nd rfl (.inl rfl))
          (pss_cons (ps_expr (pe_bm PySem.F.plainAttrs_list PySem.F.slot_list_append PySem.F.type_list_append mt_append (pv 3)
              (pa_cons (pe_op op_mod (pe_callTy call_int1 (by rfl) T.int (by decide +kernel) (pa_cons (pv 0) pa_nil)) (pv 2)) pa_nil)))
          (pss_one (ps_set (i := 0) nd rfl (.inl rfl) (pe_op op_fdivW (pv 0) (pv 2))))))
        (pss_one (ps_ret (pv 3)))) pss_nil)
      (pss_cons (ps_set (i := 5) nd rfl (.inl rfl) (pe_op op_mod (pe_callTy call_int1 (by rfl) T.int (by decide +kernel) (pa_cons (pv 0) pa_nil)) pe_int))
      (pss_cons (ps_for PassesOwn.never rfl (pi_range1 (by rfl) T.range (pa_cons (pv 1) pa_nil)) (pg_name (i := 4) nd rfl (.inl rfl))
          (pss_cons (ps_set (i := 5) nd rfl (.inl rfl) (pe_op op_mod (pe_callTy call_int1 (by rfl) T.int (by decide +kernel)
              (pa_cons (pe_op op_add (pe_op op_add (pe_op op_mul (pv 5) pe_int) pe_int) (pv 4)) pa_nil)) pe_int))
          (pss_cons (ps_set (i := 6) nd rfl (.inl rfl) (pe_op op_mod (pe_callTy call_int1 (by rfl) T.int (by decide +kernel)
              (pa_cons (pe_op op_add (pe_op op_mul (pv 5) pe_int) (pe_op op_mul pe_int (pv 4))) pa_nil)) pe_int))
          (pss_one (ps_expr (pe_bm PySem.F.plainAttrs_list PySem.F.slot_list_append PySem.F.type_list_append mt_append (pv 3)
              (pa_cons (pe_op op_mod (pe_callTy call_int1 (by rfl) T.int (by decide +kernel) (pa_cons (pe_op op_fdiv (pv 6) pe_int) pa_nil)) (pv 2)) pa_nil)))))))
      (pss_one (ps_ret (pv 3)))))), ?_⟩
    -- numbers = []
    refine ⟨Nat.zero_le _, fun p np => ?_⟩
    have s1 : Same H (upd H p (.lst [])) := same_new np
    -- cell >= 10 ** 18
    refine ⟨_, rfl, _, _, rfl, rfl, ⟨by decide, by decide, by decide⟩, _, _, rfl, rfl, _, rfl, ite2 (fun _ => ?_) (fun _ => ?_)⟩
    · refine ⟨_, rfl, (m : Int), rfl, by omega, by omega, for_range (n := m) (fun i σ H' => ∃ (c' : Int) (ns : List Int) (v4 v5 v6 : Option V), σ = [some (.int c'), some (.int m), some (.int b), some (.ref p), v4, v5, v6] ∧
        Same H H' ∧ H' p = some (.lst (ns.map V.int)) ∧ ns.length = i ∧ ∀ x ∈ ns, 0 ≤ x ∧ x < b) ⟨c, [], none, none, none, rfl, s1, upd_same, rfl, fun x hx => by cases hx⟩ ?_ ?_⟩
      · rintro i σ H' hi ⟨c', ns, v4, v5, v6, rfl, sm, hp, hl, hx⟩
        refine ⟨_, rfl, .inl ⟨rfl, _, SqL.of hp⟩, _, rfl, .inl ⟨_, rfl, _, rfl, _, _, rfl, rfl, hb0, ?_⟩⟩
        refine ⟨p, _, _, rfl, rfl, hp, by rw [List.length_map]; exact small1000 (by omega), ?_⟩
        refine ⟨_, rfl, _, rfl, _, _, rfl, rfl, wide_div (b := 64) hb0 (by omega) (by decide) (by decide), ?_⟩
        refine ⟨c' / b, ns ++ [c' % b], _, v5, v6, rfl, same_mut sm np, ?_, by rw [List.length_append, hl]; rfl, ?_⟩
        · rw [upd_same, List.map_append]; rfl
        · intro x hm
          rcases List.mem_append.mp hm with h1 | h1
          · exact hx x h1
          · rw [List.mem_singleton.mp h1]
            exact ⟨Int.emod_nonneg _ (by omega), Int.emod_lt_of_pos _ hb0⟩
      · rintro σ H' ⟨c', ns, v4, v5, v6, rfl, sm, hp, hl, hx⟩
        exact ⟨_, rfl, q H' p ns sm np hp hl hx⟩
    · refine ⟨_, rfl, .inl ⟨_, rfl, _, _, rfl, rfl, (by show (0 : Int) < 2147483647; decide), ?_⟩⟩
      refine ⟨_, rfl, (m : Int), rfl, by omega, by omega, for_range (n := m) (fun i σ H' => ∃ (c' sd : Int) (ns : List Int) (v4 v6 : Option V), σ = [some (.int c'), some (.int m), some (.int b), some (.ref p), v4, some (.int sd), v6] ∧
        0 ≤ sd ∧ sd < 2147483647 ∧ Same H H' ∧ H' p = some (.lst (ns.map V.int)) ∧ ns.length = i ∧ ∀ x ∈ ns, 0 ≤ x ∧ x < b)
        ⟨c, c % 2147483647, [], none, none, rfl, Int.emod_nonneg _ (by decide), Int.emod_lt_of_pos _ (by decide), s1, upd_same, rfl, fun x hx => by cases hx⟩ ?_ ?_⟩
      · rintro i σ H' hi ⟨c', sd, ns, v4, v6, rfl, d0, d1, sm, hp, hl, hx⟩
        refine ⟨_, rfl, _, _, rfl, rfl, .inl ⟨by omega, by omega⟩, _, _, rfl, rfl, _, rfl, _, _, rfl, rfl, .inl ⟨_, rfl, _, _, rfl, rfl, (by show (0 : Int) < 2147483647; decide), ?_⟩⟩
        have e0 : 0 ≤ (sd * 48271 + 12345 + (0 + (i : Int))) % 2147483647 := Int.emod_nonneg _ (by decide)
        have e1 : (sd * 48271 + 12345 + (0 + (i : Int))) % 2147483647 < 2147483647 := Int.emod_lt_of_pos _ (by decide)
        refine ⟨_, rfl, _, _, rfl, rfl, .inl ⟨by omega, by omega⟩, _, rfl, _, _, rfl, rfl, .inl ⟨by decide, by decide⟩, _, _, rfl, rfl, .inl ⟨_, rfl, _, _, rfl, rfl, (by show (0 : Int) < 2147483629; decide), ?_⟩⟩
        refine ⟨_, rfl, .inl ⟨rfl, _, SqL.of hp⟩, _, rfl, _, _, rfl, rfl, ⟨by decide, by decide⟩, .inl ⟨_, rfl, _, rfl, _, _, rfl, rfl, hb0, ?_⟩⟩
        refine ⟨p, _, _, rfl, rfl, hp, by rw [List.length_map]; exact small1000 (by omega), ?_⟩
        refine ⟨c', _, ns ++ [((sd * 48271 + 12345 + (0 + (i : Int))) % 2147483647 * 69621 + 977 * (0 + (i : Int))) % 2147483629 / 3 % b], _, _, rfl, e0, e1, same_mut sm np, ?_, by rw [List.length_append, hl]; rfl, ?_⟩
        · rw [upd_same, List.map_append]; rfl
        · intro x hm
          rcases List.mem_append.mp hm with h1 | h1
          · exact hx x h1
          · rw [List.mem_singleton.mp h1]
            exact ⟨Int.emod_nonneg _ (by omega), Int.emod_lt_of_pos _ hb0⟩
      · rintro σ H' ⟨c', sd, ns, v4, v6, rfl, d0, d1, sm, hp, hl, hx⟩
        exact ⟨_, rfl, q H' p ns sm np hp hl hx⟩
/-! ### _law_cell -/
theorem scCell : FnScope ["script", "k"] ["script", "k"] (defScope sCell) := ⟨rfl, rfl, rfl, by decide +kernel, rfl, by decide +kernel, by decide +kernel⟩
def spCell (K : PySem.W.Frag) : Sp := fun vs H Q _ => ∃ (a : Addr) (ns : List Int) (j : Nat), vs = [.ref a, .int (j : Int)] ∧ SqL K H a (ns.map V.int) ∧ Q (.int (ns.getD j 0)) H
theorem ok_cell {f : Addr} {fd : FuncData} {k : Nat} (F : Fun K "_law_cell" "_law_cell" sCell f fd) (T : Blt mg) : FnOk P w K mg base CX0 (k + 1) f fd ["script", "k"] (spCell K) := by
  refine F.ok scCell (fun vs H Q E h => ?_) (fun cdv A outer s H vs Q E hr h => ?_)
  · obtain ⟨a, ns, j, rfl, _⟩ := h
    rfl
  · obtain ⟨a, ns, j, rfl, hS, q⟩ := h
    refine ⟨_, pss_cons (ps_if (pt_cmpR op_lt (pv 1) (pe_callB call_len_seq (by rfl) T.len PySem.boot_len (pa_cons (pv 0) pa_nil)) (nomark _))
        (pss_one (ps_ret (pe_ix ix_list (pv 0) (pv 1) (fun _ _ => rfl)))) pss_nil) (pss_one (ps_ret pe_int)), ?_⟩
    refine ⟨_, rfl, _, rfl, a, _, rfl, .inl hS, _, _, rfl, rfl, _, rfl, ite2 (fun e => ?_) (fun e => ?_)⟩
    · have hj : j < ns.length := by
        have := of_decide_eq_true e
        rw [List.length_map] at this
        omega
      refine ⟨_, rfl, _, rfl, a, _, _, _, rfl, rfl, hS, atI_int hj, ?_⟩
      rw [List.getD_eq_getElem?_getD, List.getElem?_eq_getElem hj] at q
      exact q
    · have hj : ns.length ≤ j := by
        rcases Nat.lt_or_ge j ns.length with h | h
        · exact absurd (decide_eq_true (by rw [List.length_map]; omega)) e
        · exact h
      rw [List.getD_eq_getElem?_getD, List.getElem?_eq_none hj] at q
      exact q
/-- what a def's caller knows of it -/
structure Callee (P : Program) (w : World) (K : PySem.W.Frag) (mg : Str → Option Value) (base : Heap) (k : Nat) (x : Str) (ps : List Str) (sp : Sp) (f : Addr) (fd : FuncData) : Prop where
  ok : FnOk P w K mg base CX0 k f fd ps sp
  mg : mg x = some (.ref f)
  kp : PySem.W.keepIn K (.ref f) = true
  b : Binds K fd ps []
end
end My
/-! An eliminator as data, and what it has taken. -/
namespace My
open PySem PySem.Spec PyProof.Rows L2
structure El where
  sz : Nat
  top : Option Int
  tk : List (Option Int)
def oV : Option Int → V
  | none => .non
  | some n => .int n
def aheadC (n t : Int) : Int := (n - t + 32768) % 65536 - 32768
theorem ahead0 (n : Int) : aheadC n n = 0 := by
  unfold aheadC
  omega
def ixC (sz : Nat) (c : Int) : Nat := (c % (sz : Int)).toNat
theorem ixC_lt {sz : Nat} (h : 1 ≤ sz) (c : Int) : ixC sz c < sz := by
  unfold ixC
  have := Int.emod_lt_of_pos c (show (0 : Int) < (sz : Int) by omega)
  have := Int.emod_nonneg c (show (sz : Int) ≠ 0 by omega)
  omega
theorem ixC_int {sz : Nat} (h : 1 ≤ sz) (c : Int) : ((ixC sz c : Nat) : Int) = c % (sz : Int) := by
  unfold ixC
  have := Int.emod_nonneg c (show (sz : Int) ≠ 0 by omega)
  omega
def elHit (E : El) (n : Int) : Bool := decide (aheadC n (E.top.getD n) ≤ -(E.sz : Int)) || decide (E.tk.getD (ixC E.sz (E.top.getD n + aheadC n (E.top.getD n))) none = some (E.top.getD n + aheadC n (E.top.getD n)))
def elNew (E : El) (n : Int) : El := if elHit E n = true then ⟨E.sz, some (E.top.getD n), E.tk⟩ else ⟨E.sz, some (max (E.top.getD n) (E.top.getD n + aheadC n (E.top.getD n))), E.tk.set (ixC E.sz (E.top.getD n + aheadC n (E.top.getD n))) (some (E.top.getD n + aheadC n (E.top.getD n)))⟩
/-- an eliminator that has taken the numbers of L (counted on) -/
structure ElOk (E : El) (L : List Int) : Prop where
  s1 : 1 ≤ E.sz
  len : E.tk.length = E.sz
  emp : E.top = none → L = [] ∧ ∀ i, E.tk.getD i none = none
  top : ∀ t, E.top = some t → t ∈ L ∧ ∀ x ∈ L, x ≤ t
  hold : ∀ i x, E.tk.getD i none = some x → x ∈ L ∧ ixC E.sz x = i
  inn : ∀ t, E.top = some t → ∀ x ∈ L, t - (E.sz : Int) < x → E.tk.getD (ixC E.sz x) none = some x
theorem el0 {sz : Nat} (h : 1 ≤ sz) : ElOk ⟨sz, none, List.replicate sz none⟩ [] := by
  have e : ∀ i, (List.replicate sz (none : Option Int)).getD i none = none := fun i => by
    by_cases z : i < sz
    · rw [List.getD_eq_getElem?_getD, List.getElem?_replicate, if_pos z]
      rfl
    · rw [List.getD_eq_getElem?_getD, List.getElem?_replicate, if_neg z]
      rfl
  refine ⟨h, List.length_replicate, fun _ => ⟨rfl, e⟩, (fun t z => by cases z), fun i x z => ?_, (fun t z => by cases z)⟩
  have z : (List.replicate sz (none : Option Int)).getD i none = some x := z
  rw [e] at z
  cases z
theorem getD_set {l : List (Option Int)} {i j : Nat} {v : Option Int} (h : i < l.length) : (l.set i v).getD j none = if i = j then v else l.getD j none := by
  rw [List.getD_eq_getElem?_getD, List.getElem?_set]
  split
  · rename_i e
    subst e
    first | rfl | (rw [if_pos h]; rfl) | simp [h]
  · rw [← List.getD_eq_getElem?_getD]
theorem mod_close {a b s : Int} (h0 : 0 < s) (e : a % s = b % s) (h1 : a - b < s) (h2 : b - a < s) : a = b := by
  have h := Int.emod_emod_of_dvd a (Int.dvd_refl s)
  have d : (a - b) % s = 0 := by rw [Int.sub_emod, e, Int.sub_self, Int.zero_emod]
  by_cases c : 0 ≤ a - b
  · rw [Int.emod_eq_of_lt c h1] at d
    omega
  · have d2 : (b - a) % s = 0 := by rw [Int.sub_emod, e, Int.sub_self, Int.zero_emod]
    rw [Int.emod_eq_of_lt (by omega) h2] at d2
    omega
/-- what a number does: it is dropped exactly if it is too old or was taken -/
theorem el_step {E : El} {L : List Int} (h : ElOk E L) {n t : Int} (ht : E.top = some t) : elHit E n = (decide (aheadC n t ≤ -(E.sz : Int)) || decide (t + aheadC n t ∈ L)) ∧ ElOk (elNew E n) (if elHit E n = true then L else L ++ [t + aheadC n t]) := by
  have eg : E.top.getD n = t := by rw [ht]; rfl
  have hs := h.s1
  have hit : elHit E n = (decide (aheadC n t ≤ -(E.sz : Int)) || decide (t + aheadC n t ∈ L)) := by
    unfold elHit
    rw [eg]
    by_cases a : aheadC n t ≤ -(E.sz : Int)
    · rw [decide_eq_true a, Bool.true_or, Bool.true_or]
    · rw [decide_eq_false a, Bool.false_or, Bool.false_or, decide_eq_decide]
      constructor
      · intro z
        exact (h.hold _ _ z).1
      · intro z
        exact h.inn t ht _ z (by omega)
  refine ⟨hit, ?_⟩
  unfold elNew
  rw [eg]
  by_cases b : elHit E n = true
  · rw [if_pos b, if_pos b]
    exact ⟨hs, h.len, (fun z => by cases z), fun t' z => by cases z; exact h.top t ht, h.hold, fun t' z => by cases z; exact h.inn t ht⟩
  · rw [if_neg b, if_neg b]
    rw [hit, Bool.or_eq_true, decide_eq_true_eq, decide_eq_true_eq] at b
    have ba : ¬ aheadC n t ≤ -(E.sz : Int) := fun z => b (.inl z)
    have bb : ¬ t + aheadC n t ∈ L := fun z => b (.inr z)
    generalize hc : t + aheadC n t = c at *
    have hi := ixC_lt hs c
    obtain ⟨tm, tl⟩ := h.top t ht
    have gs : ∀ j, (E.tk.set (ixC E.sz c) (some c)).getD j none = if ixC E.sz c = j then some c else E.tk.getD j none := fun j => getD_set (by rw [h.len]; exact hi)
    refine ⟨hs, by show (E.tk.set _ _).length = _; rw [List.length_set]; exact h.len, (fun z => by cases z), fun t' z => ?_, fun i x z => ?_, fun t' z x hx hl => ?_⟩
    · cases z
      refine ⟨?_, fun x hx => ?_⟩
      · by_cases q : t ≤ c
        · rw [Int.max_eq_right q]
          exact List.mem_append_right _ List.mem_cons_self
        · rw [Int.max_eq_left (by omega)]
          exact List.mem_append_left _ tm
      · rcases List.mem_append.mp hx with hx | hx
        · have := tl x hx
          omega
        · cases List.mem_singleton.mp hx
          omega
    · have z : (E.tk.set (ixC E.sz c) (some c)).getD i none = some x := z
      rw [gs] at z
      split at z
      · rename_i e
        cases z
        exact ⟨List.mem_append_right _ List.mem_cons_self, e⟩
      · exact ⟨List.mem_append_left _ (h.hold i x z).1, (h.hold i x z).2⟩
    · have hl : t' - (E.sz : Int) < x := hl
      cases z
      show (E.tk.set (ixC E.sz c) (some c)).getD (ixC E.sz x) none = some x
      rw [gs]
      split
      · rename_i e
        rcases List.mem_append.mp hx with hx | hx
        · have e2 : c % (E.sz : Int) = x % (E.sz : Int) := by rw [← ixC_int hs, ← ixC_int hs, e]
          have := tl x hx
          rw [mod_close (by omega) e2 (by omega) (by omega)]
        · rw [List.mem_singleton.mp hx]
      · rename_i e
        rcases List.mem_append.mp hx with hx | hx
        · exact h.inn t ht x hx (by omega)
        · exact absurd (by rw [List.mem_singleton.mp hx]) e
theorem el_first {E : El} {L : List Int} (h : ElOk E L) {n : Int} (ht : E.top = none) : elHit E n = false ∧ ElOk (elNew E n) [n] ∧ (elNew E n).top = some n := by
  obtain ⟨rfl, hn⟩ := h.emp ht
  have hs := h.s1
  have eg : E.top.getD n = n := by rw [ht]; rfl
  have hit : elHit E n = false := by
    unfold elHit
    rw [eg, ahead0, hn, decide_eq_false (show ¬ (0 : Int) ≤ -(E.sz : Int) by omega), decide_eq_false (by intro z; cases z)]
    rfl
  have hi := ixC_lt hs n
  have gs : ∀ j, (E.tk.set (ixC E.sz n) (some n)).getD j none = if ixC E.sz n = j then some n else E.tk.getD j none := fun j => getD_set (by rw [h.len]; exact hi)
  have en : elNew E n = ⟨E.sz, some n, E.tk.set (ixC E.sz n) (some n)⟩ := by
    unfold elNew
    rw [if_neg (by rw [hit]; exact Bool.false_ne_true), eg, ahead0, Int.add_zero, Int.max_eq_left (Int.le_refl _)]
  rw [en]
  refine ⟨hit, ⟨hs, by show (E.tk.set _ _).length = _; rw [List.length_set]; exact h.len, (fun z => by cases z), fun t' z => ?_, fun i x z => ?_, fun t' z x hx hl => ?_⟩, rfl⟩
  · cases z
    exact ⟨List.mem_cons_self, fun x hx => by rw [List.mem_singleton.mp hx]; exact Int.le_refl _⟩
  · have z : (E.tk.set (ixC E.sz n) (some n)).getD i none = some x := z
    rw [gs] at z
    split at z
    · rename_i e
      cases z
      exact ⟨List.mem_cons_self, e⟩
    · rw [hn] at z
      cases z
  · show (E.tk.set (ixC E.sz n) (some n)).getD (ixC E.sz x) none = some x
    rw [gs, List.mem_singleton.mp hx, if_pos rfl]
theorem elNew_top {E : El} {n t : Int} (ht : E.top = some t) : (elNew E n).top = some (if elHit E n = true then t else max t (t + aheadC n t)) := by
  have eg : E.top.getD n = t := by rw [ht]; rfl
  unfold elNew
  rw [eg]
  split <;> rfl
theorem elNew_sz {E : El} {n : Int} : (elNew E n).sz = E.sz := by
  unfold elNew
  split <;> rfl
end My
namespace My
open PySem PySem.Spec PyProof.Rows L2
abbrev sElim : Stmt := top 2 /-Eliminator-/
abbrev sEInit : Stmt := inClass sElim 0 /-Eliminator.__init__-/
abbrev sTake : Stmt := inClass sElim 1 /-Eliminator.take-/
abbrev ButH (p : Addr) (H H' : Hp) : Prop := ∀ b o, H b = some o → b ≠ p → H' b = some o
theorem stepNewH {H : Hp} {p a : Addr} {o v u : HO} (hp : H p = some v) (na : H a = none) : ButH p H (upd (upd H a o) p u) ∧ (upd (upd H a o) p u) p = some u ∧ (upd (upd H a o) p u) a = some o ∧ a ≠ p := by
  have n : a ≠ p := fun z => by rw [z, hp] at na; cases na
  refine ⟨fun b w h nb => ?_, upd_same, ?_, n⟩
  · rw [upd_ne nb, upd_ne (ne_of_none h na)]
    exact h
  · rw [upd_ne n, upd_same]
theorem putF_new {f : Str} {v : V} : ∀ {fs : List (Str × V)}, fs.lookup f = none → putF f v fs = fs ++ [(f, v)]
  | [], _ => rfl
  | (g, x) :: r, h => by
    have e : (f == g) = false := by
      cases q : f == g with
      | false => rfl
      | true => rw [List.lookup_cons, q] at h; cases h
    rw [List.lookup_cons, e] at h
    have ne : ¬ g = f := fun z => by rw [z] at e; simp at e
    show (if g = f then (g, v) :: r else (g, x) :: putF f v r) = _
    rw [if_neg ne, putF_new h]
    rfl
theorem or_read2 {t u : TT} {σ : L2.St} {H : Hp} {Q : Bool → Hp → Prop} {a b : Bool} (ht : ∀ Q : Bool → Hp → Prop, (∀ H1, Same H H1 → Q a H1) → t σ H Q) (hu : ∀ H1, Same H H1 → ∀ Q : Bool → Hp → Prop, (∀ H2, Same H1 H2 → Q b H2) → u σ H1 Q) (h : ∀ H1, Same H H1 → Q (a || b) H1) : tOr t u σ H Q := by
  refine ht _ fun H1 s1 => ?_
  cases a with
  | true => exact h H1 s1
  | false => exact hu H1 s1 _ fun H2 s2 => h H2 (s1.trans s2)
theorem and_read2 {t u : TT} {σ : L2.St} {H : Hp} {Q : Bool → Hp → Prop} {a b : Bool} (ht : ∀ Q : Bool → Hp → Prop, (∀ H1, Same H H1 → Q a H1) → t σ H Q) (hu : a = true → ∀ H1, Same H H1 → ∀ Q : Bool → Hp → Prop, (∀ H2, Same H1 H2 → Q b H2) → u σ H1 Q) (h : ∀ H1, Same H H1 → Q (a && b) H1) : tAnd t u σ H Q := by
  refine ht _ fun H1 s1 => ?_
  cases a with
  | true => exact hu rfl H1 s1 _ fun H2 s2 => h H2 (s1.trans s2)
  | false => exact h H1 s1
def elF (sz : Nat) (top : V) (tk : Addr) : List (Str × V) := [(("size" : Str), .int (sz : Int)), ("top", top), ("taken", .ref tk)]
theorem ef1 {sz : Nat} : putF "size" (.int (sz : Int)) [] = [(("size" : Str), V.int (sz : Int))] := rfl
theorem ef2 {sz : Nat} {v : V} : putF "top" v [(("size" : Str), V.int (sz : Int))] = [(("size" : Str), V.int (sz : Int)), ("top", v)] := putF_new rfl
theorem ef3 {sz : Nat} {v : V} {tk : Addr} : putF "taken" (.ref tk) [(("size" : Str), V.int (sz : Int)), ("top", v)] = elF sz v tk := putF_new rfl
theorem ef4 {sz : Nat} {v u : V} {tk : Addr} : putF "top" u (elF sz v tk) = elF sz u tk := rfl
theorem ixN_at {n j : Nat} (hj : j < n) : ixN n (j : Int) = some j := by
  unfold ixN
  rw [if_pos (by omega), if_pos (by omega)]
  simp
theorem oV_eq (x : Option Int) (c : Int) : decide (oV x = V.int c) = decide (x = some c) := by
  rw [decide_eq_decide]
  cases x with
  | none => exact ⟨(fun z => by cases z), (fun z => by cases z)⟩
  | some y => exact ⟨(fun z => by cases z; rfl), (fun z => by cases z; rfl)⟩
theorem atO {l : List (Option Int)} {i : Nat} (h : i < l.length) : (l.map oV)[i]? = some (oV (l.getD i none)) := by
  rw [List.getElem?_map, List.getD_eq_getElem?_getD, List.getElem?_eq_getElem h]
  rfl
section
variable {sz : Nat} {v : V} {tk : Addr}
theorem eg1 : (elF sz v tk).lookup ("size" : Str) = some (.int (sz : Int)) := rfl
theorem eg2 : (elF sz v tk).lookup ("top" : Str) = some v := rfl
theorem eg3 : (elF sz v tk).lookup ("taken" : Str) = some (.ref tk) := rfl
theorem em1 : (elF sz v tk).lookup ("take" : Str) = none := rfl
end
structure ElC (K : PySem.W.Frag) (C : Addr) : Prop where
  cl : Cls K C
  n1 : NoAttr K C "size"
  n2 : NoAttr K C "top"
  n3 : NoAttr K C "taken"
/-- an eliminator stands at p, its list at tk -/
def ElAt (C : Addr) (H : Hp) (p tk : Addr) (E : El) : Prop := ∃ dx, H p = some (.ins C dx (elF E.sz (oV E.top) tk)) ∧ H tk = some (.lst (E.tk.map oV))
section
variable {P : Program} {w : World} {K : PySem.W.Frag} {mg : Str → Option Value} {base : Heap}
theorem scEInit : FnScope ["self", "size"] ["self", "size"] (defScope sEInit) := ⟨rfl, rfl, rfl, by decide +kernel, rfl, by decide +kernel, by decide +kernel⟩
def spEInit (C : Addr) : Sp := fun vs H Q _ => ∃ (p dx : Addr) (sz : Nat), vs = [.ref p, .int (sz : Int)] ∧ sz ≤ 1000 ∧ H p = some (.ins C dx []) ∧
  ∀ (H' : Hp) (tk : Addr), ButH p H H' → H tk = none → H' p = some (.ins C dx (elF sz .non tk)) → H' tk = some (.lst (List.replicate sz V.non)) → Q .non H'
theorem ok_einit {f C : Addr} {fd : FuncData} {k : Nat} (F : Fun K "__init__" "Eliminator.__init__" sEInit f fd) (c : ElC K C) : FnOk P w K mg base CX0 (k + 1) f fd ["self", "size"] (spEInit C) := by
  refine F.ok scEInit (fun vs H Q E h => ?_) (fun cdv A0 outer s0 H vs Q E hr h => ?_)
  · obtain ⟨p, dx, sz, rfl, _⟩ := h
    rfl
  · obtain ⟨p, dx, sz, rfl, hsz, hp, q⟩ := h
    have nd := scEInit.nd
    refine ⟨_, PSs.nox (pss_cons (ps_fld (pv 0) (pv 1) rfl) <| pss_cons (ps_fld (pv 0) pe_non rfl) <| pss_one (ps_fld (pv 0) (pe_op op_rep (pe_lst (pa_cons pe_non pa_nil)) (pv 1)) rfl)), ?_⟩
    refine ⟨_, rfl, _, rfl, p, C, dx, [], rfl, hp, c.cl, c.n1, (by show 0 < 1000; decide), ?_⟩
    refine ⟨_, rfl, p, C, dx, _, rfl, upd_same, c.cl, c.n2, (by rw [ef1]; show 1 < 1000; decide), ?_⟩
    rw [ef1, ef2]
    refine ⟨by show 1 ≤ sizeLine; decide, fun y ny => ?_⟩
    have p2 : (upd (upd H p (.ins C dx [(("size" : Str), V.int (sz : Int))])) p (.ins C dx [(("size" : Str), V.int (sz : Int)), ("top", V.non)])) p = some (.ins C dx [(("size" : Str), V.int (sz : Int)), ("top", V.non)]) := upd_same
    have b2 : ButH p H (upd (upd H p (.ins C dx [(("size" : Str), V.int (sz : Int))])) p (.ins C dx [(("size" : Str), V.int (sz : Int)), ("top", V.non)])) := fun b o z n => by rw [upd_ne n, upd_ne n]; exact z
    revert p2 b2 ny
    generalize (upd (upd H p (.ins C dx [(("size" : Str), V.int (sz : Int))])) p (.ins C dx [(("size" : Str), V.int (sz : Int)), ("top", V.non)])) = H2
    intro ny p2 b2
    have sy := same_new (o := .lst [V.non]) ny
    refine ⟨_, rfl, y, _, _, rfl, rfl, upd_same, by omega, by omega, (by show 1 * (sz : Int).toNat ≤ sizeLine; rw [Nat.one_mul, Int.toNat_natCast]; exact Nat.le_of_lt (small1000 hsz)), fun tk ntk => ?_⟩
    have e : (List.replicate (sz : Int).toNat [V.non]).flatten = List.replicate sz V.non := by
      rw [Int.toNat_natCast]
      clear q hsz p2 b2 sy ntk ny
      induction sz with
      | zero => rfl
      | succ n ih => exact congrArg (V.non :: ·) ih
    rw [e]
    obtain ⟨b3, p3, t3, n3⟩ := stepNewH (o := .lst (List.replicate sz V.non)) (u := .ins C dx (elF sz .non tk)) (sy _ _ p2) ntk
    refine ⟨_, rfl, p, C, dx, _, rfl, (by rw [upd_ne n3.symm]; exact sy _ _ p2), c.cl, c.n3, (by show 2 < 1000; decide), ?_⟩
    rw [ef3]
    refine q _ tk (fun b o z n => b3 b o (sy _ _ (b2 _ _ z n)) n) ?_ p3 t3
    cases z : H tk with
    | none => rfl
    | some o =>
      by_cases n : tk = p
      · exact absurd n n3
      · rw [sy _ _ (b2 _ _ z n)] at ntk
        cases ntk
theorem scTake : FnScope ["self", "number", "ahead", "counted", "place"] ["self", "number"] (defScope sTake) := ⟨rfl, rfl, rfl, by decide +kernel, rfl, by decide +kernel, by decide +kernel⟩
def spTake (C : Addr) : Sp := fun vs H Q _ => ∃ (p dx tk : Addr) (n : Int) (E : El), vs = [.ref p, .int n] ∧ H p = some (.ins C dx (elF E.sz (oV E.top) tk)) ∧ H tk = some (.lst (E.tk.map oV)) ∧ E.tk.length = E.sz ∧ 1 ≤ E.sz ∧
  ∀ (H' : Hp), (∀ b o, H b = some o → b ≠ p → b ≠ tk → H' b = some o) → H' p = some (.ins C dx (elF E.sz (oV (elNew E n).top) tk)) → H' tk = some (.lst ((elNew E n).tk.map oV)) → Q (.bl (!elHit E n)) H'
theorem ok_take {f C : Addr} {fd : FuncData} {k : Nat} {tN : Tok} (F : Fun K "take" "Eliminator.take" sTake f fd) (c : ElC K C) (hN : mg "NUMBERS" = some (.int 65536 tN)) (hmax : mg "max" = none) : FnOk P w K mg base CX0 (k + 1) f fd ["self", "number"] (spTake C) := by
  refine F.ok scTake (fun vs H Q E h => ?_) (fun cdv A0 outer s0 H vs Q E hr h => ?_)
  · obtain ⟨p, dx, tk, n, E, rfl, _⟩ := h
    rfl
  · obtain ⟨p, dx, tk, n, E, rfl, hp, ht, hl, h1, q⟩ := h
    have nd := scTake.nd
    refine ⟨_, C8.pss_cut (ps_if (pt_cmpR op_isN (pe_fld (pv 0) rfl) pe_non (nomark _)) (pss_one (ps_fld (pv 0) (pv 1) rfl)) (pss_nil)) <| pss_cons (ps_set (i := 2) nd rfl (.inl rfl) (pe_op op_sub (pe_op op_mod (pe_op op_add (pe_op op_sub (pv 1) (pe_fld (pv 0) rfl)) (pe_op op_fdiv (pe_glob (v := .int 65536) (by rfl) hN ⟨_, rfl⟩) pe_int)) (pe_glob (v := .int 65536) (by rfl) hN ⟨_, rfl⟩)) (pe_op op_fdiv (pe_glob (v := .int 65536) (by rfl) hN ⟨_, rfl⟩) pe_int))) <| pss_cons (ps_set (i := 3) nd rfl (.inl rfl) (pe_op op_add (pe_fld (pv 0) rfl) (pv 2))) <| pss_cons (ps_set (i := 4) nd rfl (.inl rfl) (pe_op op_mod (pv 3) (pe_fld (pv 0) rfl))) <| pss_cons (ps_if (PW.pt (pw_or (pt_cmpR op_le (pv 2) (pe_un un_neg (pe_fld (pv 0) rfl)) (nomark _)) (pw_or1 (pt_cmpR op_eq (pe_ix ix_list (pe_fld (pv 0) rfl) (pv 4) (fun _ _ => rfl)) (pv 3) (nomark _))))) (pss_one (ps_ret pe_bl)) (pss_nil)) <| pss_cons (ps_fld (pv 0) (pe_callB (call_max2 rfl) (by rfl) hmax (by decide +kernel) (pa_cons (pe_fld (pv 0) rfl) (pa_cons (pv 3) pa_nil))) rfl) <| pss_cons (ps_asg (pv 3) (pg_sub (pe_fld (pv 0) rfl) (pv 4) set_list)) <| pss_one (ps_ret pe_bl), ?_⟩
    refine ⟨fun σ H' => σ = [some (.ref p), some (.int n), none, none, none] ∧ ButH p H H' ∧ H' p = some (.ins C dx (elF E.sz (.int (E.top.getD n)) tk)), ?_, ?_⟩
    · cases et : E.top with
      | none =>
        rw [et] at hp
        refine ⟨_, rfl, p, C, dx, _, _, rfl, hp, c.cl, c.n2, eg2, rfl, _, rfl, ite2 (fun _ => ?_) (fun z => absurd (decide_eq_true rfl) z)⟩
        refine ⟨_, rfl, _, rfl, p, C, dx, _, rfl, hp, c.cl, c.n2, (by show 3 < 1000; decide), ?_⟩
        rw [ef4]
        exact ⟨rfl, fun b o z nb => by rw [upd_ne nb]; exact z, upd_same⟩
      | some t =>
        rw [et] at hp
        refine ⟨_, rfl, p, C, dx, _, _, rfl, hp, c.cl, c.n2, eg2, rfl, _, rfl, ite2 (fun z => absurd (of_decide_eq_true z) (by intro y; cases y)) (fun _ => ?_)⟩
        exact ⟨rfl, fun b o z nb => z, hp⟩
    · rintro σ H1 ⟨rfl, b1, p1⟩
      have ntp : tk ≠ p := fun z => by rw [z, hp] at ht; cases ht
      have ht1 := b1 _ _ ht ntp
      have m0 : (0 : Int) < 65536 := by decide
      refine ⟨_, rfl, _, rfl, p, C, dx, _, _, rfl, p1, c.cl, c.n2, eg2, _, _, rfl, rfl, _, _, rfl, rfl, ⟨by decide, by decide⟩, _, _, rfl, rfl, _, _, rfl, rfl, m0, _, _, rfl, rfl, ⟨by decide, by decide⟩, _, _, rfl, rfl, ?_⟩
      have ea : (n - E.top.getD n + 65536 / 2) % 65536 - 65536 / 2 = aheadC n (E.top.getD n) := by
        unfold aheadC
        omega
      dsimp only [gName, tSeq, tIfS]
      rw [ea]
      generalize hah : aheadC n (E.top.getD n) = ah
      generalize htt : E.top.getD n = t at *
      refine ⟨_, rfl, p, C, dx, _, _, rfl, p1, c.cl, c.n2, eg2, _, rfl, _, _, rfl, rfl, ?_⟩
      refine ⟨_, rfl, _, rfl, p, C, dx, _, _, rfl, p1, c.cl, c.n1, eg1, _, _, rfl, rfl, (by show (0 : Int) < (E.sz : Int); omega), ?_⟩
      have hi := ixC_lt h1 (t + ah)
      dsimp only [gName, tSeq, tIfS]
      rw [← ixC_int h1]
      refine or_read2 (a := decide (ah ≤ -(E.sz : Int))) (b := decide (E.tk.getD (ixC E.sz (t + ah)) none = some (t + ah))) (fun Q h => ?_) (fun H6 s7 Q h => ?_) (fun H6 s7 => ?_)
      · refine ⟨_, rfl, _, rfl, p, C, dx, _, _, rfl, p1, c.cl, c.n1, eg1, _, rfl, _, _, rfl, rfl, _, rfl, h _ (Same.refl _)⟩
      · refine ⟨_, rfl, p, C, dx, _, _, rfl, s7 _ _ p1, c.cl, c.n3, eg3, _, rfl, tk, _, _, oV (E.tk.getD (ixC E.sz (t + ah)) none), rfl, rfl, SqL.of (s7 _ _ ht1), ?_, _, rfl, ?_, _, rfl, ?_⟩
        · exact atI_nat (atO (by rw [hl]; exact hi))
        · cases E.tk.getD (ixC E.sz (t + ah)) none <;> rfl
        · rw [oV_eq]
          exact h _ (Same.refl _)
      · have p6 := s7 _ _ p1
        have t6 := s7 _ _ ht1
        have ent : elHit E n = (decide (ah ≤ -(E.sz : Int)) || decide (E.tk.getD (ixC E.sz (t + ah)) none = some (t + ah))) := by
          unfold elHit
          rw [htt, hah]
        rw [← ent]
        cases hh : elHit E n with
        | true =>
          refine iteT ?_
          have en : elNew E n = ⟨E.sz, some t, E.tk⟩ := by
            unfold elNew
            rw [if_pos hh, htt]
          rw [hh, en] at q
          exact q H6 (fun b o z n1 n2 => s7 _ _ (b1 _ _ z n1)) p6 t6
        | false =>
          have en : elNew E n = ⟨E.sz, some (max t (t + ah)), E.tk.set (ixC E.sz (t + ah)) (some (t + ah))⟩ := by
            unfold elNew
            rw [if_neg (by rw [hh]; exact Bool.false_ne_true), htt, hah]
          rw [hh, en] at q
          refine iteF ?_
          dsimp only [tNext, tSeq]
          refine ⟨_, rfl, p, C, dx, _, _, rfl, p6, c.cl, c.n2, eg2, _, rfl, _, _, rfl, ?_⟩
          rw [show (if t + ah > t then t + ah else t) = max t (t + ah) by rw [Int.max_def]; split <;> split <;> omega]
          refine ⟨_, rfl, p, C, dx, _, rfl, p6, c.cl, c.n2, (by show 3 < 1000; decide), ?_⟩
          rw [ef4]
          refine ⟨_, rfl, _, rfl, p, C, dx, _, _, rfl, upd_same, c.cl, c.n3, eg3, _, rfl, tk, _, _, _, rfl, rfl, (by rw [upd_ne ntp]; exact t6), ixN_at (by rw [List.length_map, hl]; exact hi), ?_⟩
          refine q _ (fun b o z n1 n2 => by rw [upd_ne n2, upd_ne n1]; exact s7 _ _ (b1 _ _ z n1)) (by rw [upd_ne ntp.symm]; exact upd_same) ?_
          rw [upd_same, List.map_set]
          rfl
end
end My
namespace My
open PySem PySem.Spec PyProof.Rows L2
abbrev sAhead : Stmt := top 6 /-_law_ahead-/
abbrev sLTake : Stmt := top 7 /-_law_take-/
/-- the law's dict: place and taken -/
def sd (pl : V) (tk : Addr) : List (Key × V) := [(.inr "place", pl), (.inr "taken", .ref tk)]
theorem sd1 {pl : V} {tk : Addr} : valV (sd pl tk) (.inr "place") = some pl := rfl
theorem sd2 {pl : V} {tk : Addr} : valV (sd pl tk) (.inr "taken") = some (.ref tk) := rfl
theorem sd3 {pl x : V} {tk : Addr} : putK (sd pl tk) (.inr "place") x = sd x tk := rfl
theorem sd4 {pl : V} {tk t2 : Addr} : putK (sd pl tk) (.inr "taken") (.ref t2) = sd pl t2 := rfl
theorem in_off (L : List Int) (c : Int) : inV (.int (100000 + c)) (L.map fun x => V.int (100000 + x)) = decide (c ∈ L) := by
  unfold inV
  rw [List.any_map]
  induction L with
  | nil => rfl
  | cons a r ih =>
    rw [List.any_cons, ih]
    by_cases e : c = a
    · subst e
      have : ((fun y => eqV y (V.int (100000 + c))) ∘ fun x => V.int (100000 + x)) c = true := by show decide (_ = _) = true; exact decide_eq_true rfl
      rw [this, Bool.true_or, decide_eq_true List.mem_cons_self]
    · have : ((fun y => eqV y (V.int (100000 + c))) ∘ fun x => V.int (100000 + x)) a = false := by
        show decide (_ = _) = false
        refine decide_eq_false fun z => e ?_
        have z : (100000 + a : Int) = 100000 + c := z
        omega
      rw [this, Bool.false_or, decide_eq_decide, List.mem_cons]
      exact ⟨.inr, fun h => h.elim (fun z => absurd z e) id⟩
theorem flat_off (L : List Int) : (L.map fun x => V.int (100000 + x)).all flatV = true := by
  rw [List.all_map]
  exact List.all_eq_true.mpr fun _ _ => rfl
theorem dg1 {H : Hp} {d tk : Addr} {pl : V} (h : H d = some (.dK (sd pl tk))) : DGet H d (.str "place") (some pl) := by
  have := DGet.k (k := .inr "place") h
  rw [sd1] at this
  exact this
theorem dg2 {H : Hp} {d tk : Addr} {pl : V} (h : H d = some (.dK (sd pl tk))) : DGet H d (.str "taken") (some (.ref tk)) := by
  have := DGet.k (k := .inr "taken") h
  rw [sd2] at this
  exact this
theorem dp1 {H : Hp} {d tk : Addr} {pl x : V} (h : H d = some (.dK (sd pl tk))) : DPut H d (.str "place") x (upd H d (.dK (sd x tk))) := by
  have := DPut.k (k := .inr "place") (v := x) h (by show 2 < sizeLine; decide)
  rw [sd3] at this
  exact this
theorem dp2 {H : Hp} {d tk t2 : Addr} {pl : V} (h : H d = some (.dK (sd pl tk))) : DPut H d (.str "taken") (.ref t2) (upd H d (.dK (sd pl t2))) := by
  have := DPut.k (k := .inr "taken") (v := .ref t2) h (by show 2 < sizeLine; decide)
  rw [sd4] at this
  exact this
section
variable {P : Program} {w : World} {K : PySem.W.Frag} {mg : Str → Option Value} {base : Heap}
theorem scAhead : FnScope ["number", "top", "ahead"] ["number", "top"] (defScope sAhead) := ⟨rfl, rfl, rfl, by decide +kernel, rfl, by decide +kernel, by decide +kernel⟩
def spAhead : Sp := fun vs H Q _ => ∃ n t : Int, vs = [.int n, .int t] ∧ Q (.int (aheadC n t)) H
theorem ok_ahead {f : Addr} {fd : FuncData} {k : Nat} (F : Fun K "_law_ahead" "_law_ahead" sAhead f fd) (T : Blt mg) : FnOk P w K mg base CX0 (k + 1) f fd ["number", "top"] spAhead := by
  refine F.ok scAhead (fun vs H Q E h => ?_) (fun cdv A0 outer s0 H vs Q E hr h => ?_)
  · obtain ⟨n, t, rfl, _⟩ := h
    rfl
  · obtain ⟨n, t, rfl, q⟩ := h
    have nd := scAhead.nd
    have m0 : (0 : Int) < 65536 := by decide
    refine ⟨_, pss_cons (ps_set (i := 2) nd rfl (.inl rfl) (pe_op op_mod (pe_callTy call_int1 (by rfl) T.int (by decide +kernel) (pa_cons (pe_op op_sub (pv 0) (pv 1)) pa_nil)) pe_int)) <| pss_cons (ps_if (pt_cmpR op_ge (pv 2) pe_int (nomark _)) (pss_one (ps_ret (pe_op op_sub (pv 2) pe_int))) (pss_nil)) <| pss_one (ps_ret (pv 2)), ?_⟩
    refine ⟨_, rfl, _, rfl, _, _, rfl, rfl, .inl ⟨_, rfl, _, _, rfl, rfl, m0, ?_⟩⟩
    have ea : aheadC n t = if (n - t) % 65536 ≥ 32768 then (n - t) % 65536 - 65536 else (n - t) % 65536 := by
      unfold aheadC
      split <;> omega
    rw [ea] at q
    refine ⟨_, rfl, _, _, rfl, rfl, _, rfl, ite2 (fun z => ?_) (fun z => ?_)⟩
    · rw [if_pos (of_decide_eq_true z)] at q
      exact ⟨_, rfl, _, _, rfl, rfl, q⟩
    · rw [if_neg (fun y => z (decide_eq_true y))] at q
      exact ⟨_, rfl, q⟩
theorem scLTake : FnScope ["state", "size", "number", "ahead", "place"] ["state", "size", "number"] (defScope sLTake) := ⟨rfl, rfl, rfl, by decide +kernel, rfl, by decide +kernel, by decide +kernel⟩
def spLTake (K : PySem.W.Frag) : Sp := fun vs H Q _ => ∃ (d tk : Addr) (E : El) (L : List Int) (n : Int), vs = [.ref d, .int (E.sz : Int), .int n] ∧ ElOk E L ∧ H d = some (.dK (sd (oV (E.top.map (100000 + ·))) tk)) ∧ H tk = some (.lst (L.map fun x => V.int (100000 + x))) ∧ L.length ≤ 1000 ∧
  ∀ (H' : Hp) (t2 : Addr), (∀ b o, H b = some o → b ≠ d → b ≠ tk → H' b = some o) → (t2 = tk ∨ H t2 = none) → H' d = some (.dK (sd (oV ((elNew E n).top.map (100000 + ·))) t2)) → H' t2 = some (.lst ((if E.top = none then [n] else if elHit E n = true then L else L ++ [E.top.getD n + aheadC n (E.top.getD n)]).map fun x => V.int (100000 + x))) → Q (.bl (!elHit E n)) H'
theorem ok_ltake {f fA : Addr} {fd fdA : FuncData} {k : Nat} (F : Fun K "_law_take" "_law_take" sLTake f fd) (T : Blt mg) (GA : Callee P w K mg base 1 "_law_ahead" ["number", "top"] spAhead fA fdA) : FnOk P w K mg base CX0 (k + 2) f fd ["state", "size", "number"] (spLTake K) := by
  refine F.ok scLTake (fun vs H Q E h => ?_) (fun cdv A0 outer s0 H vs Q E hr h => ?_)
  · obtain ⟨d, tk, E, L, n, rfl, _⟩ := h
    rfl
  · obtain ⟨d, tk, E, L, n, rfl, eo, hd, ht, hl, q⟩ := h
    have nd := scLTake.nd
    have hu := hu_of hr
    have hr1 : Room 1 _ := hr.mono (by omega)
    have m0 : (0 : Int) < 65536 := by decide
    have ntd : tk ≠ d := fun z => by rw [z, hd] at ht; cases ht
    refine ⟨_, pss_cons (ps_if (pt_cmpR op_isN (pe_dget hu (pv 0) pe_str (fun _ _ => rfl)) pe_non (nomark _)) (pss_cons (ps_dput hu (pv 0) pe_str (pe_op op_add pe_int (pv 2)) rfl) <| pss_cons (ps_dput hu (pv 0) pe_str (pe_lst (pa_cons (pe_dget hu (pv 0) pe_str (fun _ _ => rfl)) pa_nil)) rfl) <| pss_one (ps_ret pe_bl)) (pss_nil)) <| pss_cons (ps_set (i := 3) nd rfl (.inl rfl) (pe_call GA.ok hr1 (by rfl) GA.mg GA.kp GA.b .nil pass0 (pa_cons (pv 2) (pa_cons (pe_op op_mod (pe_callTy call_int1 (by rfl) T.int (by decide +kernel) (pa_cons (pe_op op_sub (pe_dget hu (pv 0) pe_str (fun _ _ => rfl)) pe_int) pa_nil)) pe_int) pa_nil)))) <| pss_cons (ps_set (i := 4) nd rfl (.inl rfl) (pe_op op_add (pe_dget hu (pv 0) pe_str (fun _ _ => rfl)) (pv 3))) <| pss_cons (ps_if (pt_cmpR op_gt (pv 3) pe_int (nomark _)) (pss_cons (ps_dput hu (pv 0) pe_str (pv 4) rfl) <| pss_cons (ps_expr (pe_bm PySem.F.plainAttrs_list PySem.F.slot_list_append PySem.F.type_list_append mt_append (pe_dget hu (pv 0) pe_str (fun _ _ => rfl)) (pa_cons (pv 4) pa_nil))) <| pss_one (ps_ret pe_bl)) (pss_nil)) <| pss_cons (ps_if (PW.pt (pw_or (pt_cmpR op_ge (pe_op op_sub pe_int (pv 3)) (pv 1) (nomark _)) (pw_or1 (pt_cmpR op_in_seq (pv 4) (pe_dget hu (pv 0) pe_str (fun _ _ => rfl)) rfl)))) (pss_one (ps_ret pe_bl)) (pss_nil)) <| pss_cons (ps_expr (pe_bm PySem.F.plainAttrs_list PySem.F.slot_list_append PySem.F.type_list_append mt_append (pe_dget hu (pv 0) pe_str (fun _ _ => rfl)) (pa_cons (pv 4) pa_nil))) <| pss_one (ps_ret pe_bl), ?_⟩
    cases et : E.top with
    | none =>
      obtain ⟨e1, e2, e3⟩ := el_first eo (n := n) et
      rw [et] at hd q
      refine ⟨_, rfl, d, _, rfl, dg1 hd, rfl, _, rfl, ite2 (fun _ => ?_) (fun z => absurd (decide_eq_true rfl) z)⟩
      refine ⟨_, rfl, _, _, rfl, rfl, _, rfl, d, _, rfl, dp1 hd, ?_⟩
      have hd2 := upd_same (H := H) (a := d) (o := .dK (sd (.int (100000 + n)) tk))
      refine ⟨_, rfl, d, _, rfl, dg1 hd2, (by show 1 ≤ sizeLine; decide), fun t2 nt2 => ?_⟩
      have nt2' := ne_of_none hd2 nt2
      refine ⟨_, rfl, d, _, rfl, dp2 (by rw [upd_ne nt2']; exact hd2), ?_⟩
      have nH : H t2 = none := by rw [upd_ne nt2'.symm] at nt2; exact nt2
      rw [e1] at q
      have e3' : (elNew E n).top = some n := e3
      rw [e3'] at q
      exact q _ t2 (fun b o z n1 n2 => by rw [upd_ne n1, upd_ne (ne_of_none (H := upd H d (.dK (sd (.int (100000 + n)) tk))) (by rw [upd_ne n1]; exact z) nt2), upd_ne n1]; exact z) (.inr nH) upd_same (by rw [upd_ne nt2'.symm, upd_same, if_pos rfl]; rfl)
    | some t =>
      obtain ⟨e1, e2⟩ := el_step eo (n := n) et
      rw [et] at hd q
      have hd : H d = some (.dK (sd (.int (100000 + t)) tk)) := hd
      refine ⟨_, rfl, d, _, rfl, dg1 hd, rfl, _, rfl, ite2 (fun z => absurd (of_decide_eq_true z) (by intro y; cases y)) (fun _ => ?_)⟩
      dsimp only [tNext, tSeq]
      refine ⟨_, rfl, _, rfl, d, _, rfl, dg1 hd, _, _, rfl, rfl, .inl ⟨_, rfl, _, _, rfl, rfl, m0, n, _, rfl, ?_⟩⟩
      have ea : aheadC n ((100000 + t - 100000) % 65536) = aheadC n t := by
        unfold aheadC
        omega
      rw [ea]
      refine ⟨_, rfl, d, _, rfl, dg1 hd, _, rfl, _, _, rfl, rfl, ?_⟩
      have eg : E.top.getD n = t := by rw [et]; rfl
      have en := elNew_top (E := E) (n := n) et
      rw [en, if_neg (show ¬ (some t = none) by intro z; cases z)] at q
      have q : ∀ (H' : Hp) (t2 : Addr), (∀ b o, H b = some o → b ≠ d → b ≠ tk → H' b = some o) → (t2 = tk ∨ H t2 = none) → H' d = some (.dK (sd (.int (100000 + (if elHit E n = true then t else max t (t + aheadC n t)))) t2)) → H' t2 = some (.lst ((if elHit E n = true then L else L ++ [t + aheadC n t]).map fun x => V.int (100000 + x))) → Q (.bl (!elHit E n)) H' := q
      rw [e1] at q
      generalize hah : aheadC n t = ah at *
      dsimp only [gName, tSeq, tIfS]
      rw [show (100000 + t + ah : Int) = 100000 + (t + ah) by omega]
      have tl := (eo.top t et).2
      have hs := eo.s1
      have app : ∀ H1 : Hp, H1 tk = some (.lst (L.map fun x => V.int (100000 + x))) → (upd H1 tk (.lst ((L.map fun x => V.int (100000 + x)) ++ [V.int (100000 + (t + ah))]))) tk = some (.lst ((L ++ [t + ah]).map fun x => V.int (100000 + x))) := fun H1 h => by rw [upd_same, List.map_append]; rfl
      refine ⟨_, rfl, _, _, rfl, rfl, _, rfl, ite2 (fun z => ?_) (fun z => ?_)⟩
      · have z := of_decide_eq_true z
        have nn : (decide (ah ≤ -(E.sz : Int)) || decide (t + ah ∈ L)) = false := by
          rw [decide_eq_false (show ¬ ah ≤ -(E.sz : Int) by omega), decide_eq_false (fun y => by have := tl _ y; omega)]
          rfl
        rw [nn, if_neg Bool.false_ne_true, if_neg Bool.false_ne_true, Int.max_eq_right (by omega)] at q
        refine ⟨_, rfl, _, rfl, d, _, rfl, dp1 hd, ?_⟩
        have hd2 := upd_same (H := H) (a := d) (o := .dK (sd (.int (100000 + (t + ah))) tk))
        have ht2 : (upd H d (.dK (sd (.int (100000 + (t + ah))) tk))) tk = some (.lst (L.map fun x => V.int (100000 + x))) := by rw [upd_ne ntd]; exact ht
        refine ⟨_, rfl, d, _, rfl, dg2 hd2, .inl ⟨rfl, _, SqL.of ht2⟩, _, rfl, tk, _, _, rfl, rfl, ht2, szl (by rw [List.length_map]; omega), ?_⟩
        exact q _ tk (fun b o z n1 n2 => by rw [upd_ne n2, upd_ne n1]; exact z) (.inl rfl) (by rw [upd_ne ntd.symm]; exact hd2) (app _ ht2)
      · have z : ¬ (0 < ah) := fun y => z (decide_eq_true y)
        dsimp only [tNext, tSeq]
        refine or_read2 (a := decide (ah ≤ -(E.sz : Int))) (b := decide (t + ah ∈ L)) (fun Q h => ?_) (fun H6 s7 Q h => ?_) (fun H6 s7 => ?_)
        · refine ⟨_, rfl, _, _, rfl, rfl, _, rfl, _, _, rfl, rfl, _, rfl, ?_⟩
          rw [show decide ((E.sz : Int) ≤ 0 - ah) = decide (ah ≤ -(E.sz : Int)) by rw [decide_eq_decide]; omega]
          exact h _ (Same.refl _)
        · refine ⟨_, rfl, _, rfl, d, _, rfl, dg2 (s7 _ _ hd), tk, _, rfl, .inl (SqL.of (s7 _ _ ht)), rfl, flat_off L, _, rfl, ?_⟩
          rw [in_off]
          exact h _ (Same.refl _)
        · have hd6 := s7 _ _ hd
          have ht6 := s7 _ _ ht
          cases nn : (decide (ah ≤ -(E.sz : Int)) || decide (t + ah ∈ L)) with
          | true =>
            rw [nn, if_pos rfl, if_pos rfl] at q
            exact iteT (q H6 tk (fun b o z _ _ => s7 _ _ z) (.inl rfl) hd6 ht6)
          | false =>
            rw [nn, if_neg Bool.false_ne_true, if_neg Bool.false_ne_true, Int.max_eq_left (by omega)] at q
            refine iteF ?_
            dsimp only [tNext, tSeq]
            refine ⟨_, rfl, d, _, rfl, dg2 hd6, .inl ⟨rfl, _, SqL.of ht6⟩, _, rfl, tk, _, _, rfl, rfl, ht6, szl (by rw [List.length_map]; omega), ?_⟩
            exact q _ tk (fun b o z n1 n2 => by rw [upd_ne n2]; exact s7 _ _ z) (.inl rfl) (by rw [upd_ne ntd.symm]; exact hd6) (app _ ht6)
end
end My
namespace My
open PySem PySem.Spec PyProof.Rows L2
abbrev sLaw : Stmt := top 8 /-law-/
/-- an eliminator and the law's dict beside it -/
def PA (C : Addr) (H : Hp) (p tk d l : Addr) (E : El) (L : List Int) : Prop := ∃ dx, H p = some (.ins C dx (elF E.sz (oV E.top) tk)) ∧ H tk = some (.lst (E.tk.map oV)) ∧ H d = some (.dK (sd (oV (E.top.map (100000 + ·))) l)) ∧ H l = some (.lst (L.map fun x => V.int (100000 + x)))
theorem PA.frame {C : Addr} {H H' : Hp} {p tk d l : Addr} {E : El} {L : List Int} (h : PA C H p tk d l E L) (f : ∀ b o, H b = some o → b = p ∨ b = tk ∨ b = d ∨ b = l → H' b = some o) : PA C H' p tk d l E L := by
  obtain ⟨dx, h1, h2, h3, h4⟩ := h
  exact ⟨dx, f _ _ h1 (.inl rfl), f _ _ h2 (.inr (.inl rfl)), f _ _ h3 (.inr (.inr (.inl rfl))), f _ _ h4 (.inr (.inr (.inr rfl)))⟩
structure Tk (C : Addr) (H : Hp) (sz m : Nat) (p tk d l : Addr) (E : El) (L : List Int) : Prop where
  at_ : PA C H p tk d l E L
  ok : ElOk E L
  sz : E.sz = sz
  le : L.length ≤ m
def Gts (C : Addr) (H : Hp) (G S : Addr) (Y : Addr) (ys : List V) (sz m : Nat) : Prop := ∃ (p0 k0 d0 l0 p1 k1 d1 l1 : Addr) (E0 E1 : El) (L0 L1 : List Int), H G = some (.lst [.ref p0, .ref p1]) ∧ H S = some (.lst [.ref d0, .ref d1]) ∧ Tk C H sz m p0 k0 d0 l0 E0 L0 ∧ Tk C H sz m p1 k1 d1 l1 E1 L1 ∧ ([G, S, k0, l0, k1, l1] : List Addr).Nodup ∧ p0 ≠ p1 ∧ d0 ≠ d1 ∧ H Y = some (.lst ys) ∧ Y ≠ k0 ∧ Y ≠ l0 ∧ Y ≠ k1 ∧ Y ≠ l1
/-- one of the two is changed -/
theorem tk_other {C : Addr} {H H' : Hp} {sz m : Nat} {p0 k0 d0 l0 p1 k1 d1 l1 l2 : Addr} {E0 E1 : El} {L0 L1 : List Int} {x y : List V} {G S : Addr} (hG : H G = some (.lst x)) (hS : H S = some (.lst y)) (h0 : Tk C H sz m p0 k0 d0 l0 E0 L0) (h1 : Tk C H sz m p1 k1 d1 l1 E1 L1) (hn : ([G, S, k0, l0, k1, l1] : List Addr).Nodup) (hp : p0 ≠ p1) (hd : d0 ≠ d1)
    (f : ∀ b o, H b = some o → b ≠ p0 → b ≠ k0 → b ≠ d0 → b ≠ l0 → H' b = some o) (h2 : l2 = l0 ∨ H l2 = none) : H' G = some (.lst x) ∧ H' S = some (.lst y) ∧ Tk C H' sz (m + 1) p1 k1 d1 l1 E1 L1 ∧ ([G, S, k0, l2, k1, l1] : List Addr).Nodup := by
  obtain ⟨dx0, a1, a2, a3, a4⟩ := h0.at_
  obtain ⟨dx1, b1, b2, b3, b4⟩ := id h1.at_
  have kk : ∀ {b : Addr} {z : List V}, H b = some (.lst z) → b ≠ k0 → b ≠ l0 → H' b = some (.lst z) := fun {b z} e n1 n2 => f _ _ e (ne_of e a1 (by intro y; cases y)) n1 (ne_of e a3 (by intro y; cases y)) n2
  simp only [List.nodup_cons, List.mem_cons, List.not_mem_nil, or_false, not_or] at hn
  obtain ⟨⟨n1, n2, n3, n4, n5⟩, ⟨n6, n7, n8, n9⟩, ⟨n10, n11, n12⟩, ⟨n13, n14⟩, n15, _⟩ := hn
  refine ⟨kk hG n2 n3, kk hS n6 n7, ⟨⟨dx1, ?_, kk b2 (Ne.symm n11) (Ne.symm n13), ?_, kk b4 (Ne.symm n12) (Ne.symm n14)⟩, h1.ok, h1.sz, Nat.le_succ_of_le h1.le⟩, ?_⟩
  · exact f _ _ b1 hp.symm (ne_of b1 a2 (by intro y; cases y)) (ne_of b1 a3 (by intro y; cases y)) (ne_of b1 a4 (by intro y; cases y))
  · exact f _ _ b3 (ne_of b3 a1 (by intro y; cases y)) (ne_of b3 a2 (by intro y; cases y)) hd.symm (ne_of b3 a4 (by intro y; cases y))
  · have m1 : G ≠ l2 ∧ S ≠ l2 ∧ k0 ≠ l2 ∧ l2 ≠ k1 ∧ l2 ≠ l1 := by
      rcases h2 with rfl | h2
      · exact ⟨n3, n7, n10, n13, n14⟩
      · exact ⟨ne_of_none hG h2, ne_of_none hS h2, ne_of_none a2 h2, (ne_of_none b2 h2).symm, (ne_of_none b4 h2).symm⟩
    obtain ⟨m1, m2, m3, m4, m5⟩ := m1
    simp only [List.nodup_cons, List.mem_cons, List.not_mem_nil, or_false, not_or, not_false_eq_true, List.nodup_nil, and_true]
    exact ⟨⟨n1, n2, m1, n4, n5⟩, ⟨n6, m2, n8, n9⟩, ⟨m3, n11, n12⟩, ⟨m4, m5⟩, n15⟩
theorem Gts.pick {C : Addr} {H : Hp} {G S Y : Addr} {ys : List V} {sz m : Nat} (h : Gts C H G S Y ys sz m) {w : Int} (hw : 0 ≤ w ∧ w < 2) : ∃ (p k d l : Addr) (E : El) (L : List Int) (g s : List V), H G = some (.lst g) ∧ atI g w = some (.ref p) ∧ H S = some (.lst s) ∧ atI s w = some (.ref d) ∧ Tk C H sz m p k d l E L ∧ S ≠ p ∧ S ≠ k ∧ d ≠ p ∧ d ≠ k ∧ l ≠ p ∧ l ≠ k ∧
    ∀ (H' : Hp) (l2 : Addr) (E2 : El) (L2 : List Int), (∀ b o, H b = some o → b ≠ p → b ≠ k → b ≠ d → b ≠ l → H' b = some o) → (l2 = l ∨ H l2 = none) → Tk C H' sz (m + 1) p k d l2 E2 L2 → Gts C H' G S Y ys sz (m + 1) := by
  obtain ⟨p0, k0, d0, l0, p1, k1, d1, l1, E0, E1, L0, L1, hG, hS, h0, h1, hn, hp, hd, hY, q1, q2, q3, q4⟩ := h
  obtain ⟨dx0, a1, a2, a3, a4⟩ := id h0.at_
  obtain ⟨dx1, b1, b2, b3, b4⟩ := id h1.at_
  have hn' := hn
  simp only [List.nodup_cons, List.mem_cons, List.not_mem_nil, or_false, not_or] at hn
  obtain ⟨⟨n1, n2, n3, n4, n5⟩, ⟨n6, n7, n8, n9⟩, ⟨n10, n11, n12⟩, ⟨n13, n14⟩, n15, _⟩ := hn
  have e : w = 0 ∨ w = 1 := by omega
  rcases e with rfl | rfl
  · refine ⟨p0, k0, d0, l0, E0, L0, _, _, hG, rfl, hS, rfl, h0, ne_of hS a1 (by intro y; cases y), n6, ne_of a3 a1 (by intro y; cases y), ne_of a3 a2 (by intro y; cases y), ne_of a4 a1 (by intro y; cases y), Ne.symm n10, fun H' l2 E2 L2 f h2 ht => ?_⟩
    obtain ⟨x1, x2, x3, x4⟩ := tk_other hG hS h0 h1 hn' hp hd f h2
    exact ⟨p0, k0, d0, l2, p1, k1, d1, l1, E2, E1, L2, L1, x1, x2, ht, x3, x4, hp, hd, f _ _ hY (ne_of hY a1 (by intro y; cases y)) q1 (ne_of hY a3 (by intro y; cases y)) q2, q1, h2.elim (fun e => e ▸ q2) (ne_of_none hY), q3, q4⟩
  · refine ⟨p1, k1, d1, l1, E1, L1, _, _, hG, rfl, hS, rfl, h1, ne_of hS b1 (by intro y; cases y), n8, ne_of b3 b1 (by intro y; cases y), ne_of b3 b2 (by intro y; cases y), ne_of b4 b1 (by intro y; cases y), Ne.symm n15, fun H' l2 E2 L2 f h2 ht => ?_⟩
    have hn2 : ([G, S, k1, l1, k0, l0] : List Addr).Nodup := by
      simp only [List.nodup_cons, List.mem_cons, List.not_mem_nil, or_false, not_or, not_false_eq_true, List.nodup_nil, and_true]
      exact ⟨⟨n1, n4, n5, n2, n3⟩, ⟨n8, n9, n6, n7⟩, ⟨n15, Ne.symm n11, Ne.symm n13⟩, ⟨Ne.symm n12, Ne.symm n14⟩, n10⟩
    obtain ⟨x1, x2, x3, x4⟩ := tk_other hG hS h1 h0 hn2 hp.symm hd.symm f h2
    simp only [List.nodup_cons, List.mem_cons, List.not_mem_nil, or_false, not_or, not_false_eq_true, List.nodup_nil, and_true] at x4
    obtain ⟨⟨n1, n2, n3, n4, n5⟩, ⟨n6, n7, n8, n9⟩, ⟨n10, n11, n12⟩, ⟨n13, n14⟩, n15⟩ := x4
    refine ⟨p0, k0, d0, l0, p1, k1, d1, l2, E0, E2, L0, L2, x1, x2, x3, ht, ?_, hp, hd, f _ _ hY (ne_of hY b1 (by intro y; cases y)) q3 (ne_of hY b3 (by intro y; cases y)) q4, q1, q2, q3, h2.elim (fun e => e ▸ q4) (ne_of_none hY)⟩
    simp only [List.nodup_cons, List.mem_cons, List.not_mem_nil, or_false, not_or, not_false_eq_true, List.nodup_nil, and_true]
    exact ⟨⟨n1, n4, n5, n2, n3⟩, ⟨n8, n9, n6, n7⟩, ⟨n15, Ne.symm n11, Ne.symm n13⟩, ⟨Ne.symm n12, Ne.symm n14⟩, n10⟩
theorem Gts.same {C : Addr} {H H' : Hp} {G S Y : Addr} {ys : List V} {sz m : Nat} (h : Gts C H G S Y ys sz m) (e : Same H H') : Gts C H' G S Y ys sz m := by
  obtain ⟨p0, k0, d0, l0, p1, k1, d1, l1, E0, E1, L0, L1, hG, hS, h0, h1, r1, r2, r3, hY, r⟩ := h
  exact ⟨p0, k0, d0, l0, p1, k1, d1, l1, E0, E1, L0, L1, e _ _ hG, e _ _ hS, ⟨h0.at_.frame fun b o z _ => e _ _ z, h0.ok, h0.sz, h0.le⟩, ⟨h1.at_.frame fun b o z _ => e _ _ z, h1.ok, h1.sz, h1.le⟩, r1, r2, r3, e _ _ hY, r⟩
theorem Gts.y {C : Addr} {H : Hp} {G S Y : Addr} {ys : List V} {sz m : Nat} (h : Gts C H G S Y ys sz m) : H Y = some (.lst ys) := by
  obtain ⟨p0, k0, d0, l0, p1, k1, d1, l1, E0, E1, L0, L1, hG, hS, h0, h1, r1, r2, r3, hY, r⟩ := h
  exact hY
theorem el_any {E : El} {L : List Int} {n : Int} (h : ElOk E L) : ElOk (elNew E n) (if E.top = none then [n] else if elHit E n = true then L else L ++ [E.top.getD n + aheadC n (E.top.getD n)]) ∧ (if E.top = none then [n] else if elHit E n = true then L else L ++ [E.top.getD n + aheadC n (E.top.getD n)]).length ≤ L.length + 1 := by
  cases et : E.top with
  | none =>
    rw [if_pos rfl]
    exact ⟨(el_first h et).2.1, by show 1 ≤ L.length + 1; omega⟩
  | some t =>
    rw [if_neg (by intro z; cases z)]
    refine ⟨(el_step h et).2, ?_⟩
    split
    · omega
    · rw [List.length_append]
      exact Nat.le_refl _
/-- how an eliminator is made -/
structure ElMk (P : Program) (w : World) (K : PySem.W.Frag) (mg : Str → Option Value) (base : Heap) (C f : Addr) (fd : FuncData) : Prop where
  ok : FnOk P w K mg base CX0 1 f fd ["self", "size"] (spEInit C)
  mg : mg "Eliminator" = some (.ref C)
  mkC : Mk K C f
  b : Binds K fd ["self", "size"] []
  kp : PySem.W.keepIn K (.ref C) = true
/-- what a method's caller knows of it -/
structure MethE (P : Program) (w : World) (K : PySem.W.Frag) (mg : Str → Option Value) (base : Heap) (k : Nat) (ps : List Str) (sp : Sp) (f : Addr) (fd : FuncData) : Prop where
  ok : FnOk P w K mg base CX0 k f fd ps sp
  b : Binds K fd ps []
theorem mk_sd {H : Hp} {d l : Addr} (nd : H d = none) (nl : (upd H d (.dK [])) l = none) : Same H (upd (upd (upd H d (.dK [])) l (.lst [])) d (.dK (mergeK [] [(.inr "place", .non), (.inr "taken", .ref l)]))) ∧ (upd (upd (upd H d (.dK [])) l (.lst [])) d (.dK (mergeK [] [(.inr "place", .non), (.inr "taken", .ref l)]))) d = some (.dK (sd .non l)) ∧ (upd (upd (upd H d (.dK [])) l (.lst [])) d (.dK (mergeK [] [(.inr "place", .non), (.inr "taken", .ref l)]))) l = some (.lst []) := by
  have n : d ≠ l := ne_of_none (H := upd H d (.dK [])) upd_same nl
  refine ⟨fun x o z => ?_, upd_same, ?_⟩
  · have h1 := ne_of_none z nd
    have h2 : x ≠ l := ne_of_none (H := upd H d (.dK [])) (by rw [upd_ne h1]; exact z) nl
    rw [upd_ne h1, upd_ne h2, upd_ne h1]
    exact z
  · rw [upd_ne n.symm]
    exact upd_same
theorem fresh_sd {H : Hp} {d l : Addr} (nd : H d = none) (nl : (upd H d (.dK [])) l = none) : H l = none := by
  have n : d ≠ l := ne_of_none (H := upd H d (.dK [])) upd_same nl
  rw [upd_ne n.symm] at nl
  exact nl
theorem cut_mid {ns : List Int} {i j : Nat} (h : i ≤ j) : ∃ cs : List Int, cutV (ns.map V.int) (some (i : Int)) (some (j : Int)) = cs.map V.int ∧ cs.length ≤ j - i := by
  refine ⟨(ns.drop (HT.sIx (ns.map V.int).length 0 (some (i : Int)))).take (HT.sIx (ns.map V.int).length (ns.map V.int).length (some (j : Int)) - HT.sIx (ns.map V.int).length 0 (some (i : Int))), ?_, ?_⟩
  · unfold cutV
    rw [List.map_take, List.map_drop]
  · rw [HT.sIx_nat, HT.sIx_nat, List.length_take]
    omega
theorem mk_el {C p dx tk : Addr} {H H' : Hp} (np : H p = none) (nd : H dx = none) (ne : dx ≠ p) (b : ButH p (upd (upd H dx (.own p)) p (.ins C dx [])) H') (nt : (upd (upd H dx (.own p)) p (.ins C dx [])) tk = none) : Same H H' ∧ H tk = none := by
  refine ⟨fun x o z => ?_, ?_⟩
  · have h1 := ne_of_none z np
    have h2 := ne_of_none z nd
    exact b x o (by rw [upd_ne h1, upd_ne h2]; exact z) h1
  · cases z : H tk with
    | none => rfl
    | some o =>
      rw [upd_ne (ne_of_none z np), upd_ne (ne_of_none z nd), z] at nt
      cases nt
section
variable {P : Program} {w : World} {K : PySem.W.Frag} {mg : Str → Option Value} {base : Heap}
theorem scLaw : FnScope ["script", "sizes", "size", "gates", "states", "number", "cell", "numbers", "step", "which", "told"] ["script"] (defScope sLaw) := ⟨rfl, rfl, rfl, by decide +kernel, rfl, by decide +kernel, by decide +kernel⟩
def spLaw (K : PySem.W.Frag) : Sp := fun vs H Q _ => ∃ (a : Addr) (ns : List Int), vs = [.ref a] ∧ SqL K H a (ns.map V.int) ∧ ns.length ≤ 63 ∧ ∀ H', Q (.bl true) H'
theorem ok_law {f C fD fCe fI fT fLT : Addr} {fd fdD fdCe fdI fdT fdLT : FuncData} {k : Nat} (F : Fun K "law" "law" sLaw f fd) (T : Blt mg) (hisi : mg "isinstance" = none) (hbool : mg "bool" = none) (c : ElC K C)
    (GD : Callee P w K mg base 1 "_law_draw" ["cell", "many", "bound"] spDraw fD fdD) (GC : Callee P w K mg base 1 "_law_cell" ["script", "k"] (spCell K) fCe fdCe) (GE : ElMk P w K mg base C fI fdI) (mT : Meth K C "take" fT) (GT : MethE P w K mg base 1 ["self", "number"] (spTake C) fT fdT) (GL : Callee P w K mg base 2 "_law_take" ["state", "size", "number"] (spLTake K) fLT fdLT) : FnOk P w K mg base CX0 (k + 3) f fd ["script"] (spLaw K) := by
  refine F.ok scLaw (fun vs H Q E h => ?_) (fun cdv A0 outer s0 H vs Q E hr h => ?_)
  · obtain ⟨a, ns, rfl, _⟩ := h
    rfl
  · obtain ⟨a, ns, rfl, hS, hlen, q⟩ := h
    have nd := scLaw.nd
    have hr1 : Room 1 _ := hr.mono (by omega)
    have hr2 : Room 2 _ := hr.mono (by omega)
    refine ⟨_, pss_cons (ps_set (i := 1) nd rfl (.inl rfl) (pe_call GD.ok hr1 (by rfl) GD.mg GD.kp GD.b .nil pass0 (pa_cons (pe_call GC.ok hr1 (by rfl) GC.mg GC.kp GC.b .nil pass0 (pa_cons (pv 0) (pa_cons pe_int pa_nil))) (pa_cons pe_int (pa_cons (pe_op op_shl pe_int pe_int) pa_nil))))) <| pss_cons (ps_set (i := 2) nd rfl (.inl rfl) (pe_op op_add pe_int (pe_op op_mod (pe_ix ix_list (pv 1) pe_int (fun _ _ => rfl)) pe_int))) <| C8.pss_cut (ps_if (pt_cmpR op_eq (pe_op op_mod (pe_op op_fdiv (pe_ix ix_list (pv 1) pe_int (fun _ _ => rfl)) pe_int) pe_int) pe_int (nomark _)) (pss_one (ps_set (i := 2) nd rfl (.inl rfl) (pe_ix ix_list (pe_lst (pa_cons pe_int (pa_cons pe_int (pa_cons pe_int (pa_cons pe_int pa_nil))))) (pe_op op_mod (pe_op op_fdiv (pe_ix ix_list (pv 1) pe_int (fun _ _ => rfl)) pe_int) pe_int) (fun _ _ => rfl)))) (pss_nil)) <| pss_cons (ps_set (i := 3) nd rfl (.inl rfl) (pe_lst (pa_cons (pe_make GE.mkC GE.ok hr2 (by rfl) GE.mg GE.b .nil pass0 (pa_cons (pv 2) pa_nil)) (pa_cons (pe_make GE.mkC GE.ok hr2 (by rfl) GE.mg GE.b .nil pass0 (pa_cons (pv 2) pa_nil)) pa_nil)))) <| pss_cons (ps_set (i := 4) nd rfl (.inl rfl) (pe_lst (pa_cons (pe_disp (pps_cons pe_str pe_non (pps_cons pe_str (pe_lst pa_nil) pps_nil)) (by rfl) (by rfl) (fun z => by cases z) (by decide)) (pa_cons (pe_disp (pps_cons pe_str pe_non (pps_cons pe_str (pe_lst pa_nil) pps_nil)) (by rfl) (by rfl) (fun z => by cases z) (by decide)) pa_nil)))) <| pss_cons (ps_set (i := 5) nd rfl (.inl rfl) (pe_op op_mod (pe_ix ix_list (pv 1) pe_int (fun _ _ => rfl)) pe_int)) <| C8.pss_cut (ps_if (pt_cmpR op_eq (pe_op op_mod (pe_ix ix_list (pv 1) pe_int (fun _ _ => rfl)) pe_int) pe_int (nomark _)) (pss_one (ps_set (i := 5) nd rfl (.inl rfl) (pe_ix ix_list (pe_lst (pa_cons pe_int (pa_cons pe_int (pa_cons pe_int (pa_cons pe_int pa_nil))))) (pe_op op_mod (pe_op op_fdiv (pe_ix ix_list (pv 1) pe_int (fun _ _ => rfl)) pe_int) pe_int) (fun _ _ => rfl)))) (pss_nil)) <| pss_cons (ps_for PassesOwn.never rfl (pi_list (pe_slice sl_list (pv 0) (po_some pe_int) (po_some pe_int))) (pg_name (i := 6) nd rfl (.inl rfl)) (pss_cons (ps_set (i := 7) nd rfl (.inl rfl) (pe_call GD.ok hr1 (by rfl) GD.mg GD.kp GD.b .nil pass0 (pa_cons (pv 6) (pa_cons pe_int (pa_cons (pe_op op_shl pe_int pe_int) pa_nil))))) <| pss_cons (ps_set (i := 8) nd rfl (.inl rfl) (pe_op op_sub (pe_op op_mod (pe_ix ix_list (pv 7) pe_int (fun _ _ => rfl)) pe_int) pe_int)) <| C8.pss_cut (ps_if (pt_cmpR op_eq (pe_op op_mod (pe_ix ix_list (pv 7) pe_int (fun _ _ => rfl)) pe_int) pe_int (nomark _)) (pss_one (ps_set (i := 8) nd rfl (.inl rfl) (pe_op op_mod (pe_ix ix_list (pv 7) pe_int (fun _ _ => rfl)) pe_int))) (pss_nil)) <| C8.pss_cut (ps_if (pt_cmpR op_eq (pe_op op_mod (pe_ix ix_list (pv 7) pe_int (fun _ _ => rfl)) pe_int) pe_int (nomark _)) (pss_one (ps_set (i := 8) nd rfl (.inl rfl) (pe_op op_sub (pe_op op_mod (pe_ix ix_list (pv 7) pe_int (fun _ _ => rfl)) pe_int) pe_int))) (pss_nil)) <| pss_cons (ps_set (i := 5) nd rfl (.inl rfl) (pe_op op_mod (pe_callTy call_int1 (by rfl) T.int (by decide +kernel) (pa_cons (pe_op op_add (pv 5) (pv 8)) pa_nil)) pe_int)) <| pss_cons (ps_set (i := 9) nd rfl (.inl rfl) (pe_op op_mod (pe_ix ix_list (pv 7) pe_int (fun _ _ => rfl)) pe_int)) <| pss_cons (ps_set (i := 10) nd rfl (.inl rfl) (pe_meth (pe_ix ix_list (pv 3) (pv 9) (fun _ _ => rfl)) c.cl mT GT.ok hr1 GT.b .nil pass0 (pa_cons (pv 5) pa_nil))) <| pss_one (ps_if (PW.pt (pw_or (pt_not (pt_val (pe_callB call_isi (by rfl) hisi PyProof.Rows.boot_isinstance (pa_cons (pv 10) (pa_cons (pe_bltn (v := .ty "bool") (by rfl) hbool PyProof.Rows.boot_bool rfl) pa_nil))))) (pw_or1 (pt_cmpR op_ne (pv 10) (pe_call GL.ok hr2 (by rfl) GL.mg GL.kp GL.b .nil pass0 (pa_cons (pe_ix ix_list (pv 4) (pv 9) (fun _ _ => rfl)) (pa_cons (pv 2) (pa_cons (pv 5) pa_nil)))) (nomark _))))) (pss_one (ps_ret pe_bl)) (pss_nil)))) <| pss_one (ps_ret pe_bl), ?_⟩
    refine ⟨_, rfl, a, ns, 0, rfl, hS, _, _, rfl, rfl, ⟨by decide, by decide, by decide⟩, ns.getD 0 0, 1048576, 3, rfl, by decide, by decide, by decide, fun H1 pz zs s1 npz hz lz bz => ?_⟩
    have z0 := bz (zs.getD 0 0) (getD_mem (by omega))
    have z1 := bz (zs.getD 1 0) (getD_mem (by omega))
    have z2 := bz (zs.getD 2 0) (getD_mem (by omega))
    have x0 : 0 ≤ zs.getD 0 0 % 9 := Int.emod_nonneg _ (by decide)
    have x1 : zs.getD 0 0 % 9 < 9 := Int.emod_lt_of_pos _ (by decide)
    refine ⟨_, rfl, pz, _, _, _, rfl, rfl, SqL.of hz, atI_ints (j := 0) rfl (by omega), _, _, rfl, rfl, (by show (0 : Int) < 9; decide), _, _, rfl, rfl, ?_⟩
    refine ⟨fun σ H' => ∃ sz : Nat, σ = [some (.ref a), some (.ref pz), some (.int (sz : Int)), none, none, none, none, none, none, none, none] ∧ 1 ≤ sz ∧ sz ≤ 1000 ∧ Same H1 H', ?_, ?_⟩
    · refine ⟨_, rfl, pz, _, _, _, rfl, rfl, SqL.of hz, atI_ints (j := 0) rfl (by omega), _, _, rfl, rfl, ⟨by decide, by decide⟩, _, _, rfl, rfl, (by show (0 : Int) < 4; decide), rfl, _, rfl, ite2 (fun _ => ?_) (fun _ => ?_)⟩
      · refine ⟨by show 4 ≤ sizeLine; decide, fun l nl => ?_⟩
        have sl := same_new (o := .lst [V.int 1, V.int 70, V.int 1000, V.int 64]) nl
        have y0 : 0 ≤ zs.getD 0 0 / 36 % 4 := Int.emod_nonneg _ (by decide)
        have y1 : zs.getD 0 0 / 36 % 4 < 4 := Int.emod_lt_of_pos _ (by decide)
        obtain ⟨j, ej⟩ : ∃ j : Nat, zs.getD 0 0 / 36 % 4 = (j : Int) := ⟨(zs.getD 0 0 / 36 % 4).toNat, by omega⟩
        obtain ⟨w4, e4, w1, w2⟩ : ∃ w4 : Nat, [V.int 1, V.int 70, V.int 1000, V.int 64][j]? = some (.int (w4 : Int)) ∧ 1 ≤ w4 ∧ w4 ≤ 1000 := by
          have : j = 0 ∨ j = 1 ∨ j = 2 ∨ j = 3 := by omega
          rcases this with rfl | rfl | rfl | rfl
          · exact ⟨1, rfl, by decide, by decide⟩
          · exact ⟨70, rfl, by decide, by decide⟩
          · exact ⟨1000, rfl, by decide, by decide⟩
          · exact ⟨64, rfl, by decide, by decide⟩
        refine ⟨_, rfl, pz, _, _, _, rfl, rfl, SqL.of (sl _ _ hz), atI_ints (j := 0) rfl (by omega), _, _, rfl, rfl, ⟨by decide, by decide⟩, _, _, rfl, rfl, (by show (0 : Int) < 4; decide), l, _, _, _, rfl, rfl, SqL.of upd_same, (by rw [ej]; exact atI_nat e4), ?_⟩
        exact ⟨w4, rfl, w1, w2, sl⟩
      · exact ⟨(1 + zs.getD 0 0 % 9).toNat, by rw [Int.toNat_of_nonneg (by omega)]; rfl, by omega, by omega, Same.refl _⟩
    rintro σ H2 ⟨sz, rfl, sz1, sz2, s2⟩
    have S2 := s1.trans s2
    have hz2 := s2 _ _ hz
    -- gates
    refine ⟨_, rfl, fun p0 dx0 np0 ndx0 ne0 => ?_⟩
    refine ⟨p0, dx0, sz, rfl, sz2, upd_same, fun H3 k0 b3 nk0 hp0 hk0 => ⟨rfl, ?_⟩⟩
    obtain ⟨s3, nk0⟩ := mk_el np0 ndx0 ne0 b3 nk0
    refine ⟨_, rfl, fun p1 dx1 np1 ndx1 ne1 => ?_⟩
    refine ⟨p1, dx1, sz, rfl, sz2, upd_same, fun H4 k1 b4 nk1 hp1 hk1 => ⟨rfl, ?_⟩⟩
    obtain ⟨s4, nk1⟩ := mk_el np1 ndx1 ne1 b4 nk1
    refine ⟨by show 2 ≤ sizeLine; decide, fun G nG => ?_⟩
    have s5 := same_new (o := .lst [V.ref p0, V.ref p1]) nG
    generalize e5 : upd H4 G (.lst [V.ref p0, V.ref p1]) = H5 at *
    have hG5 : H5 G = some (.lst [V.ref p0, V.ref p1]) := by rw [← e5]; exact upd_same
    -- states
    refine fun d0 nd0 => ?_
    refine ⟨Nat.zero_le _, fun l0 nl0 => ?_⟩
    have n0 := ne_of_none (H := upd H5 d0 (.dK [])) upd_same nl0
    refine ⟨by rw [upd_ne n0]; exact upd_same, [(.inr "place", .non), (.inr "taken", .ref l0)], rfl, by show 2 ≤ 15; decide, ?_⟩
    obtain ⟨s6, hd0, hl0⟩ := mk_sd nd0 nl0
    have nl0 := fresh_sd nd0 nl0
    revert s6 hd0 hl0
    generalize (upd (upd (upd H5 d0 (.dK [])) l0 (.lst [])) d0 (.dK (mergeK [] [(.inr "place", .non), (.inr "taken", .ref l0)]))) = H6
    intro s6 hd0 hl0
    refine fun d1 nd1 => ?_
    refine ⟨Nat.zero_le _, fun l1 nl1 => ?_⟩
    have n1 := ne_of_none (H := upd H6 d1 (.dK [])) upd_same nl1
    refine ⟨by rw [upd_ne n1]; exact upd_same, [(.inr "place", .non), (.inr "taken", .ref l1)], rfl, by show 2 ≤ 15; decide, ?_⟩
    obtain ⟨s7, hd1, hl1⟩ := mk_sd nd1 nl1
    have nl1 := fresh_sd nd1 nl1
    revert s7 hd1 hl1
    generalize (upd (upd (upd H6 d1 (.dK [])) l1 (.lst [])) d1 (.dK (mergeK [] [(.inr "place", .non), (.inr "taken", .ref l1)]))) = H7
    intro s7 hd1 hl1
    refine ⟨by show 2 ≤ sizeLine; decide, fun S nS => ?_⟩
    have s8 := same_new (o := .lst [V.ref d0, V.ref d1]) nS
    generalize e8 : upd H7 S (.lst [V.ref d0, V.ref d1]) = H8 at *
    have hS8 : H8 S = some (.lst [V.ref d0, V.ref d1]) := by rw [← e8]; exact upd_same
    have S38 : Same H3 H8 := s4.trans (s5.trans (s6.trans (s7.trans s8)))
    have S28 : Same H2 H8 := s3.trans S38
    have hz8 := S28 _ _ hz2
    refine ⟨_, rfl, pz, _, _, _, rfl, rfl, SqL.of hz8, atI_ints (j := 1) rfl (by omega), _, _, rfl, rfl, (by show (0 : Int) < 65536; decide), ?_⟩
    refine ⟨fun σ H' => ∃ n : Int, σ = [some (.ref a), some (.ref pz), some (.int (sz : Int)), some (.ref G), some (.ref S), some (.int n), none, none, none, none, none] ∧ Same H8 H', ?_, ?_⟩
    · refine ⟨_, rfl, pz, _, _, _, rfl, rfl, SqL.of hz8, atI_ints (j := 2) rfl (by omega), _, _, rfl, rfl, (by show (0 : Int) < 2; decide), rfl, _, rfl, ite2 (fun _ => ?_) (fun _ => ?_)⟩
      · refine ⟨by show 4 ≤ sizeLine; decide, fun l nl => ?_⟩
        have sl := same_new (o := .lst [V.int 65530, V.int 0, V.int 3, V.int 32768]) nl
        have y0 : 0 ≤ zs.getD 2 0 / 2 % 4 := Int.emod_nonneg _ (by decide)
        have y1 : zs.getD 2 0 / 2 % 4 < 4 := Int.emod_lt_of_pos _ (by decide)
        obtain ⟨j, ej⟩ : ∃ j : Nat, zs.getD 2 0 / 2 % 4 = (j : Int) := ⟨(zs.getD 2 0 / 2 % 4).toNat, by omega⟩
        refine ⟨_, rfl, pz, _, _, _, rfl, rfl, SqL.of (sl _ _ hz8), atI_ints (j := 2) rfl (by omega), _, _, rfl, rfl, ⟨by decide, by decide⟩, _, _, rfl, rfl, (by show (0 : Int) < 4; decide), l, _, _, _, rfl, rfl, SqL.of (xs := ([65530, 0, 3, 32768] : List Int).map V.int) upd_same, atI_ints (j := j) ej (by show j < 4; omega), ?_⟩
        exact ⟨_, rfl, sl⟩
      · exact ⟨_, rfl, Same.refl _⟩
    rintro σ H9 ⟨n0, rfl, s9⟩
    -- the cells
    have S9 : Same H H9 := S2.trans (S28.trans s9)
    obtain ⟨cs, ecs, lcs⟩ := cut_mid (ns := ns) (i := 1) (j := 63) (by decide)
    have ecs : cutV (ns.map V.int) (some 1) (some 63) = cs.map V.int := ecs
    refine ⟨_, rfl, _, rfl, _, rfl, a, _, rfl, S9.seq hS, fun Y nY => ?_⟩
    rw [ecs]
    have sY := same_new (o := .lst (cs.map V.int)) nY
    have hY := upd_same (H := H9) (a := Y) (o := .lst (cs.map V.int))
    have G0 : Gts C (upd H9 Y (.lst (cs.map V.int))) G S Y (cs.map V.int) sz 0 := by
      have S39 : Same H3 H9 := S38.trans s9
      have S59 : Same H5 H9 := s6.trans (s7.trans (s8.trans s9))
      have S49 : Same H4 H9 := s5.trans S59
      have S69 : Same H6 H9 := s7.trans (s8.trans s9)
      have S79 : Same H7 H9 := s8.trans s9
      have eo := el0 sz1
      have rp : (List.replicate sz (none : Option Int)).map oV = List.replicate sz V.non := List.map_replicate
      have S47 : Same H4 H7 := s5.trans (s6.trans s7)
      refine ⟨p0, k0, d0, l0, p1, k1, d1, l1, ⟨sz, none, List.replicate sz none⟩, ⟨sz, none, List.replicate sz none⟩, [], [], sY _ _ (S59 _ _ hG5), sY _ _ (s9 _ _ hS8), ⟨⟨dx0, ?_, ?_, ?_, ?_⟩, eo, rfl, Nat.le_refl _⟩, ⟨⟨dx1, ?_, ?_, ?_, ?_⟩, eo, rfl, Nat.le_refl _⟩, ?_, ne_of_none hp0 np1, ne_of_none ((s7.trans (Same.refl _)) _ _ hd0 |> fun z => hd0) nd1, hY, ?_, ?_, ?_, ?_⟩
      · exact sY _ _ (S39 _ _ hp0)
      · exact (sY _ _ (S39 _ _ hk0)).trans (by rw [rp])
      · exact sY _ _ (S69 _ _ hd0)
      · exact sY _ _ (S69 _ _ hl0)
      · exact sY _ _ (S49 _ _ hp1)
      · exact (sY _ _ (S49 _ _ hk1)).trans (by rw [rp])
      · exact sY _ _ (S79 _ _ hd1)
      · exact sY _ _ (S79 _ _ hl1)
      · have a1 : G ≠ S := ne_of_none ((s6.trans s7) _ _ hG5) nS
        have a2 : G ≠ k0 := (ne_of_none (s4 _ _ hk0) nG).symm
        have a3 : G ≠ l0 := ne_of_none hG5 nl0
        have a4 : G ≠ k1 := (ne_of_none hk1 nG).symm
        have a5 : G ≠ l1 := ne_of_none (s6 _ _ hG5) nl1
        have b1 : S ≠ k0 := (ne_of_none (S47 _ _ (s4 _ _ hk0)) nS).symm
        have b2 : S ≠ l0 := (ne_of_none (s7 _ _ hl0) nS).symm
        have b3 : S ≠ k1 := (ne_of_none (S47 _ _ hk1) nS).symm
        have b4 : S ≠ l1 := (ne_of_none hl1 nS).symm
        have c1 : k0 ≠ l0 := ne_of_none (s5 _ _ (s4 _ _ hk0)) nl0
        have c2 : k0 ≠ k1 := ne_of_none hk0 nk1
        have c3 : k0 ≠ l1 := ne_of_none ((s5.trans s6) _ _ (s4 _ _ hk0)) nl1
        have c4 : l0 ≠ k1 := (ne_of_none (s5 _ _ hk1) nl0).symm
        have c5 : l0 ≠ l1 := ne_of_none hl0 nl1
        have c6 : k1 ≠ l1 := ne_of_none ((s5.trans s6) _ _ hk1) nl1
        simp only [List.nodup_cons, List.mem_cons, List.not_mem_nil, or_false, not_or, not_false_eq_true, List.nodup_nil, and_true]
        exact ⟨⟨a1, a2, a3, a4, a5⟩, ⟨b1, b2, b3, b4⟩, ⟨c1, c2, c3⟩, ⟨c4, c5⟩, c6⟩
      · exact (ne_of_none (S39 _ _ hk0) nY).symm
      · exact (ne_of_none (S69 _ _ hl0) nY).symm
      · exact (ne_of_none (S49 _ _ hk1) nY).symm
      · exact (ne_of_none (S79 _ _ hl1) nY).symm
    have SF : Same H (upd H9 Y (.lst (cs.map V.int))) := S9.trans sY
    revert G0 hY
    generalize (upd H9 Y (.lst (cs.map V.int))) = H10
    intro hY G0
    refine ⟨Y, rfl, ⟨_, SqL.of hY⟩, for_list (K := K) (a := Y) (xs := cs.map V.int) (fun i σ H' => ∃ (n : Int) (v6 v7 v8 v9 v10 : Option V), σ = [some (.ref a), some (.ref pz), some (.int (sz : Int)), some (.ref G), some (.ref S), some (.int n), v6, v7, v8, v9, v10] ∧ Gts C H' G S Y (cs.map V.int) sz i) ⟨n0, none, none, none, none, none, rfl, G0⟩ (fun i σ H' _ ⟨_, _, _, _, _, _, _, g⟩ => SqL.of g.y) ?_ ?_⟩
    · rintro i x σ H11 hi ⟨n, v6, v7, v8, v9, v10, rfl, g⟩
      obtain ⟨cv, ec, rfl⟩ := ints_at hi
      have il : i < cs.length := (List.getElem?_eq_some_iff.mp ec).1
      refine ⟨_, rfl, _, _, rfl, rfl, ⟨by decide, by decide, by decide⟩, cv, 1048576, 3, rfl, by decide, by decide, by decide, fun H12 pn ms s12 npn hn ln bn => ?_⟩
      have g := g.same s12
      refine ⟨_, rfl, pn, _, _, _, rfl, rfl, SqL.of hn, atI_ints (j := 0) rfl (by omega), _, _, rfl, rfl, (by show (0 : Int) < 9; decide), _, _, rfl, rfl, ?_⟩
      refine ⟨fun σ H' => ∃ st : Int, σ = [some (.ref a), some (.ref pz), some (.int (sz : Int)), some (.ref G), some (.ref S), some (.int n), some (.int cv), some (.ref pn), some (.int st), v9, v10] ∧ H' = H12, ?_, ?_⟩
      · refine ⟨_, rfl, pn, _, _, _, rfl, rfl, SqL.of hn, atI_ints (j := 1) rfl (by omega), _, _, rfl, rfl, (by show (0 : Int) < 6; decide), rfl, _, rfl, ite2 (fun _ => ?_) (fun _ => ⟨_, rfl, rfl⟩)⟩
        exact ⟨_, rfl, pn, _, _, _, rfl, rfl, SqL.of hn, atI_ints (j := 0) rfl (by omega), _, _, rfl, rfl, (by show (0 : Int) < 65536; decide), _, rfl, rfl⟩
      rintro σ H13 ⟨st, rfl, rfl⟩
      refine ⟨fun σ H' => ∃ st : Int, σ = [some (.ref a), some (.ref pz), some (.int (sz : Int)), some (.ref G), some (.ref S), some (.int n), some (.int cv), some (.ref pn), some (.int st), v9, v10] ∧ H' = H13, ?_, ?_⟩
      · refine ⟨_, rfl, pn, _, _, _, rfl, rfl, SqL.of hn, atI_ints (j := 1) rfl (by omega), _, _, rfl, rfl, (by show (0 : Int) < 6; decide), rfl, _, rfl, ite2 (fun _ => ?_) (fun _ => ⟨_, rfl, rfl⟩)⟩
        exact ⟨_, rfl, pn, _, _, _, rfl, rfl, SqL.of hn, atI_ints (j := 0) rfl (by omega), _, _, rfl, rfl, (by show (0 : Int) < 200; decide), _, _, rfl, rfl, _, rfl, rfl⟩
      rintro σ H12 ⟨st, rfl, rfl⟩
      refine ⟨_, rfl, _, rfl, _, _, rfl, rfl, .inl ⟨_, rfl, _, _, rfl, rfl, (by show (0 : Int) < 65536; decide), ?_⟩⟩
      refine ⟨_, rfl, pn, _, _, _, rfl, rfl, SqL.of hn, atI_ints (j := 2) rfl (by omega), _, _, rfl, rfl, (by show (0 : Int) < 2; decide), ?_⟩
      obtain ⟨p, k, d, l, E, L, gl, sl, hG, eG, hS, eS, tk, u1, u2, u3, u4, u5, u6, close⟩ := g.pick (w := ms.getD 2 0 % 2) ⟨Int.emod_nonneg _ (by decide), Int.emod_lt_of_pos _ (by decide)⟩
      obtain ⟨dx, t1, t2, t3, t4⟩ := id tk.at_
      have esz := tk.sz
      have tl := tk.le
      refine ⟨_, rfl, _, rfl, G, _, _, _, rfl, rfl, SqL.of hG, eG, p, dx, _, rfl, t1, em1, _, rfl, ?_⟩
      refine ⟨p, dx, k, (n + st) % 65536, E, rfl, t1, t2, tk.ok.len, tk.ok.s1, fun H13 f1 q1 q2 => ?_⟩
      refine ⟨_, rfl, .bl _, .ty "bool", .type "bool", .type "bool", true, rfl, .ty "bool", .base (.bl _), kit_ty (by decide +kernel), _, rfl, iteF ?_⟩
      have hS13 := f1 _ _ hS u1 u2
      have hd13 := f1 _ _ t3 u3 u4
      have hl13 := f1 _ _ t4 u5 u6
      refine ⟨_, rfl, _, rfl, _, rfl, S, _, _, _, rfl, rfl, SqL.of hS13, eS, _, rfl, _, rfl, ?_⟩
      refine ⟨d, l, E, L, (n + st) % 65536, by rw [esz]; rfl, tk.ok, hd13, hl13, by omega, fun H14 l2 f2 e2 q3 q4 => ?_⟩
      refine ⟨rfl, _, rfl, ite2 (fun z => ?_) (fun _ => ?_)⟩
      · exact absurd z (by simp)
      obtain ⟨ok2, le2⟩ := el_any (n := (n + st) % 65536) tk.ok
      have npd : p ≠ d := ne_of q1 hd13 (by intro y; cases y)
      have npl : p ≠ l := ne_of q1 hl13 (by intro y; cases y)
      have nkd : k ≠ d := ne_of q2 hd13 (by intro y; cases y)
      refine ⟨_, _, _, _, _, _, rfl, close H14 l2 (elNew E ((n + st) % 65536)) _ (fun b o z n1 n2 n3 n4 => f2 _ _ (f1 _ _ z n1 n2) n3 n4) (e2.imp id fun z => ?_) ⟨⟨dx, ?_, f2 _ _ q2 nkd u6.symm, q3, q4⟩, ok2, by rw [elNew_sz, esz], by omega⟩⟩
      · cases y : H12 l2 with
        | none => rfl
        | some o =>
          rw [f1 _ _ y (ne_of_none q1 z).symm (ne_of_none q2 z).symm] at z
          cases z
      · rw [elNew_sz]
        exact f2 _ _ q1 npd npl
    · rintro σ H11 ⟨n, v6, v7, v8, v9, v10, rfl, g⟩
      exact q _
end
end My
namespace My
open PySem PySem.Spec PyProof.Rows L2
/-! ### what the top has written, the head -/
theorem all_mk {l : PySem.W.OpenLaw} {w : World} {K : PySem.W.Frag} {h : Heap} {mg : Str → Option Value} {fa C fI fTk fD fCe fA fLt fL : Addr} (X : K.In h) (G : h.Ns mainGlobals mg) (hfa : mg "law" = some (.ref fa))
    {tN : Tok}
    {odI anI : Option Addr} {slI : Array (Option Value)} {ocI dcI pmI cdI ctI kVI : Value}
    {odTk anTk : Option Addr} {slTk : Array (Option Value)} {ocTk kVTk dcTk pmTk cdTk ctTk : Value}
    {odD anD : Option Addr} {slD : Array (Option Value)} {ocD kVD dcD pmD cdD ctD : Value}
    {odCe anCe : Option Addr} {slCe : Array (Option Value)} {ocCe kVCe dcCe pmCe cdCe ctCe : Value}
    {odA anA : Option Addr} {slA : Array (Option Value)} {ocA kVA dcA pmA cdA ctA : Value}
    {odLt anLt : Option Addr} {slLt : Array (Option Value)} {ocLt kVLt dcLt pmLt cdLt ctLt : Value}
    {odL anL : Option Addr} {slL : Array (Option Value)} {ocL kVL dcL pmL cdL ctL : Value}
    (aC : PySem.W.nsIn K mainGlobals "Eliminator" = some (some (.ref C)))
    (aI : PySem.W.findIn K (.ref C) "__init__" = some (some (.ref fI)))
    (iI : PySem.W.isFn K (.ref fI) = true)
    (lI : K.lookup fI = some ⟨ocI, odI, .func (PySem.W.fnOf "__init__" "Eliminator.__init__" (defArgs sEInit) (defBody sEInit) (defScope sEInit) .none kVI dcI pmI anI cdI ctI), slI⟩)
    (cI : PySem.W.codeIn K cdI "Eliminator.__init__" = true)
    (kI : PySem.W.keepIn K (.ref fI) = true)
    (aTk : PySem.W.findIn K (.ref C) "take" = some (some (.ref fTk)))
    (iTk : PySem.W.isFn K (.ref fTk) = true)
    (lTk : K.lookup fTk = some ⟨ocTk, odTk, .func (PySem.W.fnOf "take" "Eliminator.take" (defArgs sTake) (defBody sTake) (defScope sTake) .none kVTk dcTk pmTk anTk cdTk ctTk), slTk⟩)
    (cTk : PySem.W.codeIn K cdTk "Eliminator.take" = true)
    (kTk : PySem.W.keepIn K (.ref fTk) = true)
    (pgC : PySem.W.plainGet K C Str.empty = true)
    (hdC : PySem.W.hasDictIn K C = true)
    (poC : PySem.W.plainOver K C = true)
    (saC : PySem.W.findIn K (.ref C) "__setattr__" = some (some (.builtin "object.__setattr__")))
    (mkC : PySem.W.makesIn K C = true)
    (kcC : PySem.W.keepIn K (.ref C) = true)
    (nC1 : PySem.W.findIn K (.ref C) "size" = some none)
    (nC2 : PySem.W.findIn K (.ref C) "top" = some none)
    (nC3 : PySem.W.findIn K (.ref C) "taken" = some none)
    (aD : PySem.W.nsIn K mainGlobals "_law_draw" = some (some (.ref fD)))
    (lD : K.lookup fD = some ⟨ocD, odD, .func (PySem.W.fnOf "_law_draw" "_law_draw" (defArgs sDraw) (defBody sDraw) (defScope sDraw) .none kVD dcD pmD anD cdD ctD), slD⟩)
    (cD : PySem.W.codeIn K cdD "_law_draw" = true)
    (kD : PySem.W.keepIn K (.ref fD) = true)
    (aCe : PySem.W.nsIn K mainGlobals "_law_cell" = some (some (.ref fCe)))
    (lCe : K.lookup fCe = some ⟨ocCe, odCe, .func (PySem.W.fnOf "_law_cell" "_law_cell" (defArgs sCell) (defBody sCell) (defScope sCell) .none kVCe dcCe pmCe anCe cdCe ctCe), slCe⟩)
    (cCe : PySem.W.codeIn K cdCe "_law_cell" = true)
    (kCe : PySem.W.keepIn K (.ref fCe) = true)
    (aA : PySem.W.nsIn K mainGlobals "_law_ahead" = some (some (.ref fA)))
    (lA : K.lookup fA = some ⟨ocA, odA, .func (PySem.W.fnOf "_law_ahead" "_law_ahead" (defArgs sAhead) (defBody sAhead) (defScope sAhead) .none kVA dcA pmA anA cdA ctA), slA⟩)
    (cA : PySem.W.codeIn K cdA "_law_ahead" = true)
    (kA : PySem.W.keepIn K (.ref fA) = true)
    (aLt : PySem.W.nsIn K mainGlobals "_law_take" = some (some (.ref fLt)))
    (lLt : K.lookup fLt = some ⟨ocLt, odLt, .func (PySem.W.fnOf "_law_take" "_law_take" (defArgs sLTake) (defBody sLTake) (defScope sLTake) .none kVLt dcLt pmLt anLt cdLt ctLt), slLt⟩)
    (cLt : PySem.W.codeIn K cdLt "_law_take" = true)
    (kLt : PySem.W.keepIn K (.ref fLt) = true)
    (aL : PySem.W.nsIn K mainGlobals "law" = some (some (.ref fL)))
    (lL : K.lookup fL = some ⟨ocL, odL, .func (PySem.W.fnOf "law" "law" (defArgs sLaw) (defBody sLaw) (defScope sLaw) .none kVL dcL pmL anL cdL ctL), slL⟩)
    (cL : PySem.W.codeIn K cdL "law" = true)
    (kL : PySem.W.keepIn K (.ref fL) = true)
    (z_range : PySem.W.nsIn K mainGlobals "range" = some none)
    (z_len : PySem.W.nsIn K mainGlobals "len" = some none)
    (z_int : PySem.W.nsIn K mainGlobals "int" = some none)
    (z_list : PySem.W.nsIn K mainGlobals "list" = some none)
    (z_enum : PySem.W.nsIn K mainGlobals "enumerate" = some none)
    (z_isi : PySem.W.nsIn K mainGlobals "isinstance" = some none)
    (z_bool : PySem.W.nsIn K mainGlobals "bool" = some none)
    (z_max : PySem.W.nsIn K mainGlobals "max" = some none)
    (zN : PySem.W.nsIn K mainGlobals "NUMBERS" = some (some (.int 65536 tN))) :
    ∃ fd : FuncData, (∀ (s : Shared) (v : Value), BindsTo s fd ⟨[v], []⟩ [("script", v)]) ∧ ∀ base : Heap, K.In base → base.Ns mainGlobals mg → FnOk l.prog w K mg base CX0 3 fa fd ["script"] (spLaw K) := by
  have e := hfa.symm.trans (PySem.W.mg_of X G aL)
  cases e
  have T : Blt mg := ⟨PySem.W.mg_none_of X G z_range, PySem.W.mg_none_of X G z_len, PySem.W.mg_none_of X G z_int, PySem.W.mg_none_of X G z_list, PySem.W.mg_none_of X G z_enum⟩
  have hrange := PySem.W.mg_none_of X G z_range
  have hlen := PySem.W.mg_none_of X G z_len
  have hint := PySem.W.mg_none_of X G z_int
  have hlist := PySem.W.mg_none_of X G z_list
  have henum := PySem.W.mg_none_of X G z_enum
  have hisi := PySem.W.mg_none_of X G z_isi
  have hbool := PySem.W.mg_none_of X G z_bool
  have hmax := PySem.W.mg_none_of X G z_max
  have cC : ElC K C := ⟨⟨pgC, hdC, poC, saC⟩, nC1, nC2, nC3⟩
  have gCC := PySem.W.mg_of X G aC
  have FI := fun_mk (st := sEInit) lI cI kI
  have BI : Binds K _ ["self", "size"] [] := FI.binds (ps := ["self", "size"]) fun _ _ _ _ _ _ us hl => match us, hl with | [_, _], _ => rfl
  have MIC : Mk K C fI := ⟨mkC, aI, iI, kcC⟩
  have FTk := fun_mk (st := sTake) lTk cTk kTk
  have mTk : Meth K C "take" fTk := ⟨aTk, iTk, kTk⟩
  have BTk : Binds K _ ["self", "number"] [] := FTk.binds (ps := ["self", "number"]) fun _ _ _ _ _ _ us hl => match us, hl with | [_, _], _ => rfl
  have FD := fun_mk (st := sDraw) lD cD kD
  have gD := PySem.W.mg_of X G aD
  have BD : Binds K _ ["cell", "many", "bound"] [] := FD.binds (ps := ["cell", "many", "bound"]) fun _ _ _ _ _ _ us hl => match us, hl with | [_, _, _], _ => rfl
  have FCe := fun_mk (st := sCell) lCe cCe kCe
  have gCe := PySem.W.mg_of X G aCe
  have BCe : Binds K _ ["script", "k"] [] := FCe.binds (ps := ["script", "k"]) fun _ _ _ _ _ _ us hl => match us, hl with | [_, _], _ => rfl
  have FA := fun_mk (st := sAhead) lA cA kA
  have gA := PySem.W.mg_of X G aA
  have BA : Binds K _ ["number", "top"] [] := FA.binds (ps := ["number", "top"]) fun _ _ _ _ _ _ us hl => match us, hl with | [_, _], _ => rfl
  have FLt := fun_mk (st := sLTake) lLt cLt kLt
  have gLt := PySem.W.mg_of X G aLt
  have BLt : Binds K _ ["state", "size", "number"] [] := FLt.binds (ps := ["state", "size", "number"]) fun _ _ _ _ _ _ us hl => match us, hl with | [_, _, _], _ => rfl
  have FL := fun_mk (st := sLaw) lL cL kL
  refine ⟨PySem.W.fnOf "law" "law" (defArgs sLaw) (defBody sLaw) (defScope sLaw) .none kVL dcL pmL anL cdL ctL, fun s v => .of_eq rfl, fun base _ _ => ?_⟩
  have hN := PySem.W.mg_of X G zN
  have GE : ElMk l.prog w K mg base C fI _ := ⟨ok_einit FI cC, gCC, MIC, BI, kcC⟩
  have GT : MethE l.prog w K mg base 1 ["self", "number"] (spTake C) fTk _ := ⟨ok_take FTk cC hN hmax, BTk⟩
  have GD : Callee l.prog w K mg base 1 "_law_draw" ["cell", "many", "bound"] spDraw fD _ := ⟨ok_draw FD T, gD, FD.kp, BD⟩
  have GCe : Callee l.prog w K mg base 1 "_law_cell" ["script", "k"] (spCell K) fCe _ := ⟨ok_cell FCe T, gCe, FCe.kp, BCe⟩
  have GA : Callee l.prog w K mg base 1 "_law_ahead" ["number", "top"] spAhead fA _ := ⟨ok_ahead FA T, gA, FA.kp, BA⟩
  have GLt : Callee l.prog w K mg base 2 "_law_take" ["state", "size", "number"] (spLTake K) fLt _ := ⟨ok_ltake FLt T GA, gLt, FLt.kp, BLt⟩
  exact ok_law FL T hisi hbool cC GD GCe GE mTk GT GLt
end My
open PySem PySem.W PyProof.Rows in
set_option maxHeartbeats 0 in
theorem PySem.Challenge.cw_metronet_k17_numbers_that_are_taken_holds : PySem.Challenge.rw_metronet_k17_numbers_that_are_taken.Holds := by
  w_on; o_law; k_head; (case hw => w_witness2)
  k_fill
  refine L2.walk_of (l := PySem.Challenge.rw_metronet_k17_numbers_that_are_taken) (n := 63) (k := 3) (x := "script") (CX := fun _ => L2.CX0) (sp := fun w => My.spLaw _) rfl (by decide) rfl ⟨rfl, by decide, by decide⟩ (fun w h Y => PySem.W.kIn_of Y) ?F (fun _ _ a ns hl _ hS => ⟨a, ns, rfl, hS, hl, fun _ => rfl⟩) (fun _ _ _ _ _ h => h)
  case F =>
    intro w mg fa h KX G hmg
    refine' My.all_mk KX G hmg ?aC ?aI ?iI ?lI ?cI ?kI ?aTk ?iTk ?lTk ?cTk ?kTk ?pgC ?hdC ?poC ?saC ?mkC ?kcC ?nC1 ?nC2 ?nC3 ?aD ?lD ?cD ?kD ?aCe ?lCe ?cCe ?kCe ?aA ?lA ?cA ?kA ?aLt ?lLt ?cLt ?kLt ?aL ?lL ?cL ?kL ?z_range ?z_len ?z_int ?z_list ?z_enum ?z_isi ?z_bool ?z_max ?zN
    (case aC => k_is)
    (case aI => k_is)
    (case iI => k_is)
    (case lI => k_is)
    (case cI => k_is)
    (case kI => k_is)
    (case aTk => k_is)
    (case iTk => k_is)
    (case lTk => k_is)
    (case cTk => k_is)
    (case kTk => k_is)
    (case pgC => k_is)
    (case hdC => k_is)
    (case poC => k_is)
    (case saC => k_is)
    (case mkC => k_is)
    (case kcC => k_is)
    (case nC1 => k_is)
    (case nC2 => k_is)
    (case nC3 => k_is)
    (case aD => k_is)
    (case lD => k_is)
    (case cD => k_is)
    (case kD => k_is)
    (case aCe => k_is)
    (case lCe => k_is)
    (case cCe => k_is)
    (case kCe => k_is)
    (case aA => k_is)
    (case lA => k_is)
    (case cA => k_is)
    (case kA => k_is)
    (case aLt => k_is)
    (case lLt => k_is)
    (case cLt => k_is)
    (case kLt => k_is)
    (case aL => k_is)
    (case lL => k_is)
    (case cL => k_is)
    (case kL => k_is)
    (case z_range => k_is)
    (case z_len => k_is)
    (case z_int => k_is)
    (case z_list => k_is)
    (case z_enum => k_is)
    (case z_isi => k_is)
    (case z_bool => k_is)
    (case z_max => k_is)
    (case zN => k_is)
