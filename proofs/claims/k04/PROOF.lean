import PyProof.Rows.All
import Wide.All
import OpenK.AllK
import Wide.FinOn
import HandS.ForMost
import HandS.Wide
import HandS.Defaults
import HandS.MakeKwOnly
import HandS.Flow
import HandS.More
import HandS.Walk
import KE.LtData
import HandS.Gcd
import HandS.IsInst
import KE.KMathGC
import PySem.Challenge.RW_metronet_k04_windows_that_meet
set_option Elab.async false
set_option linter.all false
set_option maxRecDepth 100000
set_option maxHeartbeats 4000000
/-! What any law wants, without the row: heaps, loops, order of data. -/
namespace My
open PySem PySem.Spec PyProof.Rows L2

theorem same_new {H : Hp} {p : Addr} {o : HO} (h : H p = none) : Same H (upd H p o) := fun b x e => by
  rw [upd_ne (ne_of_none e h)]
  exact e
/-- an object that H does not know may change -/
theorem same_mut {H H' : Hp} {p : Addr} {o : HO} (e : Same H H') (h : H p = none) : Same H (upd H' p o) := fun a u ha => by
  rw [upd_ne (ne_of_none ha h)]
  exact e a u ha
theorem ne_new {H H' : Hp} {a p : Addr} (n : H p = none) (h : H' p ≠ none) (e : H' a = none) : p ≠ a := fun q => h (q ▸ e)
/-- a list of ints by place -/
theorem ints_at {ns : List Int} {i : Nat} {y : V} (h : (ns.map V.int)[i]? = some y) : ∃ n, ns[i]? = some n ∧ y = .int n := by
  rw [List.getElem?_map] at h
  cases e : ns[i]? with
  | none => rw [e] at h; cases h
  | some n => rw [e] at h; exact ⟨n, rfl, (Option.some.inj h).symm⟩
theorem int_at {ns : List Int} {i : Nat} {n : Int} (h : ns[i]? = some n) : (ns.map V.int)[i]? = some (.int n) := by
  rw [List.getElem?_map, h]; rfl
theorem atI_int {ns : List Int} {i : Nat} (h : i < ns.length) : atI (ns.map V.int) (i : Int) = some (.int ns[i]) := atI_nat (int_at (List.getElem?_eq_getElem h))
theorem sz {n : Nat} (h : n ≤ 100000) : n ≤ sizeLine := Nat.le_trans h (by decide)
theorem szl {n : Nat} (h : n < 100000) : n < sizeLine := Nat.lt_of_lt_of_le h (by decide)

theorem getD_lt {α : Type} {xs : List α} {j : Nat} (d : α) (h : j < xs.length) : xs.getD j d = xs[j] := by
  rw [List.getD_eq_getElem?_getD, List.getElem?_eq_getElem h]; rfl
theorem getD_at {α : Type} {xs : List α} {j : Nat} (d : α) (h : j < xs.length) : xs[j]? = some (xs.getD j d) := by
  rw [getD_lt d h, List.getElem?_eq_getElem h]
theorem atI_ints {ns : List Int} {z : Int} {j : Nat} (e : z = (j : Int)) (h : j < ns.length) : atI (ns.map V.int) z = some (.int (ns.getD j 0)) := by
  rw [e]
  exact atI_nat (int_at (getD_at 0 h))
theorem getD_mem {ns : List Int} {j : Nat} (h : j < ns.length) : ns.getD j 0 ∈ ns := by
  rw [getD_lt 0 h]; exact List.getElem_mem h
/-! ### tests that change nothing -/
theorem or_read {t u : TT} {σ : L2.St} {H : Hp} {Q : Bool → Hp → Prop} {a b : Bool} (ht : ∀ Q : Bool → Hp → Prop, Q a H → t σ H Q) (hu : ∀ Q : Bool → Hp → Prop, Q b H → u σ H Q) (h : Q (a || b) H) : tOr t u σ H Q := by
  refine ht _ ?_
  cases a with
  | true => exact iteT h
  | false => exact iteF (hu _ h)
theorem and_read {t u : TT} {σ : L2.St} {H : Hp} {Q : Bool → Hp → Prop} {a b : Bool} (ht : ∀ Q : Bool → Hp → Prop, Q a H → t σ H Q) (hu : a = true → ∀ Q : Bool → Hp → Prop, Q b H → u σ H Q) (h : Q (a && b) H) : tAnd t u σ H Q := by
  refine ht _ ?_
  cases a with
  | true => exact iteT (hu rfl _ h)
  | false => exact iteF h
/-! ### < of data -/
section
variable {X : Cx}
def rLtD (K : PySem.W.Frag) : R2 := fun x y H Q => ∃ d e, Dp K H x d ∧ Dp K H y e ∧ PySem.W.alike d e = true ∧ d ≠ .none ∧ min d.depth e.depth ≤ 64 ∧ Q (.bl (PySem.W.dataLt d e)) H
theorem op_ltD (hu : X.A.units + 64 < cLine) : OpR X (compareOp .Lt) (rLtD X.K) := by
  intro pins s σ H x y v u Q I rx ry h
  obtain ⟨d, e, hd, he, al, nn, dp, q⟩ := h
  obtain ⟨as, r1⟩ := Dp.reads I d x v hd rx
  obtain ⟨bs, r2⟩ := Dp.reads I e y u he ry
  have z : wpAny (model X.prog X.w) X.A (compareOp .Lt v u) (EP X pins σ Q) X.xe s := PySem.W.rcLt_alike d e X.A s v u as bs r1 r2 al nn (by omega) X.prog X.w X.xe (EP X pins σ Q) ⟨.bl _, H, I, rfl, q⟩
  exact z
end
/-! ### rules that name the written part, for a comprehension's block -/
section
variable {X : Cx} {K : PySem.W.Frag}
theorem pe_fldK {e : Expr} {f : Str} {pos : Pos} {ta : TE} (he : PE X e ta) (hK : X.K = K := by rfl) (hb : attributeBase e f X.env (eval e X.env) = eval e X.env := by rfl) : PE X (.Attribute e f pos) (tFld K ta f) := by
  subst hK
  exact pe_fld he hb
theorem ix_listK (hK : X.K = K := by rfl) : IxR X (rIxL K) := by
  subst hK
  exact ix_list
theorem ix_tupK (hK : X.K = K := by rfl) : IxR X (rIxT K) := by
  subst hK
  exact ix_tup
def rLenK (K : PySem.W.Frag) : List V → Hp → VK → Prop := fun xs H Q => ∃ p ys, xs = [.ref p] ∧ (SqL K H p ys ∨ SqT K H p ys) ∧ Q (.int ys.length) H
theorem call_lenK (hK : X.K = K := by rfl) : CallR X (.builtin "len") (rLenK K) := by
  subst hK
  exact call_len_seq
theorem pg_tupK {es : List Expr} {k : Nat} {t : TGs} {n : Nat} {pos : Pos} (hc : X.calm = true) (h : PGs X es t) (hK : X.K = K := by rfl)
    (hn : (assignEach es X.env).length = n := by rfl) (hst : (assignEach es X.env).findIdx? (·.1) = none := by rfl) : PG X (.Tuple es k pos) (gTup K n t) := by
  subst hK
  exact pg_tup hc h hn hst
end
end My
/-! Nets as data, how the heap bears them. No row. -/
namespace My
open PySem PySem.Spec PyProof.Rows L2
/-- a net as data: host or not, the lines, processing, clock bound -/
structure NetD where
  ks : List Bool
  ls : List (Nat × Nat × Int)
  pr : Int
  er : Int
def kindV (b : Bool) : V := .str (if b then "host" else "switch")
def lineV (l : Nat × Nat × Int) : List V := [.int (l.1 : Int), .int (l.2.1 : Int), .int l.2.2]
def key2 (a b : Nat) : List Key := [Sum.inl (a : Int), Sum.inl (b : Int)]
def put2 (acc : List (List Key × V)) (l : Nat × Nat × Int) : List (List Key × V) := putK (putK acc (key2 l.1 l.2.1) (.int l.2.2)) (key2 l.2.1 l.1) (.int l.2.2)
def delaysOf (ls : List (Nat × Nat × Int)) : List (List Key × V) := ls.foldl put2 []
theorem put2_len (acc : List (List Key × V)) (l : Nat × Nat × Int) : (put2 acc l).length ≤ acc.length + 2 := by
  have h1 := length_putK (putK acc (key2 l.1 l.2.1) (.int l.2.2)) (key2 l.2.1 l.1) (.int l.2.2)
  have h2 := length_putK acc (key2 l.1 l.2.1) (.int l.2.2)
  unfold put2
  omega
theorem foldl_len : ∀ (ls : List (Nat × Nat × Int)) (acc : List (List Key × V)), (ls.foldl put2 acc).length ≤ acc.length + 2 * ls.length
  | [], acc => by simp
  | l :: r, acc => by
    have := foldl_len r (put2 acc l)
    have := put2_len acc l
    rw [List.foldl_cons, List.length_cons]
    omega
theorem delays_len (ls : List (Nat × Nat × Int)) : (delaysOf ls).length ≤ 2 * ls.length := by
  have := foldl_len ls []
  rw [List.length_nil] at this
  unfold delaysOf
  omega
theorem delays_snoc (ls : List (Nat × Nat × Int)) (l : Nat × Nat × Int) : delaysOf (ls ++ [l]) = put2 (delaysOf ls) l := by
  unfold delaysOf
  rw [List.foldl_append]
  rfl
theorem take_snoc {α : Type} {xs : List α} {i : Nat} {x : α} (h : xs[i]? = some x) : xs.take (i + 1) = xs.take i ++ [x] := by
  rw [List.take_add_one, h]
  rfl
theorem key2_inj {a b c d : Nat} (e : key2 a b = key2 c d) : a = c ∧ b = d := by
  unfold key2 at e
  injection e with e1 e2
  injection e2 with e2 _
  injection e1 with e1
  injection e2 with e2
  exact ⟨by omega, by omega⟩
/-- the line joins both nodes -/
def hits (a b : Nat) (l : Nat × Nat × Int) : Bool := (decide (l.1 = a) && decide (l.2.1 = b)) || (decide (l.1 = b) && decide (l.2.1 = a))
theorem valV_put2 (acc : List (List Key × V)) (l : Nat × Nat × Int) (a b : Nat) : valV (put2 acc l) (key2 a b) = if hits a b l = true then some (.int l.2.2) else valV acc (key2 a b) := by
  unfold put2 hits
  rw [valV_put, valV_put]
  by_cases h1 : key2 a b = key2 l.2.1 l.1
  · obtain ⟨e1, e2⟩ := key2_inj h1
    rw [if_pos h1, if_pos]
    simp [e1, e2]
  · rw [if_neg h1]
    by_cases h2 : key2 a b = key2 l.1 l.2.1
    · obtain ⟨e1, e2⟩ := key2_inj h2
      rw [if_pos h2, if_pos]
      simp [e1, e2]
    · rw [if_neg h2, if_neg]
      intro h
      rw [Bool.or_eq_true, Bool.and_eq_true, Bool.and_eq_true, decide_eq_true_eq, decide_eq_true_eq, decide_eq_true_eq, decide_eq_true_eq] at h
      rcases h with ⟨e1, e2⟩ | ⟨e1, e2⟩
      · exact h2 (by rw [e1, e2])
      · exact h1 (by rw [e1, e2])
theorem valV_fold (a b : Nat) : ∀ (ls : List (Nat × Nat × Int)) (acc : List (List Key × V)), (valV (ls.foldl put2 acc) (key2 a b)).isSome = (ls.any (hits a b) || (valV acc (key2 a b)).isSome)
  | [], acc => by simp
  | l :: r, acc => by
    rw [List.foldl_cons, valV_fold a b r, valV_put2, List.any_cons]
    cases hits a b l with
    | true => simp
    | false => simp
def adj (N : NetD) (a b : Nat) : Bool := N.ls.any (hits a b)
theorem adj_val (N : NetD) (a b : Nat) : (valV (delaysOf N.ls) (key2 a b)).isSome = adj N a b := by
  unfold delaysOf adj
  rw [valV_fold]
  simp [valV_nil]
/-- the first line that joins both -/
def joined (N : NetD) (a b : Nat) : Option Int := (N.ls.find? (hits a b)).map (·.2.2)
theorem joined_some (N : NetD) (a b : Nat) : (joined N a b).isSome = adj N a b := by
  unfold joined adj
  rw [Option.isSome_map, Bool.eq_iff_iff, List.find?_isSome, List.any_eq_true]

def nbs (N : NetD) (a : Nat) : List Nat := (List.range N.ks.length).filter (adj N a)
def natsV (ns : List Nat) : List V := ns.map fun (n : Nat) => V.int (n : Int)
/-- host or not -/
def host (N : NetD) (a : Nat) : Bool := N.ks.getD a true
def lastN (r : List Nat) : Nat := r.getD (r.length - 1) 0
def okb (N : NetD) (r : List Nat) (b : Nat) : Bool := !(r.contains b) && adj N (lastN r) b
def exH (N : NetD) (r : List Nat) : List (List Nat) := ((List.range N.ks.length).filter fun b => okb N r b && host N b).map fun b => r ++ [b]
def exS (N : NetD) (r : List Nat) : List (List Nat) := ((List.range N.ks.length).filter fun b => okb N r b && !host N b).map fun b => r ++ [b]
def rowsOf (N : NetD) : Nat → List (List Nat)
  | 0 => ((List.range N.ks.length).filter (host N)).map fun a => [a]
  | t + 1 => (rowsOf N t).flatMap (exS N)
def foundOf (N : NetD) : Nat → List (List Nat)
  | 0 => []
  | t + 1 => foundOf N t ++ (rowsOf N t).flatMap (exH N)
theorem natsV_at {ns : List Nat} {i n : Nat} (h : ns[i]? = some n) : (natsV ns)[i]? = some (.int (n : Int)) := by
  unfold natsV
  rw [List.getElem?_map, h]
  rfl
theorem natsV_len (ns : List Nat) : (natsV ns).length = ns.length := List.length_map ..
theorem natsV_flat (ns : List Nat) : (natsV ns).all flatV = true := by
  rw [List.all_eq_true]
  intro x hx
  obtain ⟨n, _, rfl⟩ := List.mem_map.mp hx
  rfl
theorem natsV_in (ns : List Nat) (b : Nat) : inV (.int (b : Int)) (natsV ns) = ns.contains b := by
  unfold inV natsV
  rw [List.any_map, List.contains_eq_any_beq]
  congr 1
  funext x
  show ((x : Int) == (b : Int)) = (b == x)
  rw [Bool.eq_iff_iff, beq_iff_eq, beq_iff_eq]
  omega
theorem natsV_app (r : List Nat) (b : Nat) : natsV r ++ [V.int (b : Int)] = natsV (r ++ [b]) := by
  unfold natsV
  rw [List.map_append]
  rfl
theorem len_flat {α β : Type} (f : α → List β) (m : Nat) (h : ∀ a, (f a).length ≤ m) : ∀ l : List α, (l.flatMap f).length ≤ m * l.length
  | [] => by simp
  | a :: r => by
    have := len_flat f m h r
    have := h a
    rw [List.flatMap_cons, List.length_append, List.length_cons, Nat.mul_add]
    omega
theorem exH_len (N : NetD) (r : List Nat) : (exH N r).length ≤ N.ks.length := by
  have := List.length_filter_le (fun b => okb N r b && host N b) (List.range N.ks.length)
  unfold exH
  rw [List.length_map]
  rw [List.length_range] at this
  exact this
theorem exS_len (N : NetD) (r : List Nat) : (exS N r).length ≤ N.ks.length := by
  have := List.length_filter_le (fun b => okb N r b && !host N b) (List.range N.ks.length)
  unfold exS
  rw [List.length_map]
  rw [List.length_range] at this
  exact this
theorem rows_len (N : NetD) (h : N.ks.length ≤ 7) : ∀ t, (rowsOf N t).length ≤ 8 ^ (t + 1)
  | 0 => by
    have := List.length_filter_le (host N) (List.range N.ks.length)
    rw [List.length_range] at this
    show (((List.range N.ks.length).filter (host N)).map fun a => [a]).length ≤ 8 ^ 1
    rw [List.length_map]
    omega
  | t + 1 => by
    have h1 := rows_len N h t
    have h2 := len_flat (exS N) 7 (fun a => Nat.le_trans (exS_len N a) h) (rowsOf N t)
    show ((rowsOf N t).flatMap (exS N)).length ≤ _
    rw [Nat.pow_succ]
    omega
theorem found_len (N : NetD) (h : N.ks.length ≤ 7) : ∀ t, (foundOf N t).length ≤ 8 ^ (t + 1)
  | 0 => by simp [foundOf]
  | t + 1 => by
    have h1 := found_len N h t
    have h0 := rows_len N h t
    have h2 := len_flat (exH N) 7 (fun a => Nat.le_trans (exH_len N a) h) (rowsOf N t)
    show (foundOf N t ++ (rowsOf N t).flatMap (exH N)).length ≤ _
    rw [List.length_append, Nat.pow_succ]
    omega
theorem ex_ne (N : NetD) (r x : List Nat) (h : x ∈ exH N r ∨ x ∈ exS N r) : x ≠ [] := by
  rcases h with h | h
  · obtain ⟨b, _, rfl⟩ := List.mem_map.mp h
    simp
  · obtain ⟨b, _, rfl⟩ := List.mem_map.mp h
    simp
theorem rows_row (N : NetD) : ∀ t, ∀ r ∈ rowsOf N t, r.length = t + 1
  | 0, r, h => by
    obtain ⟨a, _, rfl⟩ := List.mem_map.mp h
    rfl
  | t + 1, r, h => by
    obtain ⟨r', h1, h2⟩ := List.mem_flatMap.mp h
    obtain ⟨b, _, rfl⟩ := List.mem_map.mp h2
    rw [List.length_append, rows_row N t r' h1]
    rfl
theorem flat_take {α β : Type} (f : α → List β) {l : List α} {i : Nat} {a : α} (h : l[i]? = some a) : (l.take (i + 1)).flatMap f = (l.take i).flatMap f ++ f a := by
  rw [take_snoc h, List.flatMap_append, List.flatMap_cons, List.flatMap_nil, List.append_nil]
theorem filt_succ {α : Type} (p : Nat → Bool) (f : Nat → α) (j : Nat) : ((List.range (j + 1)).filter p).map f = ((List.range j).filter p).map f ++ (if p j = true then [f j] else []) := by
  rw [List.range_succ, List.filter_append, List.map_append, List.filter_cons]
  split <;> rfl
def optV : Option Int → V
  | none => .non
  | some d => .int d
theorem optV_non (o : Option Int) : (!decide (optV o = .non)) = o.isSome := by
  cases o with
  | none => rfl
  | some d => rfl
theorem dec_nat (a b : Nat) : decide (V.int (a : Int) = V.int (b : Int)) = decide (a = b) := by
  by_cases h : a = b
  · rw [h]; simp
  · rw [decide_eq_false h, decide_eq_false]
    intro z
    injection z with z
    omega
theorem find_take {α : Type} (p : α → Bool) {l : List α} {i : Nat} {a : α} (h : l[i]? = some a) (h0 : (l.take i).find? p = none) (hp : p a = true) : l.find? p = some a := by
  have e : l = l.take i ++ a :: l.drop (i + 1) := by
    obtain ⟨hi, e⟩ := List.getElem?_eq_some_iff.mp h
    rw [← e, List.getElem_cons_drop, List.take_append_drop]
  rw [e, List.find?_append, h0, List.find?_cons, hp]
  rfl
theorem find_skip {α : Type} (p : α → Bool) {l : List α} {i : Nat} {a : α} (h : l[i]? = some a) (h0 : (l.take i).find? p = none) (hp : ¬ p a = true) : (l.take (i + 1)).find? p = none := by
  rw [take_snoc h, List.find?_append, h0, List.find?_cons, Bool.eq_false_iff.mpr hp]
  rfl
/-! ### the instance's attributes -/
def netF (lk ll : Addr) (pr er : Int) (ld : Addr) : List (Str × V) := [("kinds", .ref lk), ("lines", .ref ll), ("processing", .int pr), ("error", .int er), ("_delays", .ref ld)]
theorem putF_new {f : Str} {v : V} : ∀ {fs : List (Str × V)}, fs.lookup f = none → putF f v fs = fs ++ [(f, v)]
  | [], _ => rfl
  | (g, x) :: r, h => by
    have e : (f == g) = false := by
      cases q : f == g with
      | false => rfl
      | true => rw [List.lookup_cons, q] at h; cases h
    rw [List.lookup_cons, e] at h
    have ne : ¬ g = f := fun z => by rw [z] at e; simp at e
    show (if g = f then (g, v) :: r else (g, x) :: putF f v r) = _
    rw [if_neg ne, putF_new h]
    rfl
theorem f1 {lk : Addr} : putF "kinds" (.ref lk) [] = [(("kinds" : Str), V.ref lk)] := rfl
theorem f2 {lk ll : Addr} : putF "lines" (.ref ll) [(("kinds" : Str), V.ref lk)] = [(("kinds" : Str), V.ref lk), ("lines", V.ref ll)] := putF_new rfl
theorem f3 {lk ll : Addr} {pr : Int} : putF "processing" (.int pr) [(("kinds" : Str), V.ref lk), ("lines", V.ref ll)] = [(("kinds" : Str), V.ref lk), ("lines", V.ref ll), ("processing", .int pr)] := putF_new rfl
theorem f4 {lk ll : Addr} {pr er : Int} : putF "error" (.int er) [(("kinds" : Str), V.ref lk), ("lines", V.ref ll), ("processing", .int pr)] = [(("kinds" : Str), V.ref lk), ("lines", V.ref ll), ("processing", .int pr), ("error", .int er)] := putF_new rfl
theorem f5 {lk ll ld : Addr} {pr er : Int} : putF "_delays" (.ref ld) [(("kinds" : Str), V.ref lk), ("lines", V.ref ll), ("processing", .int pr), ("error", .int er)] = netF lk ll pr er ld := putF_new rfl
section
variable {lk ll ld : Addr} {pr er : Int}
theorem g1 : (netF lk ll pr er ld).lookup ("kinds" : Str) = some (.ref lk) := rfl
theorem g2 : (netF lk ll pr er ld).lookup ("lines" : Str) = some (.ref ll) := rfl
theorem g3 : (netF lk ll pr er ld).lookup ("processing" : Str) = some (.int pr) := rfl
theorem g4 : (netF lk ll pr er ld).lookup ("error" : Str) = some (.int er) := rfl
theorem g5 : (netF lk ll pr er ld).lookup ("_delays" : Str) = some (.ref ld) := rfl
theorem g6 : (netF lk ll pr er ld).lookup ("neighbours" : Str) = none := rfl
theorem g7 : (netF lk ll pr er ld).lookup ("delay" : Str) = none := rfl
end
/-- tuples of lines -/
abbrev LinesAt (K : PySem.W.Frag) (H : Hp) (ts : List Addr) (ls : List (Nat × Nat × Int)) : Prop := Paired (fun (t : Addr) (l : Nat × Nat × Int) => SqT K H t (lineV l)) ts ls
theorem same_tup {K : PySem.W.Frag} {H H' : Hp} {a : Addr} {xs : List V} (e : Same H H') (h : SqT K H a xs) : SqT K H' a xs := by
  rcases h with (h | ⟨o, h⟩) | h
  · exact .inl (.inl (e _ _ h))
  · exact .inl (.inr ⟨o, e _ _ h⟩)
  · exact .inr h
theorem Paired.imp {α β : Type} {F G : α → β → Prop} : ∀ {l1 : List α} {l2 : List β}, Paired F l1 l2 → (∀ a b, F a b → G a b) → Paired G l1 l2
  | _, _, .nil, _ => .nil
  | _, _, .cons r t, f => .cons (f _ _ r) (Paired.imp t f)
theorem Paired.at {α β : Type} {F : α → β → Prop} : ∀ {xs : List α} {ys : List β}, Paired F xs ys → ∀ {i : Nat} {x : α}, xs[i]? = some x → ∃ y, ys[i]? = some y ∧ F x y
  | _, _, .nil, i, x, h => by cases h
  | _, _, .cons r t, 0, x, h => by
    have e := Option.some.inj h
    subst e
    exact ⟨_, rfl, r⟩
  | _, _, .cons r t, i + 1, x, h => Paired.at t h
theorem Paired.snoc {α β : Type} {F : α → β → Prop} {x : α} {y : β} (r : F x y) : ∀ {xs : List α} {ys : List β}, Paired F xs ys → Paired F (xs ++ [x]) (ys ++ [y])
  | _, _, .nil => .cons r .nil
  | _, _, .cons h t => .cons h (Paired.snoc r t)
theorem LinesAt.same {K : PySem.W.Frag} {H H' : Hp} {ts : List Addr} {ls : List (Nat × Nat × Int)} (h : LinesAt K H ts ls) (e : Same H H') : LinesAt K H' ts ls := Paired.imp h fun _ _ q => same_tup e q
/-- a Net stands at p -/
def NetAt (K : PySem.W.Frag) (C : Addr) (H : Hp) (p : Addr) (N : NetD) : Prop := ∃ (dx lk ll ld : Addr) (ts : List Addr), H p = some (.ins C dx (netF lk ll N.pr N.er ld)) ∧ H lk = some (.lst (N.ks.map kindV)) ∧ H ll = some (.lst (ts.map V.ref)) ∧
  LinesAt K H ts N.ls ∧ H ld = some (.dT (delaysOf N.ls))
theorem NetAt.same {K : PySem.W.Frag} {C : Addr} {H H' : Hp} {p : Addr} {N : NetD} (h : NetAt K C H p N) (e : Same H H') : NetAt K C H' p N := by
  obtain ⟨dx, lk, ll, ld, ts, h1, h2, h3, h4, h5⟩ := h
  exact ⟨dx, lk, ll, ld, ts, e _ _ h1, e _ _ h2, e _ _ h3, h4.same e, e _ _ h5⟩
/-- all but p is kept -/
def But (p : Addr) (H H' : Hp) : Prop := ∀ b o, H b = some o → b ≠ p → H' b = some o
theorem But.trans {p : Addr} {H H1 H2 : Hp} (a : But p H H1) (b : But p H1 H2) : But p H H2 := fun c o h n => b c o (a c o h n) n
theorem But.seq {K : PySem.W.Frag} {p C dx a : Addr} {fs : List (Str × V)} {H H' : Hp} {xs : List V} (h : But p H H') (hp : H p = some (.ins C dx fs)) (q : SqL K H a xs) : SqL K H' a xs := by
  rcases q with (q | ⟨o, q⟩) | q
  · exact .inl (.inl (h _ _ q (ne_of q hp (by intro z; cases z))))
  · exact .inl (.inr ⟨o, h _ _ q (ne_of q hp (by intro z; cases z))⟩)
  · exact .inr q
theorem But.tup {K : PySem.W.Frag} {p C dx a : Addr} {fs : List (Str × V)} {H H' : Hp} {xs : List V} (h : But p H H') (hp : H p = some (.ins C dx fs)) (q : SqT K H a xs) : SqT K H' a xs := by
  rcases q with (q | ⟨o, q⟩) | q
  · exact .inl (.inl (h _ _ q (ne_of q hp (by intro z; cases z))))
  · exact .inl (.inr ⟨o, h _ _ q (ne_of q hp (by intro z; cases z))⟩)
  · exact .inr q
theorem but_new {p l : Addr} {o u : HO} {H : Hp} (nl : H l = none) : But p H (upd (upd H l o) p u) := fun b x e n => by
  rw [upd_ne n, upd_ne (ne_of_none e nl)]; exact e
theorem but_self {p : Addr} {u : HO} {H : Hp} : But p H (upd H p u) := fun b x e n => by
  rw [upd_ne n]; exact e
theorem but_app {p t : Addr} {o u : HO} {H : Hp} (nt : H t = none) : But p H (upd (upd H t o) p u) := but_new nt
theorem But.refl (p : Addr) (H : Hp) : But p H H := fun _ _ e _ => e
theorem But.tupL {K : PySem.W.Frag} {p a : Addr} {ys : List V} {H H' : Hp} {xs : List V} (h : But p H H') (hp : H p = some (.lst ys)) (q : SqT K H a xs) : SqT K H' a xs := by
  rcases q with (q | ⟨o, q⟩) | q
  · exact .inl (.inl (h _ _ q (ne_of q hp (by intro z; cases z))))
  · exact .inl (.inr ⟨o, h _ _ q (ne_of q hp (by intro z; cases z))⟩)
  · exact .inr q
theorem same_but {p : Addr} {H H1 H2 : Hp} (e : Same H H1) (n : H p = none) (h : But p H1 H2) : Same H H2 := fun b o q => h _ _ (e _ _ q) (ne_of_none q n)
theorem kind_sw {b : Bool} (h : kindV b = V.str "switch") : b = false := by
  cases b with
  | false => rfl
  | true => exact absurd h (by decide +kernel)
theorem kind_ho {b : Bool} (h : kindV b = V.str "host") : b = true := by
  cases b with
  | true => rfl
  | false => exact absurd h (by decide +kernel)
theorem kind_inj {a b : Bool} (h : kindV a = kindV b) : a = b := by
  cases a with
  | true => exact (kind_ho h.symm).symm
  | false => exact (kind_sw h.symm).symm
theorem atI_kind {ks : List Bool} {z : Int} {j : Nat} (e : z = (j : Int)) (h : j < ks.length) : atI (ks.map kindV) z = some (kindV (ks.getD j true)) := by
  rw [e]
  refine atI_nat ?_
  rw [List.getElem?_map, getD_at true h]
  rfl
/-- a line's nodes, the greater one first -/
def norm (l : Nat × Nat × Int) : Nat × Nat := if l.2.1 < l.1 then (l.1, l.2.1) else (l.2.1, l.1)
theorem norm_gt {a b : Nat} {d : Int} (h : b < a) : norm (a, b, d) = (a, b) := if_pos h
theorem norm_lt {a b : Nat} {d : Int} (h : b < a) : norm (b, a, d) = (a, b) := if_neg (by show ¬ a < b; omega)
structure LsOk (n : Nat) (ls : List (Nat × Nat × Int)) : Prop where
  nd : (ls.map norm).Nodup
  bd : ∀ l ∈ ls, (norm l).2 < (norm l).1 ∧ (norm l).1 < n
  dl : ∀ l ∈ ls, 0 ≤ l.2.2 ∧ l.2.2 ≤ 4
  few : ls.length ≤ 100
structure NetWf (N : NetD) : Prop where
  h0 : 2 ≤ N.ks.count true
  h1 : N.ks.count true ≤ 4
  s0 : 1 ≤ N.ks.count false
  s1 : N.ks.count false ≤ 3
  ls : LsOk N.ks.length N.ls
  p0 : 0 ≤ N.pr
  p1 : N.pr ≤ 2
  e0 : 0 ≤ N.er
  e1 : N.er ≤ 2
theorem len_count : ∀ ks : List Bool, ks.length = ks.count true + ks.count false
  | [] => rfl
  | b :: r => by
    have := len_count r
    rw [List.length_cons, List.count_cons, List.count_cons]
    cases b <;> simp <;> omega
theorem count_ins (ks : List Bool) (i : Nat) (b x : Bool) : (ks.take i ++ [b] ++ ks.drop i).count x = ks.count x + [b].count x := by
  have h : ks.count x = (ks.take i).count x + (ks.drop i).count x := by rw [← List.count_append, List.take_append_drop]
  rw [List.count_append, List.count_append, h]
  omega
theorem rep_flat {α : Type} (x : α) : ∀ n : Nat, (List.replicate n [x]).flatten = List.replicate n x
  | 0 => rfl
  | n + 1 => by rw [List.replicate_succ, List.flatten_cons, rep_flat x n]; rfl
/-- pairs of nodes as tuples -/
abbrev PairsAt (K : PySem.W.Frag) (H : Hp) (ts : List Addr) (ps : List (Nat × Nat)) : Prop := Paired (fun (t : Addr) (p : Nat × Nat) => SqT K H t [.int (p.1 : Int), .int (p.2 : Int)]) ts ps
theorem PairsAt.mono {K : PySem.W.Frag} {H H' : Hp} {ts : List Addr} {ps : List (Nat × Nat)} (h : PairsAt K H ts ps) (f : ∀ a ys, SqT K H a ys → SqT K H' a ys) : PairsAt K H' ts ps := Paired.imp h fun _ _ z => f _ _ z
theorem LinesAt.mono {K : PySem.W.Frag} {H H' : Hp} {ts : List Addr} {ps : List (Nat × Nat × Int)} (h : LinesAt K H ts ps) (f : ∀ a ys, SqT K H a ys → SqT K H' a ys) : LinesAt K H' ts ps := Paired.imp h fun _ _ z => f _ _ z
theorem PairsAt.snoc {K : PySem.W.Frag} {H : Hp} {ts : List Addr} {ps : List (Nat × Nat)} {t : Addr} {p : Nat × Nat} (h : PairsAt K H ts ps) (x : SqT K H t [.int (p.1 : Int), .int (p.2 : Int)]) : PairsAt K H (ts ++ [t]) (ps ++ [p]) := Paired.snoc (F := fun (t : Addr) (p : Nat × Nat) => SqT K H t [.int (p.1 : Int), .int (p.2 : Int)]) x h
theorem LinesAt.snoc {K : PySem.W.Frag} {H : Hp} {ts : List Addr} {ps : List (Nat × Nat × Int)} {t : Addr} {p : Nat × Nat × Int} (h : LinesAt K H ts ps) (x : SqT K H t (lineV p)) : LinesAt K H (ts ++ [t]) (ps ++ [p]) := Paired.snoc (F := fun (t : Addr) (l : Nat × Nat × Int) => SqT K H t (lineV l)) x h
structure PInv (ks : List Bool) (ps : List (Nat × Nat)) (a b : Nat) : Prop where
  nd : ps.Nodup
  ok : ∀ p ∈ ps, p.2 < p.1 ∧ p.1 < ks.length ∧ (p.1 < a ∨ (p.1 = a ∧ p.2 < b)) ∧ (ks.getD p.1 true = false ∨ ks.getD p.2 true = false)
  few : ps.length ≤ 7 * a + b
theorem nd_snoc' {α : Type} : ∀ {l : List α} {k : α}, l.Nodup → ¬ k ∈ l → (l ++ [k]).Nodup
  | [], k, _, _ => by simp
  | a :: r, k, h, hk => by
    obtain ⟨h1, h2⟩ := List.nodup_cons.mp h
    show (a :: (r ++ [k])).Nodup
    refine List.nodup_cons.mpr ⟨fun m => ?_, nd_snoc' h2 fun m => hk (List.mem_cons.mpr (Or.inr m))⟩
    rcases List.mem_append.mp m with q | q
    · exact h1 q
    · exact hk (List.mem_cons.mpr (Or.inl (List.mem_singleton.mp q).symm))
theorem PInv.nil {ks : List Bool} : PInv ks [] 0 0 := ⟨List.nodup_nil, fun p h => by (cases h), Nat.le_refl _⟩
theorem PInv.skip {ks : List Bool} {ps : List (Nat × Nat)} {a b : Nat} (h : PInv ks ps a b) : PInv ks ps a (b + 1) :=
  ⟨h.nd, fun p hp => let ⟨x, y, z, w⟩ := h.ok p hp; ⟨x, y, by omega, w⟩, by have := h.few; omega⟩
theorem PInv.next {ks : List Bool} {ps : List (Nat × Nat)} {a b : Nat} (h : PInv ks ps a b) (hb : b ≤ 7) : PInv ks ps (a + 1) 0 :=
  ⟨h.nd, fun p hp => let ⟨x, y, z, w⟩ := h.ok p hp; ⟨x, y, by omega, w⟩, by have := h.few; omega⟩
theorem PInv.snoc {ks : List Bool} {ps : List (Nat × Nat)} {a b : Nat} (h : PInv ks ps a b) (ha : a < ks.length) (hb : b < a) (hs : ks.getD a true = false ∨ ks.getD b true = false) : PInv ks (ps ++ [(a, b)]) a (b + 1) := by
  refine ⟨nd_snoc' h.nd fun m => ?_, fun p hp => ?_, by have := h.few; rw [List.length_append, List.length_singleton]; omega⟩
  · obtain ⟨_, _, z, _⟩ := h.ok _ m
    have z' : a < a ∨ (a = a ∧ b < b) := z
    omega
  · rcases List.mem_append.mp hp with q | q
    · obtain ⟨x, y, z, w⟩ := h.ok p q
      exact ⟨x, y, by omega, w⟩
    · rw [List.mem_singleton.mp q]
      exact ⟨hb, ha, .inr ⟨rfl, by show b < b + 1; omega⟩, hs⟩
/-- lines made from the first k pairs -/
structure LInv (ps : List (Nat × Nat)) (ls : List (Nat × Nat × Int)) (k : Nat) : Prop where
  nd : (ls.map norm).Nodup
  from_ : ∀ l ∈ ls, ∃ j, j < k ∧ ps[j]? = some (norm l)
  dl : ∀ l ∈ ls, 0 ≤ l.2.2 ∧ l.2.2 ≤ 4
  few : ls.length ≤ k
theorem LInv.nil {ps : List (Nat × Nat)} : LInv ps [] 0 := ⟨List.nodup_nil, fun p h => by (cases h), fun p h => by (cases h), Nat.le_refl _⟩
theorem LInv.skip {ps : List (Nat × Nat)} {ls : List (Nat × Nat × Int)} {k : Nat} (h : LInv ps ls k) : LInv ps ls (k + 1) :=
  ⟨h.nd, fun l hl => let ⟨j, x, y⟩ := h.from_ l hl; ⟨j, by omega, y⟩, h.dl, by have := h.few; omega⟩
theorem LInv.snoc {ps : List (Nat × Nat)} {ls : List (Nat × Nat × Int)} {k : Nat} {l : Nat × Nat × Int} (h : LInv ps ls k) (hp : ps.Nodup) (e : ps[k]? = some (norm l)) (d : 0 ≤ l.2.2 ∧ l.2.2 ≤ 4) : LInv ps (ls ++ [l]) (k + 1) := by
  refine ⟨?_, fun x hx => ?_, fun x hx => ?_, by have := h.few; rw [List.length_append, List.length_singleton]; omega⟩
  · rw [List.map_append]
    refine nd_snoc' h.nd fun m => ?_
    obtain ⟨x, hx, ex⟩ := List.mem_map.mp m
    obtain ⟨j, hj, ej⟩ := h.from_ x hx
    rw [ex] at ej
    have := nd_ix hp ej e
    omega
  · rcases List.mem_append.mp hx with q | q
    · obtain ⟨j, x1, y⟩ := h.from_ x q
      exact ⟨j, by omega, y⟩
    · rw [List.mem_singleton.mp q]
      exact ⟨k, by omega, e⟩
  · rcases List.mem_append.mp hx with q | q
    · exact h.dl x q
    · rw [List.mem_singleton.mp q]
      exact d
/-- .. and host pairs ahead of (a, b) -/
structure HInv (ks : List Bool) (ps : List (Nat × Nat)) (ls : List (Nat × Nat × Int)) (a b : Nat) : Prop where
  nd : (ls.map norm).Nodup
  from_ : ∀ l ∈ ls, norm l ∈ ps ∨ ((norm l).2 < (norm l).1 ∧ (norm l).1 < ks.length ∧ ((norm l).1 < a ∨ ((norm l).1 = a ∧ (norm l).2 < b)) ∧ ks.getD (norm l).1 true = true ∧ ks.getD (norm l).2 true = true)
  dl : ∀ l ∈ ls, 0 ≤ l.2.2 ∧ l.2.2 ≤ 4
  few : ls.length ≤ 100
theorem LInv.host {ks : List Bool} {ps : List (Nat × Nat)} {ls : List (Nat × Nat × Int)} {k : Nat} (h : LInv ps ls k) (hk : k ≤ 100) : HInv ks ps ls 0 0 :=
  ⟨h.nd, fun l hl => let ⟨j, _, y⟩ := h.from_ l hl; .inl (List.mem_of_getElem? y), h.dl, by have := h.few; omega⟩
theorem HInv.skip {ks : List Bool} {ps : List (Nat × Nat)} {ls : List (Nat × Nat × Int)} {a b : Nat} (h : HInv ks ps ls a b) : HInv ks ps ls a (b + 1) :=
  ⟨h.nd, fun l hl => (h.from_ l hl).imp id fun ⟨x, y, z, w⟩ => ⟨x, y, by omega, w⟩, h.dl, h.few⟩
theorem HInv.next {ks : List Bool} {ps : List (Nat × Nat)} {ls : List (Nat × Nat × Int)} {a b : Nat} (h : HInv ks ps ls a b) : HInv ks ps ls (a + 1) 0 :=
  ⟨h.nd, fun l hl => (h.from_ l hl).imp id fun ⟨x, y, z, w⟩ => ⟨x, y, by omega, w⟩, h.dl, h.few⟩
theorem HInv.snoc {ks : List Bool} {ps : List (Nat × Nat)} {ls : List (Nat × Nat × Int)} {a b c e : Nat} {d : Int} (h : HInv ks ps ls a b) (hp : PInv ks ps c e) (ha : a < ks.length) (hb : b < a) (h1 : ks.getD a true = true) (h2 : ks.getD b true = true) (hd : 0 ≤ d ∧ d ≤ 4) (hf : ls.length < 20) :
    HInv ks ps (ls ++ [(a, b, d)]) a (b + 1) := by
  have en : norm (a, b, d) = (a, b) := norm_gt hb
  refine ⟨?_, fun x hx => ?_, fun x hx => ?_, by rw [List.length_append, List.length_singleton]; omega⟩
  · rw [List.map_append]
    refine nd_snoc' h.nd fun m => ?_
    obtain ⟨x, hx, ex⟩ := List.mem_map.mp m
    rw [en] at ex
    rcases h.from_ x hx with q | ⟨_, _, z, _⟩
    · rw [ex] at q
      obtain ⟨_, _, _, w⟩ := hp.ok _ q
      have w' : ks.getD a true = false ∨ ks.getD b true = false := w
      rw [h1, h2] at w'
      rcases w' with w' | w' <;> cases w'
    · rw [ex] at z
      have z' : a < a ∨ (a = a ∧ b < b) := z
      omega
  · rcases List.mem_append.mp hx with q | q
    · exact (h.from_ x q).imp id fun ⟨x, y, z, w⟩ => ⟨x, y, by omega, w⟩
    · rw [List.mem_singleton.mp q, en]
      exact .inr ⟨hb, ha, .inr ⟨rfl, by show b < b + 1; omega⟩, h1, h2⟩
  · rcases List.mem_append.mp hx with q | q
    · exact h.dl x q
    · rw [List.mem_singleton.mp q]
      exact hd
theorem HInv.ok {ks : List Bool} {ps : List (Nat × Nat)} {ls : List (Nat × Nat × Int)} {a b c e : Nat} (h : HInv ks ps ls a b) (hp : PInv ks ps c e) : LsOk ks.length ls :=
  ⟨h.nd, fun l hl => by
    rcases h.from_ l hl with q | ⟨x, y, _⟩
    · obtain ⟨x, y, _⟩ := hp.ok _ q
      exact ⟨x, y⟩
    · exact ⟨x, y⟩, h.dl, h.few⟩
/-- rows as lists -/
abbrev RowsAt (H : Hp) (as : List Addr) (rs : List (List Nat)) : Prop := Paired (fun (a : Addr) (r : List Nat) => r ≠ [] ∧ H a = some (.lst (natsV r))) as rs
theorem RowsAt.mono {H H' : Hp} {as : List Addr} {rs : List (List Nat)} (h : RowsAt H as rs) (f : ∀ a r, r ≠ [] → H a = some (.lst (natsV r)) → H' a = some (.lst (natsV r))) : RowsAt H' as rs := Paired.imp h fun _ _ z => ⟨z.1, f _ _ z.1 z.2⟩
theorem RowsAt.snoc {H : Hp} {as : List Addr} {rs : List (List Nat)} {a : Addr} {r : List Nat} (h : RowsAt H as rs) (n : r ≠ []) (e : H a = some (.lst (natsV r))) : RowsAt H (as ++ [a]) (rs ++ [r]) := Paired.snoc (F := fun (a : Addr) (r : List Nat) => r ≠ [] ∧ H a = some (.lst (natsV r))) ⟨n, e⟩ h
theorem RowsAt.same {H H' : Hp} {as : List Addr} {rs : List (List Nat)} (h : RowsAt H as rs) (e : Same H H') : RowsAt H' as rs := h.mono fun _ _ _ z => e _ _ z
/-- a row's list is no list of objects -/
theorem row_ne {H : Hp} {a p : Addr} {r : List Nat} {fs : List Addr} (n : r ≠ []) (h : H a = some (.lst (natsV r))) (hp : H p = some (.lst (fs.map V.ref))) : a ≠ p := by
  refine ne_of h hp fun e => ?_
  injection e with e
  cases r with
  | nil => exact n rfl
  | cons x r =>
    cases fs with
    | nil => cases e
    | cons y t =>
      unfold natsV at e
      rw [List.map_cons, List.map_cons] at e
      injection e with e1 _
      cases e1
theorem RowsAt.but {H H' : Hp} {as fs : List Addr} {rs : List (List Nat)} {p : Addr} (h : RowsAt H as rs) (hp : H p = some (.lst (fs.map V.ref))) (e : But p H H') : RowsAt H' as rs := h.mono fun _ _ n z => e _ _ z (row_ne n z hp)
/-- the class's facts -/
structure NetC (K : PySem.W.Frag) (C : Addr) : Prop where
  cl : Cls K C
  n1 : NoAttr K C "kinds"
  n2 : NoAttr K C "lines"
  n3 : NoAttr K C "processing"
  n4 : NoAttr K C "error"
  n5 : NoAttr K C "_delays"
end My
/-! A search level by level, as data. No row. -/
namespace My
open PySem PySem.Spec PyProof.Rows L2
abbrev Ways := Nat → Option (List Nat)
def setW (W : Ways) (v : Nat) (r : List Nat) : Ways := fun x => if x = v then some r else W x
def visit (u : Nat) (st : Ways × List Nat) (v : Nat) : Ways × List Nat :=
  if (st.1 v).isSome = true then st else (setW st.1 v ((st.1 u).getD [] ++ [v]), st.2 ++ [v])
def levStep (A : Nat → List Nat) (st : Ways × List Nat) : Ways × List Nat := st.2.foldl (fun s u => (A u).foldl (visit u) s) (st.1, [])
def lev (A : Nat → List Nat) (s : Nat) : Nat → Ways × List Nat
  | 0 => (fun x => if x = s then some [s] else none, [s])
  | t + 1 => levStep A (lev A s t)
theorem foldl_take {α β : Type} (f : β → α → β) {l : List α} {i : Nat} {a : α} (b : β) (h : l[i]? = some a) : (l.take (i + 1)).foldl f b = f ((l.take i).foldl f b) a := by
  rw [take_snoc h, List.foldl_append]
  rfl
theorem nodup_lt : ∀ (n : Nat) (l : List Nat), l.Nodup → (∀ x ∈ l, x < n) → l.length ≤ n
  | 0, l, _, h => by
    cases l with
    | nil => exact Nat.le_refl _
    | cons x r => exact absurd (h x List.mem_cons_self) (Nat.not_lt_zero _)
  | n + 1, l, hd, h => by
    by_cases hn : n ∈ l
    · have h1 := nodup_lt n (l.erase n) (hd.erase n) fun x hx => by
        have := (List.Nodup.mem_erase_iff hd).mp hx
        have := h x this.2
        omega
      rw [List.length_erase_of_mem hn] at h1
      omega
    · have h1 := nodup_lt n l hd fun x hx => by
        have := h x hx
        have : x ≠ n := fun z => hn (z ▸ hx)
        omega
      omega
/-- what a level's list is -/
structure Prog (n : Nat) (st : Ways × List Nat) : Prop where
  nd : st.2.Nodup
  lt : ∀ v ∈ st.2, v < n ∧ (st.1 v).isSome = true
theorem Prog.len {n : Nat} {st : Ways × List Nat} (h : Prog n st) : st.2.length ≤ n := nodup_lt n _ h.nd fun x hx => (h.lt x hx).1
theorem visit_some {u v : Nat} {st : Ways × List Nat} (h : (st.1 v).isSome = true) : visit u st v = st := if_pos h
theorem visit_none {u v : Nat} {st : Ways × List Nat} (h : ¬ (st.1 v).isSome = true) : visit u st v = (setW st.1 v ((st.1 u).getD [] ++ [v]), st.2 ++ [v]) := if_neg h
theorem visit_keep {u v x : Nat} {st : Ways × List Nat} {r : List Nat} (h : st.1 x = some r) : (visit u st v).1 x = some r := by
  by_cases e : (st.1 v).isSome = true
  · rw [visit_some e]; exact h
  · rw [visit_none e]
    show setW st.1 v _ x = some r
    unfold setW
    rw [if_neg fun z => e (by rw [← z, h]; rfl)]
    exact h
theorem Prog.visit {n u v : Nat} {st : Ways × List Nat} (h : Prog n st) (hv : v < n) : Prog n (visit u st v) := by
  by_cases e : (st.1 v).isSome = true
  · rw [visit_some e]; exact h
  · have hk : ∀ x, (st.1 x).isSome = true → ((My.visit u st v).1 x).isSome = true := fun x hx => by
      obtain ⟨r, hr⟩ := Option.isSome_iff_exists.mp hx
      rw [visit_keep hr]; rfl
    refine ⟨?_, fun x hx => ?_⟩
    · rw [visit_none e]
      exact nd_snoc' h.nd fun m => e (h.lt v m).2
    · have hx2 : x ∈ st.2 ++ [v] := by rw [visit_none e] at hx; exact hx
      rcases List.mem_append.mp hx2 with q | q
      · exact ⟨(h.lt x q).1, hk x (h.lt x q).2⟩
      · rw [List.mem_singleton.mp q]
        refine ⟨hv, ?_⟩
        rw [visit_none e]
        show (setW st.1 v _ v).isSome = true
        unfold setW
        rw [if_pos rfl]
        rfl
theorem Prog.fold {n u : Nat} : ∀ (l : List Nat) {st : Ways × List Nat}, Prog n st → (∀ v ∈ l, v < n) → Prog n (l.foldl (My.visit u) st)
  | [], _, h, _ => h
  | v :: r, _, h, hl => Prog.fold r (h.visit (hl v List.mem_cons_self)) fun x hx => hl x (List.mem_cons_of_mem _ hx)
theorem Prog.fold2 {n : Nat} {A : Nat → List Nat} : ∀ (l : List Nat) {st : Ways × List Nat}, Prog n st → (∀ u ∈ l, ∀ v ∈ A u, v < n) → Prog n (l.foldl (fun s u => (A u).foldl (My.visit u) s) st)
  | [], _, h, _ => h
  | u :: r, _, h, hl => Prog.fold2 r (h.fold (A u) (hl u List.mem_cons_self)) fun x hx => hl x (List.mem_cons_of_mem _ hx)
theorem keep_fold {u x : Nat} {r : List Nat} : ∀ (l : List Nat) {st : Ways × List Nat}, st.1 x = some r → (l.foldl (My.visit u) st).1 x = some r
  | [], _, h => h
  | v :: t, _, h => keep_fold t (visit_keep h)
theorem keep_fold2 {A : Nat → List Nat} {x : Nat} {r : List Nat} : ∀ (l : List Nat) {st : Ways × List Nat}, st.1 x = some r → (l.foldl (fun s u => (A u).foldl (My.visit u) s) st).1 x = some r
  | [], _, h => h
  | u :: t, _, h => keep_fold2 t (keep_fold (A u) h)
theorem lev_prog {A : Nat → List Nat} {s n : Nat} (hs : s < n) (hA : ∀ a, a < n → ∀ b ∈ A a, b < n) : ∀ t, Prog n (lev A s t)
  | 0 => ⟨by show [s].Nodup; simp, fun v hv => by
      have hv : v ∈ [s] := hv
      rw [List.mem_singleton.mp hv]
      exact ⟨hs, by show (if s = s then some [s] else none).isSome = true; rw [if_pos rfl]; rfl⟩⟩
  | t + 1 => by
    have ih := lev_prog hs hA t
    exact Prog.fold2 (st := ((lev A s t).1, [])) _ ⟨List.nodup_nil, fun v hv => by cases hv⟩ fun u hu => hA u (ih.lt u hu).1
theorem lev_end {A : Nat → List Nat} {s t : Nat} (h : (lev A s t).2 = []) : ∀ k, lev A s (t + k) = ((lev A s t).1, []) ∨ k = 0
  | 0 => .inr rfl
  | k + 1 => by
    refine .inl ?_
    show levStep A (lev A s (t + k)) = _
    rcases lev_end h k with e | e
    · rw [e]
      rfl
    · rw [e]
      unfold levStep
      rw [Nat.add_zero, h]
      rfl
theorem lev_same {A : Nat → List Nat} {s t T : Nat} (h : (lev A s t).2 = []) (ht : t ≤ T) : (lev A s T).1 = (lev A s t).1 := by
  obtain ⟨k, rfl⟩ : ∃ k, T = t + k := ⟨T - t, by omega⟩
  rcases lev_end h k with e | e
  · rw [e]
  · rw [e]; rfl
/-! ### how the heap bears them -/
def ArcsAt (H : Hp) (d : Addr) (A : Nat → List Nat) (n : Nat) : Prop := ∃ kvs : List (Key × V), H d = some (.dK kvs) ∧ ∀ a, a < n → ∃ l, valV kvs (Sum.inl (a : Int)) = some (.ref l) ∧ H l = some (.lst (natsV (A a)))
theorem ArcsAt.same {H H' : Hp} {d : Addr} {A : Nat → List Nat} {n : Nat} (h : ArcsAt H d A n) (e : Same H H') : ArcsAt H' d A n := by
  obtain ⟨kvs, h1, h2⟩ := h
  exact ⟨kvs, e _ _ h1, fun a ha => let ⟨l, x, y⟩ := h2 a ha; ⟨l, x, e _ _ y⟩⟩
/-- the dict of ways; no way's list is q -/
def WaysAt (H0 H : Hp) (d : Addr) (W : Ways) (m : Nat) (q : Addr) : Prop := ∃ kvs : List (Key × V), H d = some (.dK kvs) ∧ kvs.length ≤ m ∧ (∀ v, W v = none → valV kvs (Sum.inl (v : Int)) = none) ∧
  ∀ v r, W v = some r → r.length ≤ kvs.length ∧ ∃ l, valV kvs (Sum.inl (v : Int)) = some (.ref l) ∧ H l = some (.lst (natsV r)) ∧ H0 l = none ∧ l ≠ q
def WayV (H0 H : Hp) (o : Option (List Nat)) (v : V) : Prop := match o with
  | none => v = .non
  | some r => ∃ l, v = .ref l ∧ H0 l = none ∧ H l = some (.lst (natsV r))
theorem WaysAt.get {H0 H : Hp} {d : Addr} {W : Ways} {m : Nat} {q : Addr} (h : WaysAt H0 H d W m q) (v : Nat) : ∃ o, DGet H d (.int (v : Int)) o ∧ o.isSome = (W v).isSome ∧ WayV H0 H (W v) (o.getD .non) := by
  obtain ⟨kvs, h1, _, h2, h3⟩ := h
  refine ⟨valV kvs (Sum.inl (v : Int)), DGet.k (k := Sum.inl (v : Int)) h1, ?_, ?_⟩
  · cases e : W v with
    | none => rw [h2 v e]; rfl
    | some r =>
      obtain ⟨_, l, x, _⟩ := h3 v r e
      rw [x]
      rfl
  · cases e : W v with
    | none => rw [h2 v e]; rfl
    | some r =>
      obtain ⟨_, l, x, y, z, _⟩ := h3 v r e
      rw [x]
      exact ⟨l, rfl, z, y⟩
theorem WaysAt.mono {H0 H H' : Hp} {d : Addr} {W : Ways} {m : Nat} {q q' : Addr} (h : WaysAt H0 H d W m q) (hd : ∀ kvs, H d = some (.dK kvs) → H' d = some (.dK kvs)) (hl : ∀ l r, l ≠ q → H l = some (.lst (natsV r)) → H' l = some (.lst (natsV r)) ∧ l ≠ q') : WaysAt H0 H' d W m q' := by
  obtain ⟨kvs, h1, h2, h3, h4⟩ := h
  refine ⟨kvs, hd _ h1, h2, h3, fun v r e => ?_⟩
  obtain ⟨a, l, x, y, z, n⟩ := h4 v r e
  exact ⟨a, l, x, (hl l r n y).1, z, (hl l r n y).2⟩
theorem WaysAt.put {H0 H : Hp} {d : Addr} {W : Ways} {m : Nat} {q : Addr} {v : Nat} {r : List Nat} {l : Addr} {kvs : List (Key × V)} (h : WaysAt H0 H d W m q) (hd : H d = some (.dK kvs)) (hv : W v = none) (hr : r.length ≤ kvs.length + 1) (hl : H l = some (.lst (natsV r))) (h0 : H0 l = none) (hq : l ≠ q) :
    WaysAt H0 (upd H d (.dK (putK kvs (Sum.inl (v : Int)) (.ref l)))) d (setW W v r) (m + 1) q := by
  obtain ⟨kvs', h1, h2, h3, h4⟩ := h
  rw [hd] at h1
  cases h1
  have en := putK_new (V.ref l) (h3 v hv)
  have key : ∀ x : Nat, ((Sum.inl (x : Int) : Key) = Sum.inl (v : Int)) ↔ x = v := fun x => ⟨fun z => by injection z with z; omega, fun z => by rw [z]⟩
  have nd : ∀ (l' : Addr) (r' : List Nat), H l' = some (.lst (natsV r')) → l' ≠ d := fun l' r' e => ne_of e hd (by intro z; cases z)
  refine ⟨_, upd_same, by rw [en, List.length_append, List.length_singleton]; omega, fun x hx => ?_, fun x r' hx => ?_⟩
  · unfold setW at hx
    by_cases e : x = v
    · rw [if_pos e] at hx; cases hx
    · rw [if_neg e] at hx
      rw [valV_put, if_neg fun z => e ((key x).mp z)]
      exact h3 x hx
  · unfold setW at hx
    by_cases e : x = v
    · rw [if_pos e] at hx
      cases hx
      refine ⟨by rw [en, List.length_append, List.length_singleton]; exact hr, l, ?_, by rw [upd_ne (nd l r hl)]; exact hl, h0, hq⟩
      rw [valV_put, if_pos ((key x).mpr e)]
    · rw [if_neg e] at hx
      obtain ⟨a, l', x', y, z, n⟩ := h4 x r' hx
      refine ⟨by rw [en, List.length_append, List.length_singleton]; omega, l', ?_, by rw [upd_ne (nd l' r' y)]; exact y, z, n⟩
      rw [valV_put, if_neg fun z => e ((key x).mp z)]
      exact x'
end My
/-! The rows found one by one, and the search level by level: the same shortest rows. No row of Lean's, no Python. -/
namespace My
open PySem PySem.Spec PyProof.Rows L2
/-! ### order -/
def lexlt : List Nat → List Nat → Prop
  | x :: xs, y :: ys => x < y ∨ (x = y ∧ lexlt xs ys)
  | _, _ => False
theorem lex_irr : ∀ x : List Nat, ¬ lexlt x x
  | [], h => h
  | x :: xs, h => by
    rcases h with h | ⟨_, h⟩
    · omega
    · exact lex_irr xs h
theorem lex_trans : ∀ {x y z : List Nat}, lexlt x y → lexlt y z → lexlt x z
  | [], _, _, h, _ => h.elim
  | _ :: _, [], _, h, _ => h.elim
  | _ :: _, _ :: _, [], _, h => h.elim
  | a :: x, b :: y, c :: z, h1, h2 => by
    rcases h1 with h1 | ⟨e1, h1⟩ <;> rcases h2 with h2 | ⟨e2, h2⟩
    · exact .inl (by omega)
    · exact .inl (by omega)
    · exact .inl (by omega)
    · exact .inr ⟨by omega, lex_trans h1 h2⟩
theorem lex_app1 : ∀ {x y : List Nat} (s t : List Nat), lexlt x y → lexlt (x ++ s) (y ++ t)
  | [], _, _, _, h => h.elim
  | _ :: _, [], _, _, h => h.elim
  | a :: x, b :: y, s, t, h => by
    rcases h with h | ⟨e, h⟩
    · exact .inl h
    · exact .inr ⟨e, lex_app1 s t h⟩
theorem lex_app2 : ∀ (x : List Nat) {s t : List Nat}, lexlt s t → lexlt (x ++ s) (x ++ t)
  | [], _, _, h => h
  | a :: x, _, _, h => .inr ⟨rfl, lex_app2 x h⟩
theorem lex_one {b c : Nat} (h : b < c) (x : List Nat) : lexlt (x ++ [b]) (x ++ [c]) := lex_app2 x (.inl h)
/-- fewer nodes, or as many and lexicographically less -/
def rlt (x y : List Nat) : Prop := x.length < y.length ∨ (x.length = y.length ∧ lexlt x y)
def rle (x y : List Nat) : Prop := x = y ∨ rlt x y
theorem rlt_irr (x : List Nat) : ¬ rlt x x := fun h => by
  rcases h with h | ⟨_, h⟩
  · omega
  · exact lex_irr x h
theorem rlt_trans {x y z : List Nat} (h1 : rlt x y) (h2 : rlt y z) : rlt x z := by
  rcases h1 with h1 | ⟨e1, h1⟩ <;> rcases h2 with h2 | ⟨e2, h2⟩
  · exact .inl (by omega)
  · exact .inl (by omega)
  · exact .inl (by omega)
  · exact .inr ⟨by omega, lex_trans h1 h2⟩
/-! ### rows -/
inductive Row (N : NetD) (a : Nat) : List Nat → Prop
  | start : Row N a [a]
  | ext {r : List Nat} {b : Nat} : Row N a r → (r = [a] ∨ host N (lastN r) = false) → okb N r b = true → b < N.ks.length → Row N a (r ++ [b])
theorem lastN_app (r : List Nat) (b : Nat) : lastN (r ++ [b]) = b := by
  unfold lastN
  rw [List.length_append, List.length_singleton, Nat.add_sub_cancel, List.getD_eq_getElem?_getD, List.getElem?_append_right (Nat.le_refl _), Nat.sub_self]
  rfl
theorem lastN_one (a : Nat) : lastN [a] = a := rfl
theorem okb_mem {N : NetD} {r : List Nat} {b : Nat} (h : okb N r b = true) : b ∉ r ∧ adj N (lastN r) b = true := by
  unfold okb at h
  rw [Bool.and_eq_true, Bool.not_eq_true'] at h
  refine ⟨fun m => ?_, h.2⟩
  have := List.contains_iff_mem.mpr m
  rw [h.1] at this
  cases this
theorem okb_of {N : NetD} {r : List Nat} {b : Nat} (h1 : b ∉ r) (h2 : adj N (lastN r) b = true) : okb N r b = true := by
  unfold okb
  rw [Bool.and_eq_true, Bool.not_eq_true']
  refine ⟨?_, h2⟩
  cases e : r.contains b with
  | false => rfl
  | true => exact absurd (List.contains_iff_mem.mp e) h1
theorem Row.ne {N : NetD} {a : Nat} {r : List Nat} (h : Row N a r) : r ≠ [] := by
  cases h with
  | start => simp
  | ext => simp
theorem Row.pos {N : NetD} {a : Nat} {r : List Nat} (h : Row N a r) : 1 ≤ r.length := List.length_pos_iff.mpr h.ne
theorem Row.nodup {N : NetD} {a : Nat} {r : List Nat} (h : Row N a r) : r.Nodup := by
  induction h with
  | start => simp
  | ext _ _ o _ ih => exact nd_snoc' ih (okb_mem o).1
theorem Row.head {N : NetD} {a : Nat} {r : List Nat} (h : Row N a r) : r.head? = some a := by
  induction h with
  | start => rfl
  | ext h _ _ _ ih =>
    cases ‹List Nat› with
    | nil => exact absurd rfl h.ne
    | cons x t => exact ih
theorem Row.lt {N : NetD} {a : Nat} {r : List Nat} (h : Row N a r) (ha : a < N.ks.length) : ∀ x ∈ r, x < N.ks.length := by
  induction h with
  | start => intro x hx; rw [List.mem_singleton.mp hx]; exact ha
  | ext _ _ _ hb ih =>
    intro x hx
    rcases List.mem_append.mp hx with q | q
    · exact ih x q
    · rw [List.mem_singleton.mp q]; exact hb
theorem Row.mem_last {N : NetD} {a : Nat} {r : List Nat} (h : Row N a r) : lastN r ∈ r := by
  cases h with
  | start => exact List.mem_singleton.mpr rfl
  | ext => rw [lastN_app]; exact List.mem_append.mpr (.inr (List.mem_singleton.mpr rfl))
/-- a node of a row is the end of a row that is not longer -/
theorem Row.pre {N : NetD} {a : Nat} {r : List Nat} (h : Row N a r) : ∀ v ∈ r, ∃ x, Row N a x ∧ lastN x = v ∧ x.length ≤ r.length := by
  induction h with
  | start => intro v hv; exact ⟨[a], .start, (List.mem_singleton.mp hv).symm ▸ rfl, Nat.le_refl _⟩
  | @ext r b h1 h2 o hb ih =>
    intro v hv
    rcases List.mem_append.mp hv with q | q
    · obtain ⟨x, x1, x2, x3⟩ := ih v q
      exact ⟨x, x1, x2, by rw [List.length_append]; omega⟩
    · exact ⟨r ++ [b], .ext h1 h2 o hb, by rw [lastN_app, List.mem_singleton.mp q], Nat.le_refl _⟩
theorem Row.split {N : NetD} {a : Nat} {x : List Nat} (h : Row N a x) : x = [a] ∨ ∃ y b, x = y ++ [b] ∧ Row N a y ∧ (y = [a] ∨ host N (lastN y) = false) ∧ okb N y b = true ∧ b < N.ks.length := by
  cases h with
  | start => exact .inl rfl
  | ext h1 h2 o hb => exact .inr ⟨_, _, rfl, h1, h2, o, hb⟩
theorem Row.back {N : NetD} {a : Nat} {r : List Nat} (h : Row N a r) (e : lastN r = a) : r = [a] := by
  rcases h.split with z | ⟨y, b, rfl, h1, _, o, _⟩
  · exact z
  · rw [lastN_app] at e
    exact absurd (by rw [e]; exact List.mem_of_mem_head? h1.head) (okb_mem o).1
/-! ### what the law finds -/
theorem mem_rows {N : NetD} : ∀ (t : Nat) (r : List Nat), r ∈ rowsOf N t ↔ ∃ a, a < N.ks.length ∧ host N a = true ∧ Row N a r ∧ r.length = t + 1 ∧ (r = [a] ∨ host N (lastN r) = false)
  | 0, r => by
    constructor
    · intro h
      obtain ⟨a, ha, rfl⟩ := List.mem_map.mp h
      obtain ⟨h1, h2⟩ := List.mem_filter.mp ha
      exact ⟨a, List.mem_range.mp h1, h2, .start, rfl, .inl rfl⟩
    · rintro ⟨a, h1, h2, h3, h4, _⟩
      rcases h3.split with rfl | ⟨y, b, rfl, h5, _⟩
      · exact List.mem_map.mpr ⟨a, List.mem_filter.mpr ⟨List.mem_range.mpr h1, h2⟩, rfl⟩
      · have := h5.pos
        rw [List.length_append, List.length_singleton] at h4
        omega
  | t + 1, r => by
    constructor
    · intro h
      obtain ⟨y, hy, hr⟩ := List.mem_flatMap.mp h
      obtain ⟨a, h1, h2, h3, h4, h5⟩ := (mem_rows t y).mp hy
      obtain ⟨b, hb, rfl⟩ := List.mem_map.mp hr
      obtain ⟨b1, b2⟩ := List.mem_filter.mp hb
      rw [Bool.and_eq_true, Bool.not_eq_true'] at b2
      exact ⟨a, h1, h2, .ext h3 h5 b2.1 (List.mem_range.mp b1), by rw [List.length_append, h4]; rfl, .inr (by rw [lastN_app]; exact b2.2)⟩
    · rintro ⟨a, h1, h2, h3, h4, h5⟩
      rcases h3.split with rfl | ⟨y, b, rfl, h6, h7, o, hb⟩
      · cases h4
      · rw [List.length_append, List.length_singleton] at h4
        have hb2 : host N b = false := by
          rcases h5 with z | z
          · have w1 := congrArg List.length z
            rw [List.length_append, List.length_singleton, List.length_singleton] at w1
            omega
          · rw [lastN_app] at z; exact z
        exact List.mem_flatMap.mpr ⟨y, (mem_rows t y).mpr ⟨a, h1, h2, h6, by omega, h7⟩, List.mem_map.mpr ⟨b, List.mem_filter.mpr ⟨List.mem_range.mpr hb, by rw [o, hb2]; rfl⟩, rfl⟩⟩
theorem mem_found {N : NetD} : ∀ (t : Nat) (r : List Nat), r ∈ foundOf N t ↔ ∃ a, a < N.ks.length ∧ host N a = true ∧ Row N a r ∧ 2 ≤ r.length ∧ r.length ≤ t + 1 ∧ host N (lastN r) = true
  | 0, r => by
    constructor
    · intro h; cases h
    · rintro ⟨a, _, _, _, h1, h2, _⟩; omega
  | t + 1, r => by
    have ih := mem_found (N := N) t r
    constructor
    · intro h
      rcases List.mem_append.mp h with q | q
      · obtain ⟨a, h1, h2, h3, h4, h5, h6⟩ := ih.mp q
        exact ⟨a, h1, h2, h3, h4, by omega, h6⟩
      · obtain ⟨y, hy, hr⟩ := List.mem_flatMap.mp q
        obtain ⟨a, h1, h2, h3, h4, h5⟩ := (mem_rows t y).mp hy
        obtain ⟨b, hb, rfl⟩ := List.mem_map.mp hr
        obtain ⟨b1, b2⟩ := List.mem_filter.mp hb
        rw [Bool.and_eq_true] at b2
        refine ⟨a, h1, h2, .ext h3 h5 b2.1 (List.mem_range.mp b1), ?_, ?_, by rw [lastN_app]; exact b2.2⟩
        · rw [List.length_append, List.length_singleton]; omega
        · rw [List.length_append, List.length_singleton]; omega
    · rintro ⟨a, h1, h2, h3, h4, h5, h6⟩
      by_cases hl : r.length ≤ t + 1
      · exact List.mem_append.mpr (.inl (ih.mpr ⟨a, h1, h2, h3, h4, hl, h6⟩))
      · refine List.mem_append.mpr (.inr ?_)
        rcases h3.split with rfl | ⟨y, b, rfl, h7, h8, o, hb⟩
        · rw [List.length_singleton] at h4; omega
        · rw [lastN_app] at h6
          rw [List.length_append, List.length_singleton] at hl h5
          exact List.mem_flatMap.mpr ⟨y, (mem_rows t y).mpr ⟨a, h1, h2, h7, by omega, h8⟩, List.mem_map.mpr ⟨b, List.mem_filter.mpr ⟨List.mem_range.mpr hb, by rw [o, h6]; rfl⟩, rfl⟩⟩
theorem range_pw (n : Nat) : (List.range n).Pairwise (· < ·) := List.pairwise_lt_range
theorem ext_pw {p : Nat → Bool} (r : List Nat) (n : Nat) : (((List.range n).filter p).map fun b => r ++ [b]).Pairwise lexlt := by
  refine List.Pairwise.map _ (fun b c h => lex_one h r) ((range_pw n).filter p)
theorem flat_pw {f : List Nat → List (List Nat)} {l : List (List Nat)} (hl : l.Pairwise lexlt) (hf : ∀ r ∈ l, (f r).Pairwise lexlt) (hx : ∀ r, ∀ x ∈ f r, ∃ b, x = r ++ [b]) : (l.flatMap f).Pairwise lexlt := by
  rw [List.pairwise_flatMap]
  refine ⟨hf, List.Pairwise.imp (fun {r r'} h x hx1 y hy1 => ?_) hl⟩
  obtain ⟨b, rfl⟩ := hx r x hx1
  obtain ⟨c, rfl⟩ := hx r' y hy1
  exact lex_app1 _ _ h
theorem exS_ext {N : NetD} {r x : List Nat} (h : x ∈ exS N r) : ∃ b, x = r ++ [b] := by
  obtain ⟨b, _, rfl⟩ := List.mem_map.mp h
  exact ⟨b, rfl⟩
theorem exH_ext {N : NetD} {r x : List Nat} (h : x ∈ exH N r) : ∃ b, x = r ++ [b] := by
  obtain ⟨b, _, rfl⟩ := List.mem_map.mp h
  exact ⟨b, rfl⟩
theorem rows_pw {N : NetD} : ∀ t, (rowsOf N t).Pairwise lexlt
  | 0 => by
    show (((List.range N.ks.length).filter (host N)).map fun b => ([] : List Nat) ++ [b]).Pairwise lexlt
    exact ext_pw [] _
  | t + 1 => flat_pw (rows_pw t) (fun r _ => ext_pw r _) fun r x h => exS_ext h
theorem found_pw {N : NetD} : ∀ t, (foundOf N t).Pairwise rlt
  | 0 => List.Pairwise.nil
  | t + 1 => by
    show (foundOf N t ++ (rowsOf N t).flatMap (exH N)).Pairwise rlt
    have hlen : ∀ x ∈ (rowsOf N t).flatMap (exH N), x.length = t + 2 := fun x hx => by
      obtain ⟨y, hy, hr⟩ := List.mem_flatMap.mp hx
      obtain ⟨b, rfl⟩ := exH_ext hr
      rw [List.length_append, rows_row N t y hy]
      rfl
    rw [List.pairwise_append]
    refine ⟨found_pw t, ?_, fun x hx y hy => .inl ?_⟩
    · have h := flat_pw (f := exH N) (rows_pw (N := N) t) (fun r _ => ext_pw r _) fun r x h => exH_ext h
      refine List.Pairwise.imp_of_mem (fun {x y} hx hy h => .inr ⟨?_, h⟩) h
      rw [hlen x hx, hlen y hy]
    · obtain ⟨_, _, _, _, _, h5, _⟩ := (mem_found t x).mp hx
      rw [hlen y hy]
      omega
def matchP (a b : Nat) (r : List Nat) : Bool := (r.getD 0 0 == a) && (lastN r == b)
theorem row_matchP {N : NetD} {a b : Nat} {r : List Nat} (h : Row N a r) (e : lastN r = b) : matchP a b r = true := by
  unfold matchP
  rw [Bool.and_eq_true, beq_iff_eq, beq_iff_eq]
  refine ⟨?_, e⟩
  have := h.head
  cases r with
  | nil => cases this
  | cons x t => exact Option.some.inj this
theorem matchP_row {N : NetD} {a b c : Nat} {r : List Nat} (h : Row N c r) (m : matchP a b r = true) : c = a ∧ lastN r = b := by
  unfold matchP at m
  rw [Bool.and_eq_true, beq_iff_eq, beq_iff_eq] at m
  refine ⟨?_, m.2⟩
  have := h.head
  have m1 := m.1
  cases r with
  | nil => cases this
  | cons x t =>
    have e : x = c := Option.some.inj this
    rw [← e]
    exact m1
theorem find_first {l : List (List Nat)} {p : List Nat → Bool} {r : List Nat} (hs : l.Pairwise rlt) (hr : r ∈ l) (hp : p r = true) (hmin : ∀ x ∈ l, p x = true → rle r x) : l.find? p = some r := by
  induction l with
  | nil => cases hr
  | cons x t ih =>
    rw [List.find?_cons]
    rw [List.pairwise_cons] at hs
    cases hx : p x with
    | true =>
      show some x = some r
      rcases hmin x List.mem_cons_self hx with e | e
      · rw [e]
      · rcases List.mem_cons.mp hr with q | q
        · rw [q]
        · exact absurd (rlt_trans e (hs.1 r q)) (rlt_irr r)
    | false =>
      show t.find? p = some r
      rcases List.mem_cons.mp hr with q | q
      · rw [q, hx] at hp; cases hp
      · exact ih hs.2 q fun y hy => hmin y (List.mem_cons_of_mem _ hy)
end My
/-! The search level by level gives the least of the shortest rows. -/
namespace My
open PySem PySem.Spec PyProof.Rows L2
/-- a level's fold, pair by pair -/
def pairsOf (A : Nat → List Nat) (L : List Nat) : List (Nat × Nat) := L.flatMap fun u => (A u).map fun v => (u, v)
def visitP (st : Ways × List Nat) (p : Nat × Nat) : Ways × List Nat := visit p.1 st p.2
theorem foldl_pairs1 (u : Nat) : ∀ (l : List Nat) (st : Ways × List Nat), l.foldl (visit u) st = (l.map fun v => (u, v)).foldl visitP st
  | [], _ => rfl
  | v :: r, st => foldl_pairs1 u r (visit u st v)
theorem foldl_pairs (A : Nat → List Nat) : ∀ (L : List Nat) (st : Ways × List Nat), L.foldl (fun s u => (A u).foldl (visit u) s) st = (pairsOf A L).foldl visitP st
  | [], _ => rfl
  | u :: r, st => by
    show r.foldl _ ((A u).foldl (visit u) st) = _
    rw [foldl_pairs A r, foldl_pairs1]
    show _ = (((A u).map fun v => (u, v)) ++ pairsOf A r).foldl visitP st
    rw [List.foldl_append]
/-- the way that a pair gives -/
def wayP (W : Ways) (p : Nat × Nat) : List Nat := (W p.1).getD [] ++ [p.2]
/-- within a level: the pairs of `done` are through -/
structure Mid (W0 : Ways) (done : List (Nat × Nat)) (st : Ways × List Nat) : Prop where
  val : ∀ v, st.1 v = match W0 v with | some r => some r | none => (done.find? fun p => p.2 == v).map (wayP W0)
  mem : ∀ v, v ∈ st.2 ↔ W0 v = none ∧ (st.1 v).isSome = true
  ord : st.2.Pairwise fun v v' => ∀ r r', st.1 v = some r → st.1 v' = some r' → lexlt r r'
theorem Mid.start (W0 : Ways) : Mid W0 [] (W0, []) := by
  refine ⟨fun v => ?_, fun v => ⟨(fun h => by cases h), fun ⟨h1, h2⟩ => ?_⟩, List.Pairwise.nil⟩
  · show W0 v = _
    cases W0 v <;> rfl
  · have h2 : (W0 v).isSome = true := h2
    rw [h1] at h2
    cases h2
theorem Mid.step {W0 : Ways} {done : List (Nat × Nat)} {st : Ways × List Nat} {p : Nat × Nat} (h : Mid W0 done st) (hs : (done ++ [p]).Pairwise fun q q' => lexlt (wayP W0 q) (wayP W0 q')) (hu : (W0 p.1).isSome = true) : Mid W0 (done ++ [p]) (visitP st p) := by
  obtain ⟨u, v⟩ := p
  have hval := h.val v
  by_cases e : (st.1 v).isSome = true
  · have ev : visitP st (u, v) = st := visit_some e
    rw [ev]
    refine ⟨fun x => ?_, h.mem, h.ord⟩
    rw [h.val x]
    cases e0 : W0 x with
    | some r => rfl
    | none =>
      show (done.find? fun p => p.2 == x).map (wayP W0) = ((done ++ [(u, v)]).find? fun p => p.2 == x).map (wayP W0)
      rw [List.find?_append]
      cases e1 : done.find? fun p => p.2 == x with
      | some q => rfl
      | none =>
        have hx : ¬ v = x := fun z => by
          subst z
          rw [hval, e0, e1] at e
          cases e
        have : (v == x) = false := beq_eq_false_iff_ne.mpr hx
        show Option.map (wayP W0) none = Option.map (wayP W0) ([(u, v)].find? fun p => p.2 == x)
        rw [List.find?_cons, this]
        rfl
  · have en : st.1 v = none := by
      cases z : st.1 v with
      | none => rfl
      | some y => rw [z] at e; exact absurd rfl e
    have e0 : W0 v = none := by
      cases z : W0 v with
      | none => rfl
      | some y => rw [z] at hval; rw [hval] at en; cases en
    have e1 : (done.find? fun p => p.2 == v) = none := by
      rw [e0, en] at hval
      cases z : done.find? fun p => p.2 == v with
      | none => rfl
      | some y => rw [z] at hval; cases hval
    have eu : st.1 u = W0 u := by
      obtain ⟨r, hr⟩ := Option.isSome_iff_exists.mp hu
      have hr : W0 u = some r := hr
      rw [h.val u, hr]
    have ev : visitP st (u, v) = (setW st.1 v (wayP W0 (u, v)), st.2 ++ [v]) := by
      show visit u st v = _
      rw [visit_none e, eu]
      rfl
    rw [ev]
    have hne : ∀ x, x ∈ st.2 → ¬ x = v := fun x hx z => by
      have := ((h.mem x).mp hx).2
      rw [z, en] at this
      cases this
    refine ⟨fun x => ?_, fun x => ?_, ?_⟩
    · show setW st.1 v (wayP W0 (u, v)) x = _
      unfold setW
      by_cases ex : x = v
      · subst ex
        rw [if_pos rfl, e0]
        show some (wayP W0 (u, x)) = ((done ++ [(u, x)]).find? fun p => p.2 == x).map (wayP W0)
        rw [List.find?_append, e1, List.find?_cons, show (x == x) = true from beq_self_eq_true x]
        rfl
      · rw [if_neg ex, h.val x]
        cases W0 x with
        | some r => rfl
        | none =>
          show (done.find? fun p => p.2 == x).map (wayP W0) = ((done ++ [(u, v)]).find? fun p => p.2 == x).map (wayP W0)
          rw [List.find?_append]
          cases done.find? fun p => p.2 == x with
          | some q => rfl
          | none =>
            have : (v == x) = false := beq_eq_false_iff_ne.mpr fun z => ex z.symm
            show Option.map (wayP W0) none = Option.map (wayP W0) ([(u, v)].find? fun p => p.2 == x)
            rw [List.find?_cons, this]
            rfl
    · show x ∈ st.2 ++ [v] ↔ W0 x = none ∧ (setW st.1 v (wayP W0 (u, v)) x).isSome = true
      unfold setW
      rw [List.mem_append, List.mem_singleton]
      by_cases ex : x = v
      · subst ex
        rw [if_pos rfl]
        exact ⟨fun _ => ⟨e0, rfl⟩, fun _ => .inr rfl⟩
      · rw [if_neg ex, h.mem x]
        exact ⟨fun q => q.resolve_right ex, fun q => .inl q⟩
    · show (st.2 ++ [v]).Pairwise _
      rw [List.pairwise_append]
      refine ⟨List.Pairwise.imp_of_mem (fun {x y} hx hy hr r r' h1 h2 => ?_) h.ord, List.pairwise_singleton _ _, fun x hx y hy r r' h1 h2 => ?_⟩
      · have h1 : setW st.1 v (wayP W0 (u, v)) x = some r := h1
        have h2 : setW st.1 v (wayP W0 (u, v)) y = some r' := h2
        unfold setW at h1 h2
        rw [if_neg (hne x hx)] at h1
        rw [if_neg (hne y hy)] at h2
        exact hr r r' h1 h2
      · rw [List.mem_singleton.mp hy] at h2
        have h1 : setW st.1 v (wayP W0 (u, v)) x = some r := h1
        have h2 : setW st.1 v (wayP W0 (u, v)) v = some r' := h2
        unfold setW at h1 h2
        rw [if_neg (hne x hx)] at h1
        rw [if_pos rfl] at h2
        cases h2
        rw [h.val x, ((h.mem x).mp hx).1] at h1
        obtain ⟨q, hq, rfl⟩ := Option.map_eq_some_iff.mp h1
        have hqm : q ∈ done := List.mem_of_find?_eq_some hq
        rw [List.pairwise_append] at hs
        exact hs.2.2 q hqm (u, v) (List.mem_singleton.mpr rfl)
theorem Mid.fold {W0 : Ways} : ∀ (l done : List (Nat × Nat)) {st : Ways × List Nat}, Mid W0 done st → (done ++ l).Pairwise (fun q q' => lexlt (wayP W0 q) (wayP W0 q')) → (∀ p ∈ l, (W0 p.1).isSome = true) → Mid W0 (done ++ l) (l.foldl visitP st)
  | [], done, _, h, _, _ => by rw [List.append_nil]; exact h
  | p :: r, done, st, h, hs, hu => by
    have e : done ++ p :: r = (done ++ [p]) ++ r := by rw [List.append_assoc]; rfl
    rw [e] at hs ⊢
    refine Mid.fold r (done ++ [p]) (h.step ?_ (hu p List.mem_cons_self)) hs fun q hq => hu q (List.mem_cons_of_mem _ hq)
    exact (List.pairwise_append.mp hs).1
/-! ### the levels -/
def arcsOf (N : NetD) (first a : Nat) : List Nat := if decide (a = first) || !host N a then nbs N a else []
theorem arcs_pw (N : NetD) (a u : Nat) : (arcsOf N a u).Pairwise (· < ·) := by
  unfold arcsOf nbs
  split
  · exact (range_pw _).filter _
  · exact List.Pairwise.nil
theorem mem_arcs {N : NetD} {a u v : Nat} : v ∈ arcsOf N a u ↔ (u = a ∨ host N u = false) ∧ v < N.ks.length ∧ adj N u v = true := by
  unfold arcsOf nbs
  by_cases e : (decide (u = a) || !host N u) = true
  · rw [if_pos e, List.mem_filter, List.mem_range]
    rw [Bool.or_eq_true, decide_eq_true_eq, Bool.not_eq_true'] at e
    exact ⟨fun h => ⟨e, h⟩, fun h => h.2⟩
  · rw [if_neg e]
    rw [Bool.or_eq_true, decide_eq_true_eq, Bool.not_eq_true'] at e
    exact ⟨(fun h => by cases h), fun h => absurd h.1 e⟩
theorem rle_len {x y : List Nat} (h : rle x y) : x.length ≤ y.length := by
  rcases h with rfl | h | ⟨h, _⟩
  · exact Nat.le_refl _
  · omega
  · omega
structure Lv (N : NetD) (a t : Nat) (st : Ways × List Nat) : Prop where
  row : ∀ v r, st.1 v = some r → Row N a r ∧ lastN r = v ∧ r.length ≤ t + 1 ∧ ∀ x, Row N a x → lastN x = v → rle r x
  all : ∀ x, Row N a x → x.length ≤ t + 1 → (st.1 (lastN x)).isSome = true
  mem : ∀ u, u ∈ st.2 ↔ ∃ r, st.1 u = some r ∧ r.length = t + 1
  ord : st.2.Pairwise fun u u' => ∀ r r', st.1 u = some r → st.1 u' = some r' → lexlt r r'
theorem lv_zero (N : NetD) (a : Nat) : Lv N a 0 (lev (arcsOf N a) a 0) := by
  have ev : ∀ v, (lev (arcsOf N a) a 0).1 v = if v = a then some [a] else none := fun v => rfl
  refine ⟨fun v r h => ?_, fun x hx hl => ?_, fun u => ?_, List.pairwise_singleton _ _⟩
  · rw [ev] at h
    by_cases e : v = a
    · rw [if_pos e] at h
      cases h
      refine ⟨.start, e.symm ▸ rfl, Nat.le_refl _, fun x hx _ => ?_⟩
      rcases hx.split with rfl | ⟨y, b, rfl, h1, _⟩
      · exact .inl rfl
      · refine .inr (.inl ?_)
        have := h1.pos
        rw [List.length_append, List.length_singleton, List.length_singleton]
        omega
    · rw [if_neg e] at h; cases h
  · rcases hx.split with rfl | ⟨y, b, rfl, h1, _⟩
    · rw [lastN_one, ev, if_pos rfl]; rfl
    · have := h1.pos
      rw [List.length_append, List.length_singleton] at hl
      omega
  · show u ∈ [a] ↔ _
    rw [List.mem_singleton]
    constructor
    · intro e
      exact ⟨[a], by rw [ev, if_pos e], rfl⟩
    · rintro ⟨r, h, _⟩
      rw [ev] at h
      by_cases e : u = a
      · exact e
      · rw [if_neg e] at h; cases h
theorem mem_pairs {A : Nat → List Nat} {L : List Nat} {p : Nat × Nat} : p ∈ pairsOf A L ↔ p.1 ∈ L ∧ p.2 ∈ A p.1 := by
  unfold pairsOf
  rw [List.mem_flatMap]
  constructor
  · rintro ⟨u, hu, h⟩
    obtain ⟨v, hv, rfl⟩ := List.mem_map.mp h
    exact ⟨hu, hv⟩
  · rintro ⟨h1, h2⟩
    exact ⟨p.1, h1, List.mem_map.mpr ⟨p.2, h2, rfl⟩⟩
theorem pairs_pw {N : NetD} {a t : Nat} {st : Ways × List Nat} (h : Lv N a t st) : (pairsOf (arcsOf N a) st.2).Pairwise fun q q' => lexlt (wayP st.1 q) (wayP st.1 q') := by
  unfold pairsOf
  rw [List.pairwise_flatMap]
  refine ⟨fun u hu => ?_, List.Pairwise.imp_of_mem (fun {u u'} hu hu' hr p hp q hq => ?_) h.ord⟩
  · exact List.Pairwise.map _ (fun v v' hv => lex_one hv _) (arcs_pw N a u)
  · obtain ⟨v, _, rfl⟩ := List.mem_map.mp hp
    obtain ⟨v', _, rfl⟩ := List.mem_map.mp hq
    obtain ⟨r, h1, _⟩ := (h.mem u).mp hu
    obtain ⟨r', h2, _⟩ := (h.mem u').mp hu'
    unfold wayP
    show lexlt ((st.1 u).getD [] ++ [v]) ((st.1 u').getD [] ++ [v'])
    rw [h1, h2]
    exact lex_app1 _ _ (hr r r' h1 h2)
theorem find_least {W : Ways} {v : Nat} {p q : Nat × Nat} : ∀ {l : List (Nat × Nat)}, l.Pairwise (fun q q' => lexlt (wayP W q) (wayP W q')) → (l.find? fun p => p.2 == v) = some p → q ∈ l → q.2 = v → q = p ∨ lexlt (wayP W p) (wayP W q)
  | [], _, h, _, _ => by cases h
  | x :: t, hs, h, hq, e => by
    rw [List.pairwise_cons] at hs
    rw [List.find?_cons] at h
    cases hx : x.2 == v with
    | true =>
      rw [hx] at h
      cases h
      rcases List.mem_cons.mp hq with z | z
      · exact .inl z
      · exact .inr (hs.1 q z)
    | false =>
      rw [hx] at h
      rcases List.mem_cons.mp hq with z | z
      · rw [z] at e
        rw [e, beq_self_eq_true] at hx
        cases hx
      · exact find_least hs.2 h z e
theorem lv_succ {N : NetD} {a t : Nat} (ha : a < N.ks.length) (h : Lv N a t (lev (arcsOf N a) a t)) : Lv N a (t + 1) (lev (arcsOf N a) a (t + 1)) := by
  generalize hst : lev (arcsOf N a) a t = st at h
  have e1 : lev (arcsOf N a) a (t + 1) = (pairsOf (arcsOf N a) st.2).foldl visitP (st.1, []) := by
    show levStep (arcsOf N a) (lev (arcsOf N a) a t) = _
    rw [hst]
    exact foldl_pairs _ _ _
  have hL : ∀ p ∈ pairsOf (arcsOf N a) st.2, ∃ r, st.1 p.1 = some r ∧ r.length = t + 1 := fun p hp => (h.mem p.1).mp (mem_pairs.mp hp).1
  have M : Mid st.1 (pairsOf (arcsOf N a) st.2) ((pairsOf (arcsOf N a) st.2).foldl visitP (st.1, [])) := by
    have := Mid.fold (pairsOf (arcsOf N a) st.2) [] (Mid.start st.1) (by rw [List.nil_append]; exact pairs_pw h) fun p hp => by
      obtain ⟨r, hr, _⟩ := hL p hp
      rw [hr]; rfl
    rw [List.nil_append] at this
    exact this
  rw [e1]
  generalize hs2 : (pairsOf (arcsOf N a) st.2).foldl visitP (st.1, []) = st2 at M
  have hpw := pairs_pw h
  -- a node that is not yet there is in no row that is as short
  have notin : ∀ v, st.1 v = none → ∀ r, Row N a r → r.length ≤ t + 1 → v ∉ r := fun v hv r hr hl m => by
    obtain ⟨x, x1, x2, x3⟩ := hr.pre v m
    have := h.all x x1 (by omega)
    rw [x2, hv] at this
    cases this
  -- a row one longer comes from a pair
  have from_ : ∀ x, Row N a x → x.length ≤ t + 2 → st.1 (lastN x) = none → ∃ y b, x = y ++ [b] ∧ y.length = t + 1 ∧ ∃ r', st.1 (lastN y) = some r' ∧ r'.length = t + 1 ∧ rle r' y ∧ (lastN y, b) ∈ pairsOf (arcsOf N a) st.2 := fun x hx hl hv => by
    have hlen : ¬ x.length ≤ t + 1 := fun z => by
      have := h.all x hx z
      rw [hv] at this
      cases this
    rcases hx.split with rfl | ⟨y, b, rfl, y1, y2, o, hb⟩
    · rw [List.length_singleton] at hlen; omega
    · rw [List.length_append, List.length_singleton] at hl hlen
      rw [lastN_app] at hv
      have yl : y.length = t + 1 := by omega
      obtain ⟨r', hr'⟩ := Option.isSome_iff_exists.mp (h.all y y1 (by omega))
      obtain ⟨w1, w2, w3, w4⟩ := h.row _ _ hr'
      have hle := w4 y y1 rfl
      have hu : lastN y = a ∨ host N (lastN y) = false := y2.imp (fun z => by rw [z]; rfl) id
      have hadj := (okb_mem o).2
      have hr'l : r'.length = t + 1 := by
        rcases Nat.lt_or_ge r'.length (t + 1) with z | z
        · exfalso
          have hbn : b ∉ r' := notin b hv r' w1 w3
          have hx2 : Row N a (r' ++ [b]) := by
            refine .ext w1 ?_ (okb_of hbn (by rw [w2]; exact hadj)) hb
            rcases hu with q | q
            · exact .inl (w1.back (by rw [w2]; exact q))
            · exact .inr (by rw [w2]; exact q)
          have := h.all _ hx2 (by rw [List.length_append, List.length_singleton]; omega)
          rw [lastN_app, hv] at this
          cases this
        · omega
      exact ⟨y, b, rfl, yl, r', hr', hr'l, hle, mem_pairs.mpr ⟨(h.mem _).mpr ⟨r', hr', hr'l⟩, mem_arcs.mpr ⟨hu, hb, hadj⟩⟩⟩
  refine ⟨fun v r hr => ?_, fun x hx hl => ?_, fun u => ?_, M.ord⟩
  · rw [M.val v] at hr
    cases e0 : st.1 v with
    | some r0 =>
      rw [e0] at hr
      cases hr
      obtain ⟨w1, w2, w3, w4⟩ := h.row v r e0
      exact ⟨w1, w2, by omega, w4⟩
    | none =>
      rw [e0] at hr
      obtain ⟨p, hp, rfl⟩ := Option.map_eq_some_iff.mp hr
      have hpm := List.mem_of_find?_eq_some hp
      have hp2 : p.2 = v := by
        have := List.find?_some hp
        exact beq_iff_eq.mp this
      obtain ⟨ru, hru, hrul⟩ := hL p hpm
      obtain ⟨w1, w2, w3, w4⟩ := h.row p.1 ru hru
      obtain ⟨c1, c2, c3⟩ := mem_arcs.mp (mem_pairs.mp hpm).2
      have ew : wayP st.1 p = ru ++ [v] := by
        unfold wayP
        rw [hru, hp2]
        rfl
      rw [ew]
      have hvn : v ∉ ru := notin v e0 ru w1 w3
      have hrow : Row N a (ru ++ [v]) := by
        refine .ext w1 ?_ (okb_of hvn (by rw [w2, ← hp2]; exact c3)) (by rw [← hp2]; exact c2)
        rcases c1 with q | q
        · exact .inl (w1.back (by rw [w2]; exact q))
        · exact .inr (by rw [w2]; exact q)
      refine ⟨hrow, lastN_app _ _, by rw [List.length_append, List.length_singleton]; omega, fun x hx hv => ?_⟩
      by_cases hl : x.length ≤ t + 2
      · obtain ⟨y, b, rfl, yl, r', hr', hr'l, hle, hpair⟩ := from_ x hx hl (by rw [hv]; exact e0)
        rw [lastN_app] at hv
        have ewq : wayP st.1 (lastN y, b) = r' ++ [b] := by
          unfold wayP
          rw [hr']
          rfl
        have key : rle (ru ++ [v]) (r' ++ [b]) := by
          rcases find_least hpw hp hpair hv with z | z
          · rw [← ew, ← ewq, z]
            exact .inl rfl
          · rw [ew, ewq] at z
            exact .inr (.inr ⟨by rw [List.length_append, List.length_append, hrul, hr'l]; rfl, z⟩)
        have key2 : rle (r' ++ [b]) (y ++ [b]) := by
          rcases hle with z | z | ⟨_, z⟩
          · rw [z]; exact .inl rfl
          · omega
          · exact .inr (.inr ⟨by rw [List.length_append, List.length_append, yl, hr'l], lex_app1 _ _ z⟩)
        rcases key with z | z
        · rw [z]; exact key2
        · rcases key2 with z2 | z2
          · rw [← z2]; exact .inr z
          · exact .inr (rlt_trans z z2)
      · refine .inr (.inl ?_)
        rw [List.length_append, List.length_singleton]
        omega
  · rw [M.val]
    cases e0 : st.1 (lastN x) with
    | some r0 => rfl
    | none =>
      obtain ⟨y, b, rfl, yl, r', hr', hr'l, hle, hpair⟩ := from_ x hx hl e0
      rw [lastN_app]
      show (Option.map (wayP st.1) _).isSome = true
      rw [Option.isSome_map, List.find?_isSome]
      exact ⟨_, hpair, beq_iff_eq.mpr rfl⟩
  · rw [M.mem u]
    constructor
    · rintro ⟨e0, e2⟩
      have hv := M.val u
      rw [e0] at hv
      rw [hv] at e2
      obtain ⟨r, hr⟩ := Option.isSome_iff_exists.mp e2
      refine ⟨r, by rw [hv]; exact hr, ?_⟩
      obtain ⟨p, hp, rfl⟩ := Option.map_eq_some_iff.mp hr
      obtain ⟨ru, hru, hrul⟩ := hL p (List.mem_of_find?_eq_some hp)
      unfold wayP
      rw [hru, List.length_append]
      show ru.length + 1 = _
      rw [hrul]
    · rintro ⟨r, hr, hrl⟩
      refine ⟨?_, by rw [hr]; rfl⟩
      cases e0 : st.1 u with
      | none => rfl
      | some r0 =>
        have hv := M.val u
        rw [e0] at hv
        rw [hv] at hr
        cases hr
        obtain ⟨_, _, w3, _⟩ := h.row u r e0
        omega
theorem lv_all {N : NetD} {a : Nat} (ha : a < N.ks.length) : ∀ t, Lv N a t (lev (arcsOf N a) a t)
  | 0 => lv_zero N a
  | t + 1 => lv_succ ha (lv_all ha t)
/-- no level is longer than there are nodes -/
theorem lev_stop {N : NetD} {a : Nat} (ha : a < N.ks.length) : (lev (arcsOf N a) a N.ks.length).2 = [] := by
  have h := lv_all ha N.ks.length
  cases e : (lev (arcsOf N a) a N.ks.length).2 with
  | nil => rfl
  | cons u t =>
    obtain ⟨r, hr, hl⟩ := (h.mem u).mp (by rw [e]; exact List.mem_cons_self)
    obtain ⟨w1, _⟩ := h.row u r hr
    have := nodup_lt N.ks.length r w1.nodup (w1.lt ha)
    omega
/-- a row between hosts has at most two nodes more than there are switches -/
theorem nodup_sub : ∀ {l m : List Nat}, l.Nodup → (∀ x ∈ l, x ∈ m) → l.length ≤ m.length
  | [], _, _, _ => Nat.zero_le _
  | x :: l, m, hd, hs => by
    rw [List.nodup_cons] at hd
    have hx := hs x List.mem_cons_self
    have ih := nodup_sub (l := l) (m := m.erase x) hd.2 fun y hy => (List.mem_erase_of_ne (fun z => hd.1 (by rw [← z]; exact hy))).mpr (hs y (List.mem_cons_of_mem _ hy))
    rw [List.length_erase_of_mem hx] at ih
    have := List.length_pos_of_mem hx
    rw [List.length_cons]
    omega
theorem count_range (p : Nat → Bool) (ks : List Bool) (off : Nat) (hp : ∀ i, i < ks.length → p (off + i) = !(ks.getD i true)) : ((List.range' off ks.length).filter p).length = ks.count false := by
  induction ks generalizing off with
  | nil => rfl
  | cons b r ih =>
    have h0 := hp 0 (by rw [List.length_cons]; omega)
    have h0 : p off = !b := h0
    have ih := ih (off + 1) fun i hi => by
      have := hp (i + 1) (by rw [List.length_cons]; omega)
      rw [show off + 1 + i = off + (i + 1) by omega, this]
      rfl
    rw [List.length_cons, List.range'_succ, List.filter_cons, List.count_cons, h0]
    cases b with
    | true =>
      show ((List.range' (off + 1) r.length).filter p).length = _
      rw [ih]
      rfl
    | false =>
      show ((List.range' (off + 1) r.length).filter p).length + 1 = _
      rw [ih]
      rfl
theorem switches_len (N : NetD) : ((List.range N.ks.length).filter fun a => !host N a).length = N.ks.count false := by
  rw [List.range_eq_range']
  refine count_range _ N.ks 0 fun i _ => ?_
  unfold host
  rw [Nat.zero_add]
/-- all but the first and the last are switches -/
theorem Row.inner {N : NetD} {a : Nat} {r : List Nat} (h : Row N a r) (ha : a < N.ks.length) : ∃ m, (r = [a] ∧ m = []) ∨ (∃ b, r = a :: (m ++ [b])) ∧ m.Nodup ∧ ∀ x ∈ m, x < N.ks.length ∧ host N x = false := by
  induction h with
  | start => exact ⟨[], .inl ⟨rfl, rfl⟩⟩
  | @ext r b h1 h2 o hb ih =>
    obtain ⟨m, z⟩ := ih
    rcases z with ⟨z, _⟩ | ⟨⟨c, z⟩, m1, m2⟩
    · exact ⟨[], .inr ⟨⟨b, by rw [z]; rfl⟩, List.nodup_nil, fun x hx => by cases hx⟩⟩
    · refine ⟨m ++ [c], .inr ⟨⟨b, by rw [z]; rfl⟩, ?_, ?_⟩⟩
      · have := h1.nodup
        rw [z, List.nodup_cons] at this
        exact this.2
      · intro x hx
        rcases List.mem_append.mp hx with q | q
        · exact m2 x q
        · rw [List.mem_singleton.mp q]
          have hl : lastN r = c := by
            rw [z]
            exact lastN_app (a :: m) c
          refine ⟨h1.lt ha c (by rw [z]; simp), ?_⟩
          rcases h2 with y | y
          · rw [z] at y
            have := congrArg List.length y
            rw [List.length_cons, List.length_append] at this
            simp at this
          · rw [← hl]; exact y
theorem Row.short {N : NetD} {a : Nat} {r : List Nat} (h : Row N a r) (ha : a < N.ks.length) : r.length ≤ N.ks.count false + 2 := by
  obtain ⟨m, z⟩ := h.inner ha
  rcases z with ⟨z, _⟩ | ⟨⟨b, z⟩, m1, m2⟩
  · rw [z, List.length_singleton]; omega
  · have := nodup_sub (m := (List.range N.ks.length).filter fun a => !host N a) m1 fun x hx => by
      obtain ⟨y1, y2⟩ := m2 x hx
      exact List.mem_filter.mpr ⟨List.mem_range.mpr y1, by rw [y2]; rfl⟩
    rw [switches_len] at this
    rw [z, List.length_cons, List.length_append, List.length_singleton]
    omega
/-- THE POINT: the search's way is the first row found -/
theorem way_is_found {N : NetD} {a b T : Nat} (ha : a < N.ks.length) (ha2 : host N a = true) (hb : host N b = true) (hab : a ≠ b) (hT : N.ks.count false + 1 ≤ T) : (lev (arcsOf N a) a N.ks.length).1 b = (foundOf N T).find? (matchP a b) := by
  have h := lv_all ha N.ks.length
  have two : ∀ x, Row N a x → lastN x = b → 2 ≤ x.length := fun x hx e => by
    rcases hx.split with rfl | ⟨y, c, rfl, y1, _⟩
    · exact absurd e hab
    · have := y1.pos
      rw [List.length_append, List.length_singleton]
      omega
  have inF : ∀ x, Row N a x → lastN x = b → x ∈ foundOf N T := fun x hx e => by
    have := hx.short ha
    exact (mem_found _ _).mpr ⟨a, ha, ha2, hx, two x hx e, by omega, by rw [e]; exact hb⟩
  cases e : (lev (arcsOf N a) a N.ks.length).1 b with
  | none =>
    symm
    rw [List.find?_eq_none]
    intro x hx m
    obtain ⟨c, _, _, h3, _⟩ := (mem_found _ _).mp hx
    obtain ⟨rfl, e2⟩ := matchP_row h3 m
    have := h.all x h3 (by have := nodup_lt N.ks.length x h3.nodup (h3.lt ha); omega)
    rw [e2, e] at this
    cases this
  | some r =>
    obtain ⟨w1, w2, w3, w4⟩ := h.row b r e
    symm
    refine find_first (found_pw T) (inF r w1 w2) (row_matchP w1 w2) fun x hx m => ?_
    obtain ⟨c, _, _, h3, _⟩ := (mem_found _ _).mp hx
    obtain ⟨rfl, e2⟩ := matchP_row h3 m
    exact w4 x h3 e2
end My
/-! Rows as data: ==, < of pairs (len(row), row). -/
namespace My
open PySem PySem.Spec PyProof.Rows L2
def dList (r : List Nat) : PyData := .list (r.map fun (n : Nat) => PyData.int (n : Int))
def dPair (r : List Nat) : PyData := .tuple [.int ((r.length : Nat) : Int), dList r]
theorem dp_ints {K : PySem.W.Frag} {H : Hp} : ∀ r : List Nat, DpAll K H (natsV r) (r.map fun (n : Nat) => PyData.int (n : Int))
  | [] => .nil
  | n :: r => .cons (.int _) (dp_ints r)
theorem dp_list {K : PySem.W.Frag} {H : Hp} {a : Addr} {r : List Nat} (h : SqL K H a (natsV r)) : Dp K H (.ref a) (dList r) := .lst h (dp_ints r)
theorem canLay_ints : ∀ r : List Nat, PyData.canLayAll0 (r.map fun (n : Nat) => PyData.int (n : Int)) = true
  | [] => rfl
  | n :: r => by
    rw [List.map_cons, PyData.canLayAll0, canLay_ints r]
    rfl
theorem depth_ints : ∀ r : List Nat, PyData.depthAll (r.map fun (n : Nat) => PyData.int (n : Int)) = 0
  | [] => by rw [List.map_nil, PyData.depthAll]
  | n :: r => by
    rw [List.map_cons, PyData.depthAll, depth_ints r, PyData.depth]
    rfl
theorem depth_list (r : List Nat) : (dList r).depth = 1 := by
  unfold dList
  rw [PyData.depth, depth_ints]
theorem shaped_list (r : List Nat) : SeqAt.shaped (dList r) = true := by
  unfold SeqAt.shaped
  rw [depth_list]
  unfold dList
  rw [PyData.canLay0, canLay_ints]
  rfl
theorem shaped_none : SeqAt.shaped PyData.none = true := by decide +kernel
theorem eqv_list (r : List Nat) : PyData.eqv (dList r) (dList r) = true := SeqAt.eqv_refl _ (SeqAt.canLay_of_shaped (shaped_list r))
theorem eqv_none : PyData.eqv PyData.none PyData.none = true := by rw [PyData.eqv]
theorem alike_ints : ∀ r x : List Nat, PySem.W.alikeAll (r.map fun (n : Nat) => PyData.int (n : Int)) (x.map fun (n : Nat) => PyData.int (n : Int)) = true
  | [], x => by rw [List.map_nil, PySem.W.alikeAll]
  | n :: r, [] => by
    rw [List.map_cons, List.map_nil]
    rw [PySem.W.alikeAll]
  | n :: r, y :: x => by
    rw [List.map_cons, List.map_cons, PySem.W.alikeAll, alike_ints r x, PySem.W.alike]
    rfl
theorem alike_pair (r x : List Nat) : PySem.W.alike (dPair r) (dPair x) = true := by
  unfold dPair dList
  rw [PySem.W.alike, PySem.W.alikeAll, PySem.W.alikeAll, PySem.W.alikeAll, PySem.W.alike, PySem.W.alike, alike_ints]
  rfl
theorem depth_pair (r : List Nat) : (dPair r).depth = 2 := by
  unfold dPair
  rw [PyData.depth, PyData.depthAll, PyData.depthAll, PyData.depthAll, depth_list, PyData.depth]
  rfl
theorem eqv_int (i j : Int) : PyData.eqv (.int i) (.int j) = (i == j) := by rw [PyData.eqv]
theorem alike_int (i j : Int) : PySem.W.alike (.int i) (.int j) = true := by rw [PySem.W.alike]
/-- lists of ints: the greater one is not less -/
theorem ints_nlt : ∀ {b x : List Nat}, lexlt b x → PyProof.Rows.lexLt PyProof.Rows.itemOrd (PySem.W.keyToksAll (x.map fun (n : Nat) => PyData.int (n : Int))) (PySem.W.keyToksAll (b.map fun (n : Nat) => PyData.int (n : Int))) = false
  | [], _, h => h.elim
  | _ :: _, [], h => h.elim
  | n :: b, y :: x, h => by
    rw [List.map_cons, List.map_cons]
    by_cases e : y = n
    · rw [PySem.W.dataLt_all_yes (alike_int _ _) (by rw [eqv_int, e]; exact beq_self_eq_true _)]
      rcases h with h | ⟨_, h⟩
      · omega
      · exact ints_nlt h
    · rw [PySem.W.dataLt_all_no (alike_int _ _) (by rw [eqv_int]; exact beq_eq_false_iff_ne.mpr (by omega)), PySem.W.dataLt_int]
      rcases h with h | ⟨z, _⟩
      · exact decide_eq_false (by omega)
      · exact absurd z.symm e
theorem lex_len : ∀ {b x : List Nat}, lexlt b x → b.length = x.length → PyData.eqvAll (x.map fun (n : Nat) => PyData.int (n : Int)) (b.map fun (n : Nat) => PyData.int (n : Int)) = false
  | [], _, h, _ => h.elim
  | _ :: _, [], h, _ => h.elim
  | n :: b, y :: x, h, hl => by
    rw [List.map_cons, List.map_cons, PyData.eqvAll, eqv_int]
    rcases h with h | ⟨e, h⟩
    · rw [show (((y : Nat) : Int) == (n : Int)) = false from beq_eq_false_iff_ne.mpr (by omega)]
      rfl
    · rw [lex_len h (by simpa using hl), Bool.and_false]
theorem pair_nlt {b x : List Nat} (h : rlt b x) : PySem.W.dataLt (dPair x) (dPair b) = false := by
  unfold dPair
  rw [PySem.W.dataLt_tuple]
  by_cases e : x.length = b.length
  · rw [PySem.W.dataLt_all_yes (alike_int _ _) (by rw [eqv_int, e]; exact beq_self_eq_true _)]
    rcases h with h | ⟨_, h⟩
    · omega
    · have al : PySem.W.alike (dList x) (dList b) = true := by
        unfold dList
        rw [PySem.W.alike]
        exact alike_ints x b
      have ev : PyData.eqv (dList x) (dList b) = false := by
        unfold dList
        rw [PyData.eqv]
        exact lex_len h e.symm
      rw [PySem.W.dataLt_all_no al ev]
      unfold dList
      rw [PySem.W.dataLt_list]
      exact ints_nlt h
  · rw [PySem.W.dataLt_all_no (alike_int _ _) (by rw [eqv_int]; exact beq_eq_false_iff_ne.mpr (by omega)), PySem.W.dataLt_int]
    rcases h with h | ⟨z, _⟩
    · exact decide_eq_false (by omega)
    · exact absurd z.symm e
end My
/-! == of lists of kinds, nodes, ports, lines as data. No row. -/
namespace My
open PySem PySem.Spec PyProof.Rows L2
structure Shp (n : Nat) (d : PyData) : Prop where
  c : d.canLay0 = true
  d : d.depth ≤ n
theorem Shp.shaped {n : Nat} {d : PyData} (h : Shp n d) (hn : n ≤ 64 := by decide) : SeqAt.shaped d = true := by
  unfold SeqAt.shaped
  rw [h.c, decide_eq_true (Nat.le_trans h.d hn)]
  rfl
theorem shp_int (i : Int) : Shp 0 (.int i) := ⟨by rw [PyData.canLay0], by rw [PyData.depth]; exact Nat.le_refl _⟩
theorem shp_kind (b : Bool) : Shp 0 (.str (if b then "host" else "switch")) := ⟨by rw [PyData.canLay0]; cases b <;> decide +kernel, by rw [PyData.depth]; exact Nat.le_refl _⟩
theorem shp_all {n : Nat} : ∀ {ds : List PyData}, (∀ d ∈ ds, Shp n d) → PyData.canLayAll0 ds = true ∧ PyData.depthAll ds ≤ n
  | [], _ => ⟨by rw [PyData.canLayAll0], by rw [PyData.depthAll]; exact Nat.zero_le _⟩
  | d :: r, h => by
    have h1 := h d List.mem_cons_self
    have h2 := shp_all (ds := r) fun x hx => h x (List.mem_cons_of_mem _ hx)
    refine ⟨by rw [PyData.canLayAll0, h1.c, h2.1]; rfl, by rw [PyData.depthAll]; exact Nat.max_le.mpr ⟨h1.d, h2.2⟩⟩
theorem shp_list {n : Nat} {ds : List PyData} (h : ∀ d ∈ ds, Shp n d) : Shp (n + 1) (.list ds) := ⟨by rw [PyData.canLay0]; exact (shp_all h).1, by rw [PyData.depth]; exact Nat.succ_le_succ (shp_all h).2⟩
theorem shp_tuple {n : Nat} {ds : List PyData} (h : ∀ d ∈ ds, Shp n d) : Shp (n + 1) (.tuple ds) := ⟨by rw [PyData.canLay0]; exact (shp_all h).1, by rw [PyData.depth]; exact Nat.succ_le_succ (shp_all h).2⟩
theorem shp_map {α : Type} {n : Nat} {f : α → PyData} {xs : List α} (h : ∀ x, Shp n (f x)) : ∀ d ∈ xs.map f, Shp n d := fun d hd => by
  obtain ⟨x, _, rfl⟩ := List.mem_map.mp hd
  exact h x
theorem eqv_map {α : Type} [DecidableEq α] (f : α → PyData) (h : ∀ x y, PyData.eqv (f x) (f y) = decide (x = y)) : ∀ xs ys : List α, PyData.eqvAll (xs.map f) (ys.map f) = decide (xs = ys)
  | [], [] => by rw [List.map_nil, PyData.eqvAll, decide_eq_true rfl]
  | [], y :: ys => by rw [List.map_nil, List.map_cons, PyData.eqvAll, decide_eq_false (by simp)]
  | x :: xs, [] => by rw [List.map_nil, List.map_cons, PyData.eqvAll, decide_eq_false (by simp)]
  | x :: xs, y :: ys => by
    rw [List.map_cons, List.map_cons, PyData.eqvAll, h, eqv_map f h xs ys, Bool.eq_iff_iff, Bool.and_eq_true, decide_eq_true_eq, decide_eq_true_eq, decide_eq_true_eq, List.cons.injEq]
theorem beq_dec (i j : Int) : (i == j) = decide (i = j) := by
  rw [Bool.eq_iff_iff, beq_iff_eq, decide_eq_true_eq]
/-! ### kinds -/
def dKind (b : Bool) : PyData := .str (if b then "host" else "switch")
def dKinds (ks : List Bool) : PyData := .list (ks.map dKind)
theorem eqv_kind (a b : Bool) : PyData.eqv (dKind a) (dKind b) = decide (a = b) := by
  unfold dKind
  rw [PyData.eqv]
  cases a <;> cases b <;> decide +kernel
theorem eqv_kinds (a b : List Bool) : PyData.eqv (dKinds a) (dKinds b) = decide (a = b) := by
  unfold dKinds
  rw [PyData.eqv, eqv_map dKind eqv_kind]
theorem shp_kinds (ks : List Bool) : Shp 1 (dKinds ks) := shp_list (shp_map shp_kind)
theorem dp_all {α : Type} {K : PySem.W.Frag} {H : Hp} (f : α → PyData) (g : α → V) (h : ∀ x, Dp K H (g x) (f x)) : ∀ xs : List α, DpAll K H (xs.map g) (xs.map f)
  | [] => .nil
  | x :: r => .cons (h x) (dp_all f g h r)
theorem dp_kinds {K : PySem.W.Frag} {H : Hp} {a : Addr} {ks : List Bool} (h : SqL K H a (ks.map kindV)) : Dp K H (.ref a) (dKinds ks) := .lst h (dp_all dKind kindV (fun _ => .str _) ks)
/-! ### nodes -/
theorem shp_nats (r : List Nat) : Shp 1 (dList r) := shp_list (shp_map (f := fun (n : Nat) => PyData.int (n : Int)) fun _ => shp_int _)
theorem eqv_nats (a b : List Nat) : PyData.eqv (dList a) (dList b) = decide (a = b) := by
  unfold dList
  rw [PyData.eqv, eqv_map (fun (n : Nat) => PyData.int (n : Int)) fun x y => by
    rw [eqv_int, beq_dec]
    by_cases e : x = y
    · rw [e, decide_eq_true rfl, decide_eq_true rfl]
    · rw [decide_eq_false e, decide_eq_false (by omega)]]
/-! ### ports -/
def portV (p : Nat × Nat) : List V := [.int (p.1 : Int), .int (p.2 : Int)]
def dPort (p : Nat × Nat) : PyData := .tuple [.int (p.1 : Int), .int (p.2 : Int)]
def dPorts (ps : List (Nat × Nat)) : PyData := .list (ps.map dPort)
theorem shp_port (p : Nat × Nat) : Shp 1 (dPort p) := shp_tuple fun d hd => by
  rcases List.mem_cons.mp hd with e | hd
  · rw [e]; exact shp_int _
  · rw [List.mem_singleton.mp hd]; exact shp_int _
theorem eqv_port (p q : Nat × Nat) : PyData.eqv (dPort p) (dPort q) = decide (p = q) := by
  obtain ⟨a, b⟩ := p
  obtain ⟨c, d⟩ := q
  unfold dPort
  rw [PyData.eqv, PyData.eqvAll, PyData.eqvAll, PyData.eqvAll, eqv_int, eqv_int, beq_dec, beq_dec, Bool.and_true, Bool.eq_iff_iff, Bool.and_eq_true, decide_eq_true_eq, decide_eq_true_eq, decide_eq_true_eq, Prod.mk.injEq]
  show ((a : Int) = (c : Int) ∧ (b : Int) = (d : Int)) ↔ _
  omega
theorem shp_ports (ps : List (Nat × Nat)) : Shp 2 (dPorts ps) := shp_list (shp_map shp_port)
theorem eqv_ports (a b : List (Nat × Nat)) : PyData.eqv (dPorts a) (dPorts b) = decide (a = b) := by
  unfold dPorts
  rw [PyData.eqv, eqv_map dPort eqv_port]
theorem dp_paired {α : Type} {K : PySem.W.Frag} {H : Hp} (f : α → PyData) {F : Addr → α → Prop} (h : ∀ t x, F t x → Dp K H (.ref t) (f x)) : ∀ {ts : List Addr} {xs : List α}, Paired F ts xs → DpAll K H (ts.map V.ref) (xs.map f)
  | _, _, .nil => .nil
  | _, _, .cons r t => .cons (h _ _ r) (dp_paired f h t)
theorem dp_port {K : PySem.W.Frag} {H : Hp} {t : Addr} {p : Nat × Nat} (h : SqT K H t (portV p)) : Dp K H (.ref t) (dPort p) := .tup h (.cons (.int _) (.cons (.int _) .nil))
theorem dp_ports {K : PySem.W.Frag} {H : Hp} {a : Addr} {ts : List Addr} {ps : List (Nat × Nat)} (h : SqL K H a (ts.map V.ref)) (p : PairsAt K H ts ps) : Dp K H (.ref a) (dPorts ps) := .lst h (dp_paired dPort (fun _ _ z => dp_port z) p)
/-! ### lines -/
def dLine (l : Nat × Nat × Int) : PyData := .tuple [.int (l.1 : Int), .int (l.2.1 : Int), .int l.2.2]
def dLines (ls : List (Nat × Nat × Int)) : PyData := .list (ls.map dLine)
theorem shp_line (l : Nat × Nat × Int) : Shp 1 (dLine l) := shp_tuple fun d hd => by
  rcases List.mem_cons.mp hd with e | hd
  · rw [e]; exact shp_int _
  · rcases List.mem_cons.mp hd with e | hd
    · rw [e]; exact shp_int _
    · rw [List.mem_singleton.mp hd]; exact shp_int _
theorem eqv_line (p q : Nat × Nat × Int) : PyData.eqv (dLine p) (dLine q) = decide (p = q) := by
  obtain ⟨a, b, x⟩ := p
  obtain ⟨c, d, y⟩ := q
  unfold dLine
  rw [PyData.eqv, PyData.eqvAll, PyData.eqvAll, PyData.eqvAll, PyData.eqvAll, eqv_int, eqv_int, eqv_int, beq_dec, beq_dec, beq_dec, Bool.and_true, Bool.eq_iff_iff, Bool.and_eq_true, Bool.and_eq_true, decide_eq_true_eq, decide_eq_true_eq, decide_eq_true_eq, decide_eq_true_eq, Prod.mk.injEq, Prod.mk.injEq]
  show ((a : Int) = (c : Int) ∧ (b : Int) = (d : Int) ∧ x = y) ↔ _
  omega
theorem shp_lines (ls : List (Nat × Nat × Int)) : Shp 2 (dLines ls) := shp_list (shp_map shp_line)
theorem eqv_lines (a b : List (Nat × Nat × Int)) : PyData.eqv (dLines a) (dLines b) = decide (a = b) := by
  unfold dLines
  rw [PyData.eqv, eqv_map dLine eqv_line]
theorem dp_lines {K : PySem.W.Frag} {H : Hp} {a : Addr} {ts : List Addr} {ls : List (Nat × Nat × Int)} (h : SqL K H a (ts.map V.ref)) (p : LinesAt K H ts ls) : Dp K H (.ref a) (dLines ls) := .lst h (dp_paired dLine (fun _ _ z => .tup z (.cons (.int _) (.cons (.int _) (.cons (.int _) .nil)))) p)
end My
/-! Windows as data, math.lcm as a rule, tests in which the heap grows. No row. -/
namespace My
open PySem PySem.Spec PyProof.Rows L2
theorem or_read2 {t u : TT} {σ : L2.St} {H : Hp} {Q : Bool → Hp → Prop} {a b : Bool} (ht : ∀ Q : Bool → Hp → Prop, (∀ H1, Same H H1 → Q a H1) → t σ H Q) (hu : ∀ H1, Same H H1 → ∀ Q : Bool → Hp → Prop, (∀ H2, Same H1 H2 → Q b H2) → u σ H1 Q) (h : ∀ H1, Same H H1 → Q (a || b) H1) : tOr t u σ H Q := by
  refine ht _ fun H1 s1 => ?_
  cases a with
  | true => exact h H1 s1
  | false => exact hu H1 s1 _ fun H2 s2 => h H2 (s1.trans s2)
theorem and_read2 {t u : TT} {σ : L2.St} {H : Hp} {Q : Bool → Hp → Prop} {a b : Bool} (ht : ∀ Q : Bool → Hp → Prop, (∀ H1, Same H H1 → Q a H1) → t σ H Q) (hu : a = true → ∀ H1, Same H H1 → ∀ Q : Bool → Hp → Prop, (∀ H2, Same H1 H2 → Q b H2) → u σ H1 Q) (h : ∀ H1, Same H H1 → Q (a && b) H1) : tAnd t u σ H Q := by
  refine ht _ fun H1 s1 => ?_
  cases a with
  | true => exact hu rfl H1 s1 _ fun H2 s2 => h H2 (s1.trans s2)
  | false => exact h H1 s1
section
variable {X : Cx}
def rLcm : List V → Hp → VK → Prop := fun vs H Q => ∃ a b : Int, vs = [.int a, .int b] ∧ a.natAbs < 2 ^ 64 ∧ b.natAbs < 2 ^ 64 ∧ Q (.int ((Nat.lcm a.natAbs b.natAbs : Nat) : Int)) H
theorem cr_lcm : CallR X (.builtin "math.lcm") rLcm := by
  intro pins s σ H vs us Q I r h
  obtain ⟨a, b, rfl, ha, hb, q⟩ := h
  obtain ⟨t, u, rfl⟩ := Vals.int2 r
  exact PySem.W.mc_lcm ha hb fun _ => ⟨.int _, H, I.tok _, ⟨_, rfl⟩, q⟩
end
theorem dec_int (a b : Int) : decide (V.int a = V.int b) = decide (a = b) := by
  by_cases h : a = b
  · rw [h]; simp
  · rw [decide_eq_false h, decide_eq_false]
    intro z
    injection z with z
    exact h z
/-- offset, length, period -/
abbrev Win := Int × Int × Int
def winV (w : Win) : List V := [.int w.1, .int w.2.1, .int w.2.2]
abbrev WinsAt (K : PySem.W.Frag) (H : Hp) (ts : List Addr) (ws : List Win) : Prop := Paired (fun (t : Addr) (w : Win) => SqT K H t (winV w)) ts ws
theorem WinsAt.same {K : PySem.W.Frag} {H H' : Hp} {ts : List Addr} {ws : List Win} (h : WinsAt K H ts ws) (e : Same H H') : WinsAt K H' ts ws := Paired.imp h fun _ _ q => same_tup e q
theorem WinsAt.butL {K : PySem.W.Frag} {H H' : Hp} {p : Addr} {ys : List V} {ts : List Addr} {ws : List Win} (h : WinsAt K H ts ws) (hp : H p = some (.lst ys)) (e : But p H H') : WinsAt K H' ts ws := Paired.imp h fun _ _ q => e.tupL hp q
/-- the tick is in a stretch -/
def hasT (w : Win) (x : Int) : Bool := decide (w.1 ≤ x) && decide ((x - w.1) % w.2.2 < w.2.1)
theorem hasT_iff {w : Win} (hp : 0 < w.2.2) (x : Int) : hasT w x = true ↔ ∃ k : Nat, w.1 + k * w.2.2 ≤ x ∧ x < w.1 + k * w.2.2 + w.2.1 := by
  unfold hasT
  rw [Bool.and_eq_true, decide_eq_true_eq, decide_eq_true_eq]
  have hd := Int.emod_add_mul_ediv (x - w.1) w.2.2
  have h0 := Int.emod_nonneg (x - w.1) (show w.2.2 ≠ 0 by omega)
  have h1 := Int.emod_lt_of_pos (x - w.1) hp
  constructor
  · rintro ⟨a, b⟩
    have hk : 0 ≤ (x - w.1) / w.2.2 := Int.ediv_nonneg (by omega) (by omega)
    refine ⟨((x - w.1) / w.2.2).toNat, ?_, ?_⟩
    · rw [Int.toNat_of_nonneg hk, Int.mul_comm]; omega
    · rw [Int.toNat_of_nonneg hk, Int.mul_comm]; omega
  · rintro ⟨k, a, b⟩
    have hk : 0 ≤ (k : Int) * w.2.2 := Int.mul_nonneg (by omega) (by omega)
    refine ⟨by omega, ?_⟩
    have e : (x - w.1) % w.2.2 = (x - w.1 - k * w.2.2) % w.2.2 := by
      rw [Int.sub_mul_emod_self_right]
    rw [e]
    have e1 := Int.emod_add_mul_ediv (x - w.1 - k * w.2.2) w.2.2
    have e2 := Int.mul_nonneg (show 0 ≤ w.2.2 by omega) (Int.ediv_nonneg (show 0 ≤ x - w.1 - k * w.2.2 by omega) (show 0 ≤ w.2.2 by omega))
    omega
/-- just the first 140 stretches are looked at -/
theorem hasT_few {w : Win} (hp : 0 < w.2.2) {x : Int} (hx : x - w.1 < 140) : hasT w x = true ↔ ∃ k : Nat, k < 140 ∧ w.1 + k * w.2.2 ≤ x ∧ x < w.1 + k * w.2.2 + w.2.1 := by
  rw [hasT_iff hp]
  constructor
  · rintro ⟨k, a, b⟩
    refine ⟨k, ?_, a, b⟩
    have : (k : Int) * 1 ≤ (k : Int) * w.2.2 := Int.mul_le_mul_of_nonneg_left (by omega) (by omega)
    omega
  · rintro ⟨k, _, a, b⟩
    exact ⟨k, a, b⟩
/-! ### the common period -/
def lcmW (ws : List Win) : Nat := ws.foldl (fun a w => a.lcm w.2.2.natAbs) 1
theorem lcmW_snoc (ws : List Win) (w : Win) : lcmW (ws ++ [w]) = (lcmW ws).lcm w.2.2.natAbs := by
  unfold lcmW
  rw [List.foldl_append]
  rfl
theorem lcm_foldl_dvd {α : Type} (f : α → Nat) : ∀ (ws : List α) (a m : Nat), ws.foldl (fun a w => a.lcm (f w)) a ∣ m ↔ a ∣ m ∧ ∀ w ∈ ws, f w ∣ m
  | [], a, m => by simp
  | w :: r, a, m => by
    rw [List.foldl_cons, lcm_foldl_dvd f r, Nat.lcm_dvd_iff]
    simp [and_assoc]
theorem lcmW_dvd {ws : List Win} {m : Nat} : lcmW ws ∣ m ↔ ∀ w ∈ ws, w.2.2.natAbs ∣ m := by
  unfold lcmW
  rw [lcm_foldl_dvd]
  simp
theorem dvd_lcmW {ws : List Win} {w : Win} (h : w ∈ ws) : w.2.2.natAbs ∣ lcmW ws := lcmW_dvd.mp (Nat.dvd_refl _) w h
theorem lcmW_pos : ∀ {ws : List Win}, (∀ w ∈ ws, 0 < w.2.2) → 0 < lcmW ws := by
  intro ws
  unfold lcmW
  suffices h : ∀ (ws : List Win) (a : Nat), 0 < a → (∀ w ∈ ws, 0 < w.2.2) → 0 < ws.foldl (fun a w => a.lcm w.2.2.natAbs) a from h ws 1 (by decide)
  intro ws
  induction ws with
  | nil => intro a ha _; exact ha
  | cons w r ih =>
    intro a ha h
    have := h w List.mem_cons_self
    exact ih _ (Nat.lcm_pos ha (by omega)) fun x hx => h x (List.mem_cons_of_mem _ hx)
theorem lcm_le_mul (a b : Nat) : a.lcm b ≤ a * b := PySem.W.mc_lcm_le a b
theorem lcmW_le {m : Nat} (hm : 1 ≤ m) : ∀ {ws : List Win}, (∀ w ∈ ws, w.2.2.natAbs ≤ m) → lcmW ws ≤ m ^ ws.length := by
  intro ws
  unfold lcmW
  suffices h : ∀ (ws : List Win) (a : Nat), (∀ w ∈ ws, w.2.2.natAbs ≤ m) → ws.foldl (fun a w => a.lcm w.2.2.natAbs) a ≤ a * m ^ ws.length by
    intro hw
    have := h ws 1 hw
    omega
  intro ws
  induction ws with
  | nil => intro a _; simp
  | cons w r ih =>
    intro a h
    have h1 := ih (a.lcm w.2.2.natAbs) fun x hx => h x (List.mem_cons_of_mem _ hx)
    have h2 := lcm_le_mul a w.2.2.natAbs
    have h3 := h w List.mem_cons_self
    rw [List.foldl_cons, List.length_cons, Nat.pow_succ]
    calc _ ≤ a.lcm w.2.2.natAbs * m ^ r.length := h1
      _ ≤ (a * m) * m ^ r.length := Nat.mul_le_mul_right _ (Nat.le_trans h2 (Nat.mul_le_mul_left _ h3))
      _ = a * (m ^ r.length * m) := by rw [Nat.mul_assoc, Nat.mul_comm m]
/-- what the drawn windows are like -/
structure WG (w : Win) : Prop where
  p0 : 1 ≤ w.2.2
  p1 : w.2.2 ≤ 60
  l0 : 0 ≤ w.2.1
  l1 : w.2.1 ≤ 100
/-! ### data -/
def dWin (w : Win) : PyData := .tuple [.int w.1, .int w.2.1, .int w.2.2]
def dWins (ws : List Win) : PyData := .list (ws.map dWin)
theorem shp_win (w : Win) : Shp 1 (dWin w) := shp_tuple fun d hd => by
  rcases List.mem_cons.mp hd with e | hd
  · rw [e]; exact shp_int _
  · rcases List.mem_cons.mp hd with e | hd
    · rw [e]; exact shp_int _
    · rw [List.mem_singleton.mp hd]; exact shp_int _
theorem eqv_win (p q : Win) : PyData.eqv (dWin p) (dWin q) = decide (p = q) := by
  obtain ⟨a, b, c⟩ := p
  obtain ⟨d, e, f⟩ := q
  unfold dWin
  rw [PyData.eqv, PyData.eqvAll, PyData.eqvAll, PyData.eqvAll, PyData.eqvAll, eqv_int, eqv_int, eqv_int, beq_dec, beq_dec, beq_dec, Bool.and_true, Bool.eq_iff_iff, Bool.and_eq_true, Bool.and_eq_true, decide_eq_true_eq, decide_eq_true_eq, decide_eq_true_eq, decide_eq_true_eq, Prod.mk.injEq, Prod.mk.injEq]
theorem shp_wins (ws : List Win) : Shp 2 (dWins ws) := shp_list (shp_map shp_win)
theorem eqv_wins (a b : List Win) : PyData.eqv (dWins a) (dWins b) = decide (a = b) := by
  unfold dWins
  rw [PyData.eqv, eqv_map dWin eqv_win]
theorem dp_win {K : PySem.W.Frag} {H : Hp} {t : Addr} {w : Win} (h : SqT K H t (winV w)) : Dp K H (.ref t) (dWin w) := .tup h (.cons (.int _) (.cons (.int _) (.cons (.int _) .nil)))
theorem dp_wins {K : PySem.W.Frag} {H : Hp} {a : Addr} {ts : List Addr} {ws : List Win} (h : SqL K H a (ts.map V.ref)) (hw : WinsAt K H ts ws) : Dp K H (.ref a) (dWins ws) := .lst h (dp_paired dWin (fun _ _ q => dp_win q) hw)
theorem refs_at {ts : List Addr} {i : Nat} {x : V} (h : (ts.map V.ref)[i]? = some x) : ∃ t, ts[i]? = some t ∧ x = .ref t := by
  rw [List.getElem?_map] at h
  cases e : ts[i]? with
  | none => rw [e] at h; cases h
  | some t => rw [e] at h; exact ⟨t, rfl, (Option.some.inj h).symm⟩
theorem bls_any (bs : List Bool) : inV (.bl true) (bs.map V.bl) = bs.any id := by
  unfold inV
  rw [List.any_map]
  congr 1
  funext b
  cases b <;> rfl
theorem bls_flat (bs : List Bool) : (bs.map V.bl).all flatV = true := by
  rw [List.all_map]
  exact List.all_eq_true.mpr fun _ _ => rfl
theorem eqL_self {α : Type} [DecidableEq α] (f : α → PyData) (h : ∀ x y, PyData.eqv (f x) (f y) = decide (x = y)) (x : α) : PyData.eqv (f x) (f x) = true := by rw [h, decide_eq_true rfl]
theorem andv {ta tb : TE} {σ : L2.St} {H : Hp} {Q : V → Hp → Prop} {a b : Bool} (ha : ∀ Q : V → Hp → Prop, Q (.bl a) H → ta σ H Q) (hb : a = true → ∀ Q : V → Hp → Prop, Q (.bl b) H → tb σ H Q) (h : Q (.bl (a && b)) H) : tAndV ta tb σ H Q := by
  refine ha _ ⟨a, rfl, ?_⟩
  cases a with
  | true => exact iteT (hb rfl _ h)
  | false => exact iteF h
theorem orv {ta tb : TE} {σ : L2.St} {H : Hp} {Q : V → Hp → Prop} {a b : Bool} (ha : ∀ Q : V → Hp → Prop, Q (.bl a) H → ta σ H Q) (hb : a = false → ∀ Q : V → Hp → Prop, Q (.bl b) H → tb σ H Q) (h : Q (.bl (a || b)) H) : tOrV ta tb σ H Q := by
  refine ha _ ⟨a, rfl, ?_⟩
  cases a with
  | true => exact iteT h
  | false => exact iteF (hb rfl _ h)
end My
/-! Where two windows meet. No row. -/
namespace My
open PySem PySem.Spec PyProof.Rows L2
theorem emd {a b n : Int} (h : n ∣ a - b) : a % n = b % n := Int.emod_eq_emod_iff_emod_sub_eq_zero.mpr (Int.emod_eq_zero_of_dvd h)
theorem nat_dvd {n : Nat} {z : Int} (h : n ∣ z.natAbs) : (n : Int) ∣ z := Int.natAbs_dvd_natAbs.mp (by simpa using h)
theorem bez (a b : Nat) : ∃ x y : Int, x * a + y * b = (Nat.gcd a b : Int) := by
  induction a, b using Nat.gcd.induction with
  | H0 n => exact ⟨0, 1, by rw [Nat.gcd_zero_left]; omega⟩
  | H1 m n hm ih =>
    obtain ⟨x, y, h⟩ := ih
    refine ⟨y - x * ((n / m : Nat) : Int), x, ?_⟩
    rw [Nat.gcd_rec, ← h]
    have e : (n : Int) = ((n % m : Nat) : Int) + (m : Int) * ((n / m : Nat) : Int) := by
      have := Nat.mod_add_div n m
      exact_mod_cast this.symm
    generalize ((n / m : Nat) : Int) = q at *
    generalize ((n % m : Nat) : Int) = r at *
    rw [e]
    grind
/-- start of a stretch -/
def st (w : Win) (k : Nat) : Int := w.1 + k * w.2.2
/-- a common tick of two stretches -/
def Cm (w v : Win) (k m : Nat) : Prop := max (st w k) (st v m) < min (st w k + w.2.1) (st v m + v.2.1)
theorem cm_iff {w v : Win} {k m : Nat} (hw : 0 ≤ w.2.1) (hv : 0 ≤ v.2.1) : Cm w v k m ↔ 0 < w.2.1 ∧ 0 < v.2.1 ∧ st w k < st v m + v.2.1 ∧ st v m < st w k + w.2.1 := by
  unfold Cm
  generalize st w k = a
  generalize st v m = b
  omega
theorem cm_symm {w v : Win} {k m : Nat} : Cm w v k m ↔ Cm v w m k := by
  unfold Cm
  generalize st w k = a
  generalize st v m = b
  omega
def gcdW (w v : Win) : Int := ((Nat.gcd w.2.2.natAbs v.2.2.natAbs : Nat) : Int)
def meetB (w v : Win) : Bool := !(decide (w.2.1 = 0) || decide (v.2.1 = 0)) && (decide ((v.1 - w.1) % gcdW w v < w.2.1) || decide ((w.1 - v.1) % gcdW w v < v.2.1))
theorem reach {p1 p2 z : Int} (h1 : 0 < p1) (h2 : 0 < p2) (hz : ((Nat.gcd p1.natAbs p2.natAbs : Nat) : Int) ∣ z) : ∃ k m : Nat, (k : Int) * p1 - m * p2 = z := by
  obtain ⟨t, ht⟩ := hz
  obtain ⟨x, y, h⟩ := bez p1.natAbs p2.natAbs
  rw [← h, Int.natAbs_of_nonneg (by omega), Int.natAbs_of_nonneg (by omega)] at ht
  obtain ⟨n, hn⟩ : ∃ n : Nat, n = (x * t).natAbs + (y * t).natAbs := ⟨_, rfl⟩
  have n1 : (n : Int) * 1 ≤ n * p1 := Int.mul_le_mul_of_nonneg_left (by omega) (by omega)
  have n2 : (n : Int) * 1 ≤ n * p2 := Int.mul_le_mul_of_nonneg_left (by omega) (by omega)
  refine ⟨(x * t + n * p2).toNat, (n * p1 - y * t).toNat, ?_⟩
  rw [Int.toNat_of_nonneg (by omega), Int.toNat_of_nonneg (by omega), ht]
  grind
theorem gcd_pos {w v : Win} (hw : 0 < w.2.2) : 0 < gcdW w v := by
  unfold gcdW
  have := Nat.gcd_pos_of_pos_left v.2.2.natAbs (show 0 < w.2.2.natAbs by omega)
  omega
theorem gcd_dvd1 (w v : Win) : gcdW w v ∣ w.2.2 := by
  unfold gcdW
  exact nat_dvd (Nat.gcd_dvd_left _ _)
theorem gcd_dvd2 (w v : Win) : gcdW w v ∣ v.2.2 := by
  unfold gcdW
  exact nat_dvd (Nat.gcd_dvd_right _ _)
theorem gcd_symm (w v : Win) : gcdW w v = gcdW v w := by
  unfold gcdW
  rw [Nat.gcd_comm]
theorem emod_le {a b : Int} (hb : 0 < b) (ha : 0 ≤ a) : a % b ≤ a := by
  have e1 := Int.emod_add_mul_ediv a b
  have e2 := Int.mul_nonneg (show 0 ≤ b by omega) (Int.ediv_nonneg ha (show 0 ≤ b by omega))
  omega
theorem meet_iff {w v : Win} (lw : 0 ≤ w.2.1) (lv : 0 ≤ v.2.1) (pw : 0 < w.2.2) (pv : 0 < v.2.2) : meetB w v = true ↔ ∃ k m, Cm w v k m := by
  have g0 := gcd_pos (v := v) pw
  unfold meetB
  rw [Bool.and_eq_true, Bool.or_eq_true, Bool.not_eq_true', Bool.or_eq_false_iff, decide_eq_false_iff_not, decide_eq_false_iff_not, decide_eq_true_eq, decide_eq_true_eq]
  constructor
  · rintro ⟨⟨n1, n2⟩, h⟩
    rcases h with h | h
    · have hd := Int.emod_add_mul_ediv (v.1 - w.1) (gcdW w v)
      have h0 := Int.emod_nonneg (v.1 - w.1) (show gcdW w v ≠ 0 by omega)
      obtain ⟨k, m, e⟩ := reach pw pv (z := gcdW w v * ((v.1 - w.1) / gcdW w v)) ⟨_, rfl⟩
      refine ⟨k, m, (cm_iff lw lv).mpr ⟨by omega, by omega, ?_, ?_⟩⟩
      · unfold st; omega
      · unfold st; omega
    · have hd := Int.emod_add_mul_ediv (w.1 - v.1) (gcdW w v)
      have h0 := Int.emod_nonneg (w.1 - v.1) (show gcdW w v ≠ 0 by omega)
      obtain ⟨k, m, e⟩ := reach pv pw (z := gcdW w v * ((w.1 - v.1) / gcdW w v)) (by unfold gcdW; rw [Nat.gcd_comm]; exact ⟨_, rfl⟩)
      refine ⟨m, k, (cm_iff lw lv).mpr ⟨by omega, by omega, ?_, ?_⟩⟩
      · unfold st; omega
      · unfold st; omega
  · rintro ⟨k, m, h⟩
    obtain ⟨a1, a2, a3, a4⟩ := (cm_iff lw lv).mp h
    refine ⟨⟨by omega, by omega⟩, ?_⟩
    have d : gcdW w v ∣ (k : Int) * w.2.2 - m * v.2.2 := Int.dvd_sub (Int.dvd_trans (gcd_dvd1 w v) ⟨_, Int.mul_comm _ _⟩) (Int.dvd_trans (gcd_dvd2 w v) ⟨_, Int.mul_comm _ _⟩)
    unfold st at a3 a4
    by_cases c : v.1 + m * v.2.2 - (w.1 + k * w.2.2) ≥ 0
    · left
      have e : (v.1 - w.1) % gcdW w v = (v.1 + m * v.2.2 - (w.1 + k * w.2.2)) % gcdW w v := by
        refine emd ?_
        exact (show (v.1 - w.1) - (v.1 + m * v.2.2 - (w.1 + k * w.2.2)) = (k : Int) * w.2.2 - m * v.2.2 by omega) ▸ d
      rw [e]
      have := emod_le g0 c
      omega
    · right
      have e : (w.1 - v.1) % gcdW w v = (w.1 + k * w.2.2 - (v.1 + m * v.2.2)) % gcdW w v := by
        refine emd ?_
        exact (show (w.1 - v.1) - (w.1 + k * w.2.2 - (v.1 + m * v.2.2)) = -((k : Int) * w.2.2 - m * v.2.2) by omega) ▸ Int.dvd_neg.mpr d
      rw [e]
      have := emod_le g0 (show 0 ≤ w.1 + k * w.2.2 - (v.1 + m * v.2.2) by omega)
      omega
theorem meet_symm {w v : Win} (lw : 0 ≤ w.2.1) (lv : 0 ≤ v.2.1) (pw : 0 < w.2.2) (pv : 0 < v.2.2) : meetB v w = meetB w v := by
  rw [Bool.eq_iff_iff, meet_iff lw lv pw pv, meet_iff lv lw pv pw]
  exact ⟨fun ⟨k, m, h⟩ => ⟨m, k, cm_symm.mp h⟩, fun ⟨k, m, h⟩ => ⟨m, k, cm_symm.mp h⟩⟩
/-! ### quotients, upwards -/
def cdiv (a b : Int) : Int := -(-a / b)
theorem cdiv_le {a b x : Int} (hb : 0 < b) : cdiv a b ≤ x ↔ a ≤ x * b := by
  unfold cdiv
  have : -(-a / b) ≤ x ↔ -x ≤ -a / b := by omega
  rw [this, Int.le_ediv_iff_mul_le hb]
  have : -x * b = -(x * b) := Int.neg_mul _ _
  omega
theorem cdiv_up {a b : Int} (hb : 0 < b) : a ≤ cdiv a b * b := (cdiv_le hb).mp (Int.le_refl _)
theorem cdiv_lt {a b : Int} (hb : 0 < b) : cdiv a b * b < a + b := by
  refine Classical.byContradiction fun h => ?_
  have : cdiv a b ≤ cdiv a b - 1 := (cdiv_le hb).mpr (by
    have : (cdiv a b - 1) * b = cdiv a b * b - b := by rw [Int.sub_mul, Int.one_mul]
    omega)
  omega
/-- the number of the first stretch whose last tick is not before x -/
def nf (w : Win) (x : Int) : Int := if cdiv (x - w.1 - w.2.1 + 1) w.2.2 > 0 then cdiv (x - w.1 - w.2.1 + 1) w.2.2 else 0
theorem nf_le {w : Win} (hp : 0 < w.2.2) {x : Int} {k : Nat} : nf w x ≤ k ↔ x ≤ st w k + w.2.1 - 1 := by
  have := cdiv_le (a := x - w.1 - w.2.1 + 1) (x := (k : Int)) hp
  unfold nf st
  split <;> omega
theorem nf_nn (w : Win) (x : Int) : 0 ≤ nf w x := by
  unfold nf
  split <;> omega
/-! ### the least factor -/
def Sol (s c lo hi x : Int) : Prop := 0 ≤ x ∧ lo ≤ x * s % c ∧ x * s % c ≤ hi
def Least (s c lo hi x : Int) : Prop := Sol s c lo hi x ∧ ∀ y, Sol s c lo hi y → x ≤ y
structure LG (s c lo hi : Int) : Prop where
  s0 : 0 < s
  sc : s < c
  l0 : 1 ≤ lo
  lh : lo ≤ hi
  hc : hi < c
  ex : ∃ x, Sol s c lo hi x
theorem least_base {s c lo hi : Int} (G : LG s c lo hi) (h : cdiv lo s * s ≤ hi) : Least s c lo hi (cdiv lo s) := by
  have u := cdiv_up (a := lo) G.s0
  have h0 := G.l0
  have hc := G.hc
  have s0 := G.s0
  have x0 : 0 ≤ cdiv lo s := by
    refine Classical.byContradiction fun n => ?_
    have : cdiv lo s * s ≤ 0 * s := Int.mul_le_mul_of_nonneg_right (by omega) (by omega)
    omega
  refine ⟨⟨x0, ?_, ?_⟩, fun y ⟨y0, y1, y2⟩ => ?_⟩
  · rw [Int.emod_eq_of_lt (by omega) (by omega)]; exact u
  · rw [Int.emod_eq_of_lt (by omega) (by omega)]; exact h
  · refine (cdiv_le s0).mpr ?_
    have := emod_le (a := y * s) (b := c) (by omega) (Int.mul_nonneg y0 (by omega))
    omega
theorem red_nums {s lo hi : Int} (s0 : 0 < s) (lh : lo ≤ hi) (h : ¬ cdiv lo s * s ≤ hi) : (-lo) % s = cdiv lo s * s - lo ∧ (-hi) % s = cdiv lo s * s - hi := by
  have u := cdiv_up (a := lo) s0
  have l := cdiv_lt (a := lo) s0
  constructor
  · have e : (-lo) % s = (cdiv lo s * s - lo) % s := emd ⟨-cdiv lo s, by rw [Int.mul_neg, Int.mul_comm s]; omega⟩
    rw [e, Int.emod_eq_of_lt (by omega) (by omega)]
  · have e : (-hi) % s = (cdiv lo s * s - hi) % s := emd ⟨-cdiv lo s, by rw [Int.mul_neg, Int.mul_comm s]; omega⟩
    rw [e, Int.emod_eq_of_lt (by omega) (by omega)]
theorem mod_swap {y c s : Int} : y * (c % s) % s = (y * c) % s := by
  rw [Int.mul_emod, Int.emod_emod_of_dvd _ (Int.dvd_refl s), ← Int.mul_emod]
theorem red_sol {s c lo hi x : Int} (s0 : 0 < s) (c0 : 0 < c) (lh : lo ≤ hi) (h : ¬ cdiv lo s * s ≤ hi) (hx : Sol s c lo hi x) : Sol (c % s) s ((-hi) % s) ((-lo) % s) (x * s / c) ∧ cdiv (lo + x * s / c * c) s ≤ x := by
  obtain ⟨x0, x1, x2⟩ := hx
  obtain ⟨e1, e2⟩ := red_nums s0 lh h
  have hd := Int.emod_add_mul_ediv (x * s) c
  have hq : 0 ≤ x * s / c := Int.ediv_nonneg (Int.mul_nonneg x0 (by omega)) (by omega)
  have u := cdiv_up (a := lo) s0
  have l := cdiv_lt (a := lo) s0
  rw [Int.mul_comm c] at hd
  refine ⟨⟨hq, ?_⟩, (cdiv_le s0).mpr (by omega)⟩
  have e : (x * s / c * c) % s = (cdiv lo s * s - x * s % c) % s := by
    refine emd ⟨x - cdiv lo s, ?_⟩
    have : s * (x - cdiv lo s) = x * s - cdiv lo s * s := by rw [Int.mul_sub, Int.mul_comm s x, Int.mul_comm s]
    omega
  rw [mod_swap, e, e1, e2, Int.emod_eq_of_lt (by omega) (by omega)]
  omega
theorem least_red {s c lo hi : Int} (G : LG s c lo hi) (h : ¬ cdiv lo s * s ≤ hi) : LG (c % s) s ((-hi) % s) ((-lo) % s) ∧ ∀ y, Least (c % s) s ((-hi) % s) ((-lo) % s) y → Least s c lo hi (cdiv (lo + y * c) s) := by
  obtain ⟨s0, sc, l0, lh, hc, x, hx⟩ := G
  have c0 : 0 < c := by omega
  obtain ⟨e1, e2⟩ := red_nums s0 lh h
  have u := cdiv_up (a := lo) s0
  have l := cdiv_lt (a := lo) s0
  have r := red_sol s0 c0 lh h hx
  refine ⟨⟨?_, Int.emod_lt_of_pos _ s0, by omega, by omega, by omega, _, r.1⟩, fun y ⟨⟨y0, y1, y2⟩, yl⟩ => ?_⟩
  · have m0 := Int.emod_nonneg c (show s ≠ 0 by omega)
    rcases Int.lt_or_eq_of_le m0 with z | z
    · exact z
    · have := r.1.2.1
      rw [← z, Int.mul_zero, Int.zero_emod, e2] at this
      omega
  · rw [mod_swap, e1] at y2
    rw [mod_swap, e2] at y1
    have U := cdiv_up (a := lo + y * c) s0
    have L := cdiv_lt (a := lo + y * c) s0
    have d : (y * c) % s = (cdiv lo s * s - (cdiv (lo + y * c) s * s - y * c)) % s := by
      refine emd ⟨cdiv (lo + y * c) s - cdiv lo s, ?_⟩
      have : s * (cdiv (lo + y * c) s - cdiv lo s) = cdiv (lo + y * c) s * s - cdiv lo s * s := by rw [Int.mul_sub, Int.mul_comm s, Int.mul_comm s]
      omega
    have yc0 : 0 ≤ y * c := Int.mul_nonneg y0 (by omega)
    have val : cdiv (lo + y * c) s * s - y * c = cdiv lo s * s - (y * c) % s := by
      have k0 := Int.emod_nonneg (y * c) (show s ≠ 0 by omega)
      have k1 := Int.emod_lt_of_pos (y * c) s0
      have hd := Int.emod_add_mul_ediv (cdiv lo s * s - (cdiv (lo + y * c) s * s - y * c)) s
      rw [← d] at hd
      generalize (cdiv lo s * s - (cdiv (lo + y * c) s * s - y * c)) / s = q at hd
      have q0 : q = 0 := by
        refine Classical.byContradiction fun n => ?_
        rcases Int.lt_or_gt_of_ne n with z | z
        · have : s * q ≤ s * (-1) := Int.mul_le_mul_of_nonneg_left (by omega) (by omega)
          omega
        · have : s * 1 ≤ s * q := Int.mul_le_mul_of_nonneg_left (by omega) (by omega)
          omega
      rw [q0, Int.mul_zero] at hd
      omega
    have em : cdiv (lo + y * c) s * s % c = cdiv lo s * s - (y * c) % s := by
      have : cdiv (lo + y * c) s * s % c = (cdiv lo s * s - (y * c) % s) % c := by
        refine emd ⟨y, ?_⟩
        rw [Int.mul_comm c]
        omega
      rw [this, Int.emod_eq_of_lt (by omega) (by omega)]
    refine ⟨⟨?_, by omega, by omega⟩, fun z hz => ?_⟩
    · refine Classical.byContradiction fun n => ?_
      have : cdiv (lo + y * c) s * s ≤ 0 * s := Int.mul_le_mul_of_nonneg_right (by omega) (by omega)
      omega
    · have rz := red_sol s0 c0 lh h hz
      have le := yl _ rz.1
      have : y * c ≤ z * s / c * c := Int.mul_le_mul_of_nonneg_right le (by omega)
      have := (cdiv_le (a := lo + z * s / c * c) s0).mp rz.2
      exact (cdiv_le s0).mpr (by omega)
end My
/-! The first meeting of two windows. No row. -/
namespace My
open PySem PySem.Spec PyProof.Rows L2
/-- windows that a script draws -/
structure WP (w : Win) : Prop where
  l : 0 ≤ w.2.1
  p : 0 < w.2.2
def FM (w v : Win) : Option (Nat × Nat) → Prop
  | none => ¬ ∃ k m, Cm w v k m
  | some (k, m) => Cm w v k m ∧ (∀ k' m', Cm w v k' m' → k ≤ k') ∧ ∀ m', Cm w v k m' → m ≤ m'
theorem FM.one {w v : Win} {a b : Option (Nat × Nat)} (h : FM w v a) (h' : FM w v b) : a = b := by
  match a, b, h, h' with
  | none, none, _, _ => rfl
  | none, some (k, m), h, h' => exact absurd ⟨k, m, h'.1⟩ h
  | some (k, m), none, h, h' => exact absurd ⟨k, m, h.1⟩ h'
  | some (k, m), some (k', m'), h, h' =>
    obtain ⟨a1, a2, a3⟩ := h
    obtain ⟨b1, b2, b3⟩ := h'
    have e : k = k' := by
      have := a2 _ _ b1
      have := b2 _ _ a1
      omega
    subst e
    have := a3 _ b1
    have := b3 _ a1
    have e : m = m' := by omega
    rw [e]
theorem FM.meets {w v : Win} {o : Option (Nat × Nat)} (h : FM w v o) : (∃ k m, Cm w v k m) ↔ o ≠ none := by
  match o, h with
  | none, h => exact ⟨fun z => absurd z h, fun z => absurd rfl z⟩
  | some (k, m), h => exact ⟨fun _ z => (by cases z), fun _ => ⟨k, m, h.1⟩⟩
def rowR (w v : Win) (k : Nat) : Int := st w k + w.2.1 - 1 - v.1
theorem st_add (w : Win) (a b : Nat) : st w (a + b) = st w a + b * w.2.2 := by
  unfold st
  rw [Int.natCast_add, Int.add_mul]
  omega
theorem st_mono {w : Win} (hp : 0 < w.2.2) {a b : Nat} (h : a ≤ b) : st w a ≤ st w b := by
  unfold st
  have : (a : Int) * w.2.2 ≤ (b : Int) * w.2.2 := Int.mul_le_mul_of_nonneg_right (by omega) (by omega)
  omega
/-- the first stretch of v that is not behind -/
def mth (w v : Win) (k : Nat) : Nat := (nf v (st w k)).toNat
theorem mth_cast (w v : Win) (k : Nat) : ((mth w v k : Nat) : Int) = nf v (st w k) := Int.toNat_of_nonneg (nf_nn _ _)
theorem mth_le {w v : Win} (hw : WP w) (hv : WP v) {k m : Nat} (h : Cm w v k m) : mth w v k ≤ m := by
  obtain ⟨a1, a2, a3, a4⟩ := (cm_iff hw.l hv.l).mp h
  have := (nf_le hv.p (x := st w k) (k := m)).mpr (by omega)
  have := mth_cast w v k
  omega
theorem mth_cm {w v : Win} (hw : WP w) (hv : WP v) {k m : Nat} (h : Cm w v k m) : Cm w v k (mth w v k) := by
  have le := mth_le hw hv h
  obtain ⟨a1, a2, a3, a4⟩ := (cm_iff hw.l hv.l).mp h
  have up := (nf_le hv.p (x := st w k) (k := mth w v k)).mp (by rw [mth_cast]; exact Int.le_refl _)
  have mo := st_mono hv.p le
  exact (cm_iff hw.l hv.l).mpr ⟨a1, a2, by omega, by omega⟩
theorem row_iff {w v : Win} (hw : WP w) (hv : WP v) (l1 : 0 < w.2.1) (l2 : 0 < v.2.1) (k : Nat) : (∃ m, Cm w v k m) ↔ 0 ≤ rowR w v k ∧ rowR w v k % v.2.2 < w.2.1 + v.2.1 - 1 := by
  have pv := hv.p
  constructor
  · rintro ⟨m, h⟩
    obtain ⟨a1, a2, a3, a4⟩ := (cm_iff hw.l hv.l).mp h
    have m0 : 0 ≤ (m : Int) * v.2.2 := Int.mul_nonneg (by omega) (by omega)
    have e : rowR w v k % v.2.2 = (rowR w v k - m * v.2.2) % v.2.2 := emd ⟨m, by rw [Int.mul_comm v.2.2]; omega⟩
    have s : st v m = v.1 + m * v.2.2 := rfl
    have := emod_le (a := rowR w v k - m * v.2.2) pv (by unfold rowR; omega)
    refine ⟨by unfold rowR; omega, ?_⟩
    rw [e]
    unfold rowR at *
    omega
  · rintro ⟨h0, h1⟩
    have hd := Int.emod_add_mul_ediv (rowR w v k) v.2.2
    have hq : 0 ≤ rowR w v k / v.2.2 := Int.ediv_nonneg h0 (by omega)
    have e0 := Int.emod_nonneg (rowR w v k) (show v.2.2 ≠ 0 by omega)
    refine ⟨(rowR w v k / v.2.2).toNat, (cm_iff hw.l hv.l).mpr ⟨l1, l2, ?_, ?_⟩⟩
    · unfold st
      rw [Int.toNat_of_nonneg hq, Int.mul_comm _ v.2.2]
      unfold rowR st at *
      omega
    · unfold st
      rw [Int.toNat_of_nonneg hq, Int.mul_comm _ v.2.2]
      unfold rowR st at *
      omega
/-- the least count of steps to the first places of a circle -/
def CS (start step circle wide c : Int) : Prop := 0 ≤ c ∧ (start + c * step) % circle < wide ∧ ∀ c', 0 ≤ c' → (start + c' * step) % circle < wide → c ≤ c'
theorem cs_zero {start step circle wide : Int} (h : start % circle < wide) : CS start step circle wide 0 := ⟨Int.le_refl _, by rw [Int.zero_mul, Int.add_zero]; exact h, fun c' h _ => h⟩
theorem cs_sol {start step circle wide : Int} (c0 : 0 < circle) (hw : wide ≤ start % circle) (w1 : 1 ≤ wide) (x : Int) (x0 : 0 ≤ x) : (start + x * step) % circle < wide ↔ Sol (step % circle) circle (circle - start % circle) (circle - start % circle + wide - 1) x := by
  have p0 := Int.emod_nonneg start (show circle ≠ 0 by omega)
  have p1 := Int.emod_lt_of_pos start c0
  have q0 := Int.emod_nonneg (x * step) (show circle ≠ 0 by omega)
  have q1 := Int.emod_lt_of_pos (x * step) c0
  have e : (start + x * step) % circle = (start % circle + x * step % circle) % circle := Int.add_emod _ _ _
  have e2 : x * (step % circle) % circle = x * step % circle := mod_swap
  unfold Sol
  rw [e, e2]
  by_cases h : start % circle + x * step % circle < circle
  · rw [Int.emod_eq_of_lt (by omega) h]
    omega
  · have : (start % circle + x * step % circle) % circle = (start % circle + x * step % circle - circle) % circle := emd ⟨1, by omega⟩
    rw [this, Int.emod_eq_of_lt (by omega) (by omega)]
    omega
theorem cs_lg {start step circle wide : Int} (c0 : 0 < circle) (hw : wide ≤ start % circle) (w1 : 1 ≤ wide) (ex : ∃ c, 0 ≤ c ∧ (start + c * step) % circle < wide) : LG (step % circle) circle (circle - start % circle) (circle - start % circle + wide - 1) := by
  have p0 := Int.emod_nonneg start (show circle ≠ 0 by omega)
  have p1 := Int.emod_lt_of_pos start c0
  obtain ⟨x, x0, hx⟩ := ex
  have hs := (cs_sol c0 hw w1 x x0).mp hx
  refine ⟨?_, Int.emod_lt_of_pos _ c0, by omega, by omega, by omega, x, hs⟩
  have m0 := Int.emod_nonneg step (show circle ≠ 0 by omega)
  rcases Int.lt_or_eq_of_le m0 with z | z
  · exact z
  · have := hs.2.1
    rw [← z, Int.mul_zero, Int.zero_emod] at this
    omega
theorem cs_least {start step circle wide x : Int} (c0 : 0 < circle) (hw : wide ≤ start % circle) (w1 : 1 ≤ wide) (h : Least (step % circle) circle (circle - start % circle) (circle - start % circle + wide - 1) x) : CS start step circle wide x := by
  obtain ⟨h, l⟩ := h
  exact ⟨h.1, (cs_sol c0 hw w1 x h.1).mpr h, fun y y0 hy => l y ((cs_sol c0 hw w1 y y0).mp hy)⟩
theorem row_add (w v : Win) (a b : Nat) : rowR w v (a + b) = rowR w v a + b * w.2.2 := by
  unfold rowR
  rw [st_add]
  omega
theorem row_nn {w v : Win} (hp : 0 < w.2.2) {k : Nat} : nf w v.1 ≤ k ↔ 0 ≤ rowR w v k := by
  rw [nf_le hp]
  unfold rowR
  omega
/-- the steps to the first meeting can be counted -/
theorem fm_ex {w v : Win} (hw : WP w) (hv : WP v) (h : ∃ k m, Cm w v k m) {s : Nat} (hs : (s : Int) = nf w v.1) : ∃ c, 0 ≤ c ∧ (rowR w v s + c * w.2.2) % v.2.2 < w.2.1 + v.2.1 - 1 := by
  obtain ⟨k, m, h⟩ := h
  obtain ⟨a1, a2, _⟩ := (cm_iff hw.l hv.l).mp h
  obtain ⟨r0, r1⟩ := (row_iff hw hv a1 a2 k).mp ⟨m, h⟩
  have := (row_nn hw.p).mpr r0
  obtain ⟨c, rfl⟩ : ∃ c, k = s + c := ⟨k - s, by omega⟩
  exact ⟨c, by omega, by rw [← row_add]; exact r1⟩
theorem fm_some {w v : Win} (hw : WP w) (hv : WP v) (l1 : 0 < w.2.1) (l2 : 0 < v.2.1) {s c : Nat} (hs : (s : Int) = nf w v.1) (hc : CS (rowR w v s) w.2.2 v.2.2 (w.2.1 + v.2.1 - 1) c) : FM w v (some (s + c, mth w v (s + c))) := by
  obtain ⟨c0, c1, c2⟩ := hc
  have r0 : 0 ≤ rowR w v s := (row_nn hw.p).mp (by omega)
  have cp : 0 ≤ (c : Int) * w.2.2 := Int.mul_nonneg (by omega) (by have := hw.p; omega)
  obtain ⟨m, hm⟩ := (row_iff hw hv l1 l2 (s + c)).mpr ⟨by rw [row_add]; omega, by rw [row_add]; exact c1⟩
  refine ⟨mth_cm hw hv hm, fun k' m' h => ?_, fun m' h => mth_le hw hv h⟩
  obtain ⟨b0, b1⟩ := (row_iff hw hv l1 l2 k').mp ⟨m', h⟩
  have := (row_nn hw.p).mpr b0
  obtain ⟨d, rfl⟩ : ∃ d, k' = s + d := ⟨k' - s, by omega⟩
  rw [row_add] at b1
  have := c2 d (by omega) b1
  omega
/-- if they meet at all, then soon -/
theorem fm_soon {w v : Win} (hw : WP w) (hv : WP v) (h6 : v.2.2 ≤ 60) (h : ∃ k m, Cm w v k m) {b : Nat} (hb : (v.1 - w.1) / w.2.2 ≤ b) : ∃ k m, k < b + 70 ∧ Cm w v k m := by
  obtain ⟨k, m, h⟩ := h
  obtain ⟨a1, a2, _⟩ := (cm_iff hw.l hv.l).mp h
  obtain ⟨r0, r1⟩ := (row_iff hw hv a1 a2 k).mp ⟨m, h⟩
  have hk := (row_nn hw.p).mpr r0
  obtain ⟨s, hs⟩ : ∃ s : Nat, (s : Int) = nf w v.1 := ⟨(nf w v.1).toNat, Int.toNat_of_nonneg (nf_nn _ _)⟩
  have hsb : nf w v.1 ≤ ((b + 1 : Nat) : Int) := by
    rw [nf_le hw.p]
    have hp := hw.p
    have hd := Int.emod_add_mul_ediv (v.1 - w.1) w.2.2
    have hl := Int.emod_lt_of_pos (v.1 - w.1) hp
    have : w.2.2 * ((v.1 - w.1) / w.2.2) ≤ w.2.2 * b := Int.mul_le_mul_of_nonneg_left hb (by omega)
    unfold st
    rw [show (((b + 1 : Nat) : Int)) * w.2.2 = w.2.2 * b + w.2.2 by rw [Int.natCast_add, Int.add_mul, Int.mul_comm w.2.2]; simp]
    omega
  obtain ⟨c, rfl⟩ : ∃ c, k = s + c := ⟨k - s, by omega⟩
  have pv := hv.p
  obtain ⟨p, hp⟩ : ∃ p : Nat, v.2.2 = (p : Int) := ⟨v.2.2.toNat, (Int.toNat_of_nonneg (by omega)).symm⟩
  have e : rowR w v (s + c) % v.2.2 = rowR w v (s + c % p) % v.2.2 := by
    refine emd ⟨((c / p : Nat) : Int) * w.2.2, ?_⟩
    rw [row_add, row_add, hp]
    have : (c : Int) = ((c % p : Nat) : Int) + (p : Int) * ((c / p : Nat) : Int) := by
      have := Nat.mod_add_div c p
      exact_mod_cast this.symm
    generalize ((c / p : Nat) : Int) = q at *
    generalize ((c % p : Nat) : Int) = r at *
    rw [this]
    grind
  have lt : c % p < p := Nat.mod_lt _ (by omega)
  obtain ⟨m', hm⟩ := (row_iff hw hv a1 a2 (s + c % p)).mpr ⟨(row_nn hw.p).mp (by omega), by rw [← e]; exact r1⟩
  exact ⟨s + c % p, m', by omega, hm⟩
end My
namespace My
open PySem PySem.Spec PyProof.Rows L2
def top (i : Nat) : Stmt := PySem.Challenge.pw_metronet_k04_windows_that_meet.main.body.getD i (.Pass ⟨0, 0, 0, 0⟩)
abbrev sDraw : Stmt := top 9 /-_law_draw-/
/-- the built-in names that the module leaves -/
structure Blt (mg : Str → Option Value) : Prop where
  range : mg "range" = none
  len : mg "len" = none
  int : mg "int" = none
  list : mg "list" = none
  enum : mg "enumerate" = none
section
variable {P : Program} {w : World} {K : PySem.W.Frag} {mg : Str → Option Value} {base : Heap}
/-! ### _law_draw -/
theorem scDraw : FnScope ["cell", "many", "bound", "numbers", "k", "seed", "mixed"] ["cell", "many", "bound"] (defScope sDraw) := ⟨rfl, rfl, rfl, by decide +kernel, rfl, by decide +kernel, by decide +kernel⟩
def spDraw : Sp := fun vs H Q _ => ∃ (c b : Int) (m : Nat), vs = [.int c, .int (m : Int), .int b] ∧ m ≤ 1000 ∧ 0 < b ∧ b < 2 ^ 64 ∧
  ∀ (H' : Hp) (p : Addr) (ns : List Int), Same H H' → H p = none → H' p = some (.lst (ns.map V.int)) → ns.length = m → (∀ x ∈ ns, 0 ≤ x ∧ x < b) → Q (.ref p) H'
theorem ok_draw {f : Addr} {fd : FuncData} {k : Nat} (F : Fun K "_law_draw" "_law_draw" sDraw f fd) (T : Blt mg) : FnOk P w K mg base CX0 (k + 1) f fd ["cell", "many", "bound"] spDraw := by
  refine F.ok scDraw (fun vs H Q E h => ?_) (fun cdv A outer s H vs Q E hr h => ?_)
  · obtain ⟨c, b, m, rfl, _⟩ := h
    rfl
  · obtain ⟨c, b, m, rfl, hm, hb0, hb1, q⟩ := h
    have nd := scDraw.nd
    refine ⟨_, pss_cons (ps_set (i := 3) nd rfl (.inl rfl) (pe_lst pa_nil))
      (pss_cons (ps_if (pt_cmpR op_ge (pv 0) (pe_op op_pow pe_int pe_int) (nomark _))
        (pss_cons (ps_for PassesOwn.never rfl (pi_range1 (by rfl) T.range (pa_cons (pv 1) pa_nil)) (pg_name (i := 4) nd rfl (.inl rfl))
          (pss_cons (ps_expr (pe_bm PySem.F.plainAttrs_list PySem.F.slot_list_append PySem.F.type_list_append mt_append (pv 3)
              (pa_cons (pe_op op_mod (pe_callTy call_int1 (by rfl) T.int (by decide +kernel) (pa_cons (pv 0) pa_nil)) (pv 2)) pa_nil)))
          (pss_one (ps_set (i := 0) nd rfl (.inl rfl) (pe_op op_fdivW (pv 0) (pv 2))))))
        (pss_one (ps_ret (pv 3)))) pss_nil)
      (pss_cons (ps_set (i := 5) nd rfl (.inl rfl) (pe_op op_mod (pe_callTy call_int1 (by rfl) T.int (by decide +kernel) (pa_cons (pv 0) pa_nil)) pe_int))
      (pss_cons (ps_for PassesOwn.never rfl (pi_range1 (by rfl) T.range (pa_cons (pv 1) pa_nil)) (pg_name (i := 4) nd rfl (.inl rfl))
          (pss_cons (ps_set (i := 5) nd rfl (.inl rfl) (pe_op op_mod (pe_callTy call_int1 (by rfl) T.int (by decide +kernel)
              (pa_cons (pe_op op_add (pe_op op_add (pe_op op_mul (pv 5) pe_int) pe_int) (pv 4)) pa_nil)) pe_int))
          (pss_cons (ps_set (i := 6) nd rfl (.inl rfl) (pe_op op_mod (pe_callTy call_int1 (by rfl) T.int (by decide +kernel)
              (pa_cons (pe_op op_add (pe_op op_mul (pv 5) pe_int) (pe_op op_mul pe_int (pv 4))) pa_nil)) pe_int))
          (pss_one (ps_expr (pe_bm PySem.F.plainAttrs_list PySem.F.slot_list_append PySem.F.type_list_append mt_append (pv 3)
              (pa_cons (pe_op op_mod (pe_callTy call_int1 (by rfl) T.int (by decide +kernel) (pa_cons (pe_op op_fdiv (pv 6) pe_int) pa_nil)) (pv 2)) pa_nil)))))))
      (pss_one (ps_ret (pv 3)))))), ?_⟩
    -- numbers = []
    refine ⟨Nat.zero_le _, fun p np => ?_⟩
    have s1 : Same H (upd H p (.lst [])) := same_new np
    -- cell >= 10 ** 18
    refine ⟨_, rfl, _, _, rfl, rfl, ⟨by decide, by decide, by decide⟩, _, _, rfl, rfl, _, rfl, ite2 (fun _ => ?_) (fun _ => ?_)⟩
    · refine ⟨_, rfl, (m : Int), rfl, by omega, by omega, for_range (n := m) (fun i σ H' => ∃ (c' : Int) (ns : List Int) (v4 v5 v6 : Option V), σ = [some (.int c'), some (.int m), some (.int b), some (.ref p), v4, v5, v6] ∧
        Same H H' ∧ H' p = some (.lst (ns.map V.int)) ∧ ns.length = i ∧ ∀ x ∈ ns, 0 ≤ x ∧ x < b) ⟨c, [], none, none, none, rfl, s1, upd_same, rfl, fun x hx => by cases hx⟩ ?_ ?_⟩
      · rintro i σ H' hi ⟨c', ns, v4, v5, v6, rfl, sm, hp, hl, hx⟩
        refine ⟨_, rfl, .inl ⟨rfl, _, SqL.of hp⟩, _, rfl, .inl ⟨_, rfl, _, rfl, _, _, rfl, rfl, hb0, ?_⟩⟩
        refine ⟨p, _, _, rfl, rfl, hp, by rw [List.length_map]; exact small1000 (by omega), ?_⟩
        refine ⟨_, rfl, _, rfl, _, _, rfl, rfl, wide_div (b := 64) hb0 (by omega) (by decide) (by decide), ?_⟩
        refine ⟨c' / b, ns ++ [c' % b], _, v5, v6, rfl, same_mut sm np, ?_, by rw [List.length_append, hl]; rfl, ?_⟩
        · rw [upd_same, List.map_append]; rfl
        · intro x hm
          rcases List.mem_append.mp hm with h1 | h1
          · exact hx x h1
          · rw [List.mem_singleton.mp h1]
            exact ⟨Int.emod_nonneg _ (by omega), Int.emod_lt_of_pos _ hb0⟩
      · rintro σ H' ⟨c', ns, v4, v5, v6, rfl, sm, hp, hl, hx⟩
        exact ⟨_, rfl, q H' p ns sm np hp hl hx⟩
    · refine ⟨_, rfl, .inl ⟨_, rfl, _, _, rfl, rfl, (by show (0 : Int) < 2147483647; decide), ?_⟩⟩
      refine ⟨_, rfl, (m : Int), rfl, by omega, by omega, for_range (n := m) (fun i σ H' => ∃ (c' sd : Int) (ns : List Int) (v4 v6 : Option V), σ = [some (.int c'), some (.int m), some (.int b), some (.ref p), v4, some (.int sd), v6] ∧
        0 ≤ sd ∧ sd < 2147483647 ∧ Same H H' ∧ H' p = some (.lst (ns.map V.int)) ∧ ns.length = i ∧ ∀ x ∈ ns, 0 ≤ x ∧ x < b)
        ⟨c, c % 2147483647, [], none, none, rfl, Int.emod_nonneg _ (by decide), Int.emod_lt_of_pos _ (by decide), s1, upd_same, rfl, fun x hx => by cases hx⟩ ?_ ?_⟩
      · rintro i σ H' hi ⟨c', sd, ns, v4, v6, rfl, d0, d1, sm, hp, hl, hx⟩
        refine ⟨_, rfl, _, _, rfl, rfl, .inl ⟨by omega, by omega⟩, _, _, rfl, rfl, _, rfl, _, _, rfl, rfl, .inl ⟨_, rfl, _, _, rfl, rfl, (by show (0 : Int) < 2147483647; decide), ?_⟩⟩
        have e0 : 0 ≤ (sd * 48271 + 12345 + (0 + (i : Int))) % 2147483647 := Int.emod_nonneg _ (by decide)
        have e1 : (sd * 48271 + 12345 + (0 + (i : Int))) % 2147483647 < 2147483647 := Int.emod_lt_of_pos _ (by decide)
        refine ⟨_, rfl, _, _, rfl, rfl, .inl ⟨by omega, by omega⟩, _, rfl, _, _, rfl, rfl, .inl ⟨by decide, by decide⟩, _, _, rfl, rfl, .inl ⟨_, rfl, _, _, rfl, rfl, (by show (0 : Int) < 2147483629; decide), ?_⟩⟩
        refine ⟨_, rfl, .inl ⟨rfl, _, SqL.of hp⟩, _, rfl, _, _, rfl, rfl, ⟨by decide, by decide⟩, .inl ⟨_, rfl, _, rfl, _, _, rfl, rfl, hb0, ?_⟩⟩
        refine ⟨p, _, _, rfl, rfl, hp, by rw [List.length_map]; exact small1000 (by omega), ?_⟩
        refine ⟨c', _, ns ++ [((sd * 48271 + 12345 + (0 + (i : Int))) % 2147483647 * 69621 + 977 * (0 + (i : Int))) % 2147483629 / 3 % b], _, _, rfl, e0, e1, same_mut sm np, ?_, by rw [List.length_append, hl]; rfl, ?_⟩
        · rw [upd_same, List.map_append]; rfl
        · intro x hm
          rcases List.mem_append.mp hm with h1 | h1
          · exact hx x h1
          · rw [List.mem_singleton.mp h1]
            exact ⟨Int.emod_nonneg _ (by omega), Int.emod_lt_of_pos _ hb0⟩
      · rintro σ H' ⟨c', sd, ns, v4, v6, rfl, d0, d1, sm, hp, hl, hx⟩
        exact ⟨_, rfl, q H' p ns sm np hp hl hx⟩
/-- what a def's caller knows of it -/
structure Callee (P : Program) (w : World) (K : PySem.W.Frag) (mg : Str → Option Value) (base : Heap) (k : Nat) (x : Str) (ps : List Str) (sp : Sp) (f : Addr) (fd : FuncData) : Prop where
  ok : FnOk P w K mg base CX0 k f fd ps sp
  mg : mg x = some (.ref f)
  kp : PySem.W.keepIn K (.ref f) = true
  b : Binds K fd ps []
end
end My
namespace My
open PySem PySem.Spec PyProof.Rows L2
abbrev sMeet : Stmt := top 2 /-meet-/
abbrev sFirst : Stmt := top 3 /-first_meeting-/
abbrev sNumber : Stmt := top 4 /-number_from-/
abbrev sCount : Stmt := top 5 /-count_steps-/
abbrev sLeast : Stmt := top 6 /-least_factor-/
abbrev sRound : Stmt := top 7 /-round_up-/
/-- what the outer turns make of a factor -/
def unw (o : List Win) (x : Int) : Int := o.foldr (fun t x => cdiv (t.2.2 + x * t.2.1) t.1) x
theorem unw_snoc (o : List Win) (t : Win) (x : Int) : unw (o ++ [t]) x = unw o (cdiv (t.2.2 + x * t.2.1) t.1) := by
  unfold unw
  rw [List.foldr_append]
  rfl
section
variable {P : Program} {w : World} {K : PySem.W.Frag} {mg : Str → Option Value} {base : Heap}
theorem scRound : FnScope ["number", "divisor"] ["number", "divisor"] (defScope sRound) := ⟨rfl, rfl, rfl, by decide +kernel, rfl, by decide +kernel, by decide +kernel⟩
def spRound : Sp := fun vs H Q _ => ∃ a b : Int, vs = [.int a, .int b] ∧ 0 < b ∧ b < 1073741824 ∧ Q (.int (cdiv a b)) H
theorem ok_round {f : Addr} {fd : FuncData} {k : Nat} (F : Fun K "round_up" "round_up" sRound f fd) : FnOk P w K mg base CX0 (k + 1) f fd ["number", "divisor"] spRound := by
  refine F.ok scRound (fun vs H Q E h => ?_) (fun cdv A0 outer s0 H vs Q E hr h => ?_)
  · obtain ⟨a, b, rfl, _⟩ := h
    rfl
  · obtain ⟨a, b, rfl, b0, b1, q⟩ := h
    have nd := scRound.nd
    refine ⟨_, pss_one (ps_ret (pe_un un_neg (pe_op op_fdiv (pe_un un_neg (pv 0)) (pv 1)))), ?_⟩
    exact ⟨_, rfl, _, rfl, _, rfl, _, _, rfl, rfl, ⟨b0, b1⟩, _, rfl, q⟩
theorem scNumber : FnScope ["window", "tick", "offset", "length", "period"] ["window", "tick"] (defScope sNumber) := ⟨rfl, rfl, rfl, by decide +kernel, rfl, by decide +kernel, by decide +kernel⟩
def spNumber (K : PySem.W.Frag) : Sp := fun vs H Q _ => ∃ (t : Addr) (w : Win) (x : Int), vs = [.ref t, .int x] ∧ SqT K H t (winV w) ∧ 0 < w.2.2 ∧ w.2.2 < 1073741824 ∧ Q (.int (nf w x)) H
theorem ok_number {f fR : Addr} {fd fdR : FuncData} {k : Nat} (F : Fun K "number_from" "number_from" sNumber f fd) (hmax : mg "max" = none) (GR : Callee P w K mg base 1 "round_up" ["number", "divisor"] spRound fR fdR) : FnOk P w K mg base CX0 (k + 2) f fd ["window", "tick"] (spNumber K) := by
  refine F.ok scNumber (fun vs H Q E h => ?_) (fun cdv A0 outer s0 H vs Q E hr h => ?_)
  · obtain ⟨t, w, x, rfl, _⟩ := h
    rfl
  · obtain ⟨t, w, x, rfl, ht, p0, p1, q⟩ := h
    have nd := scNumber.nd
    have hr1 : Room 1 _ := hr.mono (by omega)
    refine ⟨_, pss_cons (ps_asg (pv 0) (pg_tup rfl (pgs_cons (pg_name (i := 2) nd rfl (.inl rfl)) (pgs_cons (pg_name (i := 3) nd rfl (.inl rfl)) (pgs_cons (pg_name (i := 4) nd rfl (.inl rfl)) pgs_nil))))) <| pss_one (ps_ret (pe_callB (call_max2 rfl) (by rfl) hmax (by decide +kernel) (pa_cons pe_int (pa_cons (pe_call GR.ok hr1 (by rfl) GR.mg GR.kp GR.b .nil pass0 (pa_cons (pe_op op_add (pe_op op_sub (pe_op op_sub (pv 1) (pv 2)) (pv 3)) pe_int) (pa_cons (pv 4) pa_nil))) pa_nil)))), ?_⟩
    refine ⟨_, rfl, t, _, rfl, ht, rfl, _, _, rfl, _, _, rfl, _, _, rfl, rfl, ?_⟩
    exact ⟨_, rfl, _, rfl, _, _, rfl, rfl, _, rfl, _, _, rfl, rfl, _, _, rfl, rfl, _, rfl, _, _, rfl, p0, p1, _, _, rfl, q⟩
theorem scLeast : FnScope ["step", "circle", "low", "high", "outer", "factor"] ["step", "circle", "low", "high"] (defScope sLeast) := ⟨rfl, rfl, rfl, by decide +kernel, rfl, by decide +kernel, by decide +kernel⟩
def spLeast : Sp := fun vs H Q _ => ∃ s c lo hi : Int, vs = [.int s, .int c, .int lo, .int hi] ∧ LG s c lo hi ∧ c < 100000 ∧ ∀ H' x, Same H H' → Least s c lo hi x → Q (.int x) H'
theorem ok_least {f fR : Addr} {fd fdR : FuncData} {k : Nat} (F : Fun K "least_factor" "least_factor" sLeast f fd) (hrev : mg "reversed" = none) (GR : Callee P w K mg base 1 "round_up" ["number", "divisor"] spRound fR fdR) : FnOk P w K mg base CX0 (k + 2) f fd ["step", "circle", "low", "high"] spLeast := by
  refine F.ok scLeast (fun vs H Q E h => ?_) (fun cdv A0 outer s0 H vs Q E hr h => ?_)
  · obtain ⟨s, c, lo, hi, rfl, _⟩ := h
    rfl
  · obtain ⟨s, c, lo, hi, rfl, hG, hc, q⟩ := h
    have nd := scLeast.nd
    have hr1 : Room 1 _ := hr.mono (by omega)
    refine ⟨_, pss_cons (ps_set (i := 4) nd rfl (.inl rfl) (pe_lst pa_nil)) <| pss_cons (ps_while PassesOwn.never (pt_cmpR op_gt (pe_op op_mul (pe_call GR.ok hr1 (by rfl) GR.mg GR.kp GR.b .nil pass0 (pa_cons (pv 2) (pa_cons (pv 0) pa_nil))) (pv 0)) (pv 3) (nomark _)) (pss_cons (ps_expr (pe_bm PySem.F.plainAttrs_list PySem.F.slot_list_append PySem.F.type_list_append mt_append (pv 4) (pa_cons (pe_tup (pa_cons (pv 0) (pa_cons (pv 1) (pa_cons (pv 2) pa_nil)))) pa_nil))) <| pss_one (ps_asg (pe_tup (pa_cons (pe_op op_mod (pv 1) (pv 0)) (pa_cons (pv 0) (pa_cons (pe_op op_mod (pe_un un_neg (pv 3)) (pv 0)) (pa_cons (pe_op op_mod (pe_un un_neg (pv 2)) (pv 0)) pa_nil))))) (pg_tup rfl (pgs_cons (pg_name (i := 0) nd rfl (.inl rfl)) (pgs_cons (pg_name (i := 1) nd rfl (.inl rfl)) (pgs_cons (pg_name (i := 2) nd rfl (.inl rfl)) (pgs_cons (pg_name (i := 3) nd rfl (.inl rfl)) pgs_nil)))))))) <| pss_cons (ps_set (i := 5) nd rfl (.inl rfl) (pe_call GR.ok hr1 (by rfl) GR.mg GR.kp GR.b .nil pass0 (pa_cons (pv 2) (pa_cons (pv 0) pa_nil)))) <| pss_cons (ps_for PassesOwn.never rfl (pi_reversed (by rfl) hrev (pa_cons (pv 4) pa_nil)) (pg_tup rfl (pgs_cons (pg_name (i := 0) nd rfl (.inl rfl)) (pgs_cons (pg_name (i := 1) nd rfl (.inl rfl)) (pgs_cons (pg_name (i := 2) nd rfl (.inl rfl)) pgs_nil)))) (pss_one (ps_set (i := 5) nd rfl (.inl rfl) (pe_call GR.ok hr1 (by rfl) GR.mg GR.kp GR.b .nil pass0 (pa_cons (pe_op op_add (pv 2) (pe_op op_mul (pv 5) (pv 1))) (pa_cons (pv 0) pa_nil)))))) <| pss_one (ps_ret (pv 5)), ?_⟩
    refine ⟨Nat.zero_le _, fun l nl => ?_⟩
    have sl := same_new (o := .lst []) nl
    refine while_by (fun σ H' => ∃ (s' c' lo' hi' : Int) (ts : List Addr) (o : List Win), σ = [some (.int s'), some (.int c'), some (.int lo'), some (.int hi'), some (.ref l), none] ∧ Same H H' ∧ H' l = some (.lst (ts.map V.ref)) ∧ WinsAt K H' ts o ∧ (∀ t ∈ o, 0 < t.1 ∧ t.1 < 100000 ∧ 0 < t.2.1 ∧ t.2.1 < 100000) ∧
      LG s' c' lo' hi' ∧ c' < 100000 ∧ (o.length : Int) + s' < 100000 ∧ ∀ x, Least s' c' lo' hi' x → Least s c lo hi (unw o x)) (fun σ _ => match σ with
        | some (.int s) :: _ => s.toNat
        | _ => 0) ⟨s, c, lo, hi, [], [], rfl, sl, upd_same, .nil, (fun t h => by cases h), hG, hc, by have := hG.sc; simp; omega, fun x h => h⟩ ?_ ?_
    · rintro σ H1 ⟨s', c', lo', hi', ts, o, rfl, sm, hl, hW, ho, G, c1, lo1, un⟩
      have gs := G.s0
      have gc := G.sc
      have ltw : ts.length = o.length := hW.length
      refine ⟨_, rfl, _, rfl, _, _, rfl, gs, by omega, _, rfl, _, _, rfl, rfl, .inr ⟨by omega, by omega⟩, _, rfl, _, _, rfl, rfl, _, rfl, ?_⟩
      refine ite2 (fun e => ?_) (fun e => ?_)
      · have e : ¬ cdiv lo' s' * s' ≤ hi' := by have := of_decide_eq_true e; omega
        obtain ⟨G2, un2⟩ := least_red G e
        refine ⟨_, rfl, .inl ⟨rfl, _, SqL.of hl⟩, _, rfl, _, rfl, _, rfl, by show 3 ≤ sizeLine; decide, fun t nt => ?_⟩
        have st := same_new (o := .tup [V.int s', V.int c', V.int lo']) nt
        have hl2 := st _ _ hl
        refine ⟨l, _, _, rfl, rfl, hl2, szl (by rw [List.length_map]; omega), ?_⟩
        have hl3 : (upd (upd H1 t (.tup [V.int s', V.int c', V.int lo'])) l (.lst (ts.map V.ref ++ [V.ref t]))) l = some (.lst ((ts ++ [t]).map V.ref)) := by
          rw [upd_same, List.map_append]
          rfl
        have hW3 : WinsAt K (upd (upd H1 t (.tup [V.int s', V.int c', V.int lo'])) l (.lst (ts.map V.ref ++ [V.ref t]))) (ts ++ [t]) (o ++ [(s', c', lo')]) := by
          refine Paired.snoc (F := fun (t : Addr) (w : Win) => SqT K _ t (winV w)) ?_ ?_
          · exact But.tupL but_self hl2 (SqT.of upd_same)
          · exact (hW.same st).butL hl2 but_self
        have S3 : Same H (upd (upd H1 t (.tup [V.int s', V.int c', V.int lo'])) l (.lst (ts.map V.ref ++ [V.ref t]))) := same_but (sm.trans st) nl but_self
        generalize (upd (upd H1 t (.tup [V.int s', V.int c', V.int lo'])) l (.lst (ts.map V.ref ++ [V.ref t]))) = H3 at hl3 hW3 S3 ⊢
        refine ⟨_, rfl, _, rfl, _, _, rfl, rfl, gs, _, rfl, _, rfl, _, rfl, _, rfl, _, _, rfl, rfl, gs, _, rfl, _, rfl, _, rfl, _, _, rfl, rfl, gs, by show 4 ≤ sizeLine; decide, fun u nu => ?_⟩
        have su := same_new (o := .tup [V.int (c' % s'), V.int s', V.int (-hi' % s'), V.int (-lo' % s')]) nu
        refine ⟨u, _, rfl, SqT.of upd_same, rfl, _, _, rfl, _, _, rfl, _, _, rfl, _, _, rfl, rfl, ?_⟩
        have m1 := Int.emod_lt_of_pos c' gs
        have m0 := G2.s0
        refine ⟨⟨c' % s', s', -hi' % s', -lo' % s', ts ++ [t], o ++ [(s', c', lo')], rfl, S3.trans su, su _ _ hl3, hW3.same su, ?_, G2, by omega, ?_, fun x hx => ?_⟩, ?_⟩
        · intro y hy
          rcases List.mem_append.mp hy with h | h
          · exact ho y h
          · rw [List.mem_singleton.mp h]
            exact ⟨gs, by show s' < 100000; omega, by show 0 < c'; omega, c1⟩
        · rw [List.length_append, List.length_singleton]
          omega
        · rw [unw_snoc]
          exact un _ (un2 x hx)
        · show (c' % s').toNat < s'.toNat
          omega
      · have e : cdiv lo' s' * s' ≤ hi' := by
          refine Classical.byContradiction fun z => e (decide_eq_true ?_)
          show hi' < cdiv lo' s' * s'
          omega
        have res := un _ (least_base G e)
        refine ⟨_, rfl, _, rfl, _, _, rfl, gs, by omega, ?_⟩
        refine ⟨_, rfl, l, _, rfl, SqL.of hl, ?_⟩
        refine for_it (walk_rev (K := K) (a := l) (xs := ts.map V.ref)) (fun i σ H' => ∃ (v0 v1 v2 : Option V) (x : Int), σ = [v0, v1, v2, some (.int hi'), some (.ref l), some (.int x)] ∧ H' = H1 ∧ unw (o.take (o.length - i)) x = unw o (cdiv lo' s')) ⟨_, _, _, _, rfl, rfl, by rw [Nat.sub_zero, List.take_length]⟩ (fun i σ H' _ ⟨_, _, _, _, _, e, _⟩ => e ▸ SqL.of hl) ?_ ?_
        · rintro i v σ H2 H2' hi ⟨v0, v1, v2, x, rfl, rfl, hx⟩ ⟨rfl, ev⟩
          obtain ⟨t, et, rfl⟩ := refs_at ev
          obtain ⟨y, ey, hT⟩ := Paired.at hW et
          rw [List.length_map] at ey hi
          obtain ⟨y0, y1, y2, y3⟩ := ho y (List.mem_of_getElem? ey)
          refine ⟨t, _, rfl, hT, rfl, _, _, rfl, _, _, rfl, _, _, rfl, rfl, ?_⟩
          refine ⟨_, rfl, _, rfl, _, rfl, _, _, rfl, rfl, .inr ⟨by omega, by omega⟩, _, _, rfl, rfl, _, rfl, _, _, rfl, y0, by omega, ?_⟩
          refine ⟨_, _, _, _, rfl, rfl, ?_⟩
          rw [← hx, show o.length - i = (ts.length - 1 - i) + 1 by omega, take_snoc ey, unw_snoc, show o.length - (i + 1) = ts.length - 1 - i by omega]
        · rintro σ H2 ⟨v0, v1, v2, x, rfl, rfl, hx⟩
          rw [List.length_map, ltw, Nat.sub_self, List.take_zero] at hx
          have hx : x = unw o (cdiv lo' s') := hx
          refine ⟨_, rfl, ?_⟩
          rw [hx]
          exact q _ _ sm res
    · intro σ H1 Q Q' m h
      obtain ⟨x1, e1, x2, e2, a, b, e3, b0, b1, x3, e4, i, j, e5, e6, c5, x4, e7, i2, j2, e8, e9, k5, e10, hq⟩ := h
      exact ⟨x1, e1, x2, e2, a, b, e3, b0, b1, x3, e4, i, j, e5, e6, c5, x4, e7, i2, j2, e8, e9, k5, e10, m _ _ hq⟩
end
end My
namespace My
open PySem PySem.Spec PyProof.Rows L2
def optP (H : Hp) : Option (Nat × Nat) → V → Prop
  | none, r => r = .non
  | some (k, m), r => ∃ t, r = .ref t ∧ H t = some (.tup [.int (k : Int), .int (m : Int)])
section
variable {P : Program} {w : World} {K : PySem.W.Frag} {mg : Str → Option Value} {base : Heap}
theorem scCount : FnScope ["start", "step", "circle", "wide", "place"] ["start", "step", "circle", "wide"] (defScope sCount) := ⟨rfl, rfl, rfl, by decide +kernel, rfl, by decide +kernel, by decide +kernel⟩
def spCount : Sp := fun vs H Q _ => ∃ s p c w : Int, vs = [.int s, .int p, .int c, .int w] ∧ 0 < c ∧ c < 100000 ∧ 1 ≤ w ∧ (∃ x, 0 ≤ x ∧ (s + x * p) % c < w) ∧ ∀ H' x, Same H H' → CS s p c w x → Q (.int x) H'
theorem ok_count {f fL : Addr} {fd fdL : FuncData} {k : Nat} (F : Fun K "count_steps" "count_steps" sCount f fd) (GL : Callee P w K mg base 2 "least_factor" ["step", "circle", "low", "high"] spLeast fL fdL) : FnOk P w K mg base CX0 (k + 3) f fd ["start", "step", "circle", "wide"] spCount := by
  refine F.ok scCount (fun vs H Q E h => ?_) (fun cdv A0 outer s0 H vs Q E hr h => ?_)
  · obtain ⟨s, p, c, w, rfl, _⟩ := h
    rfl
  · obtain ⟨s, p, c, w, rfl, c0, c1, w1, ex, q⟩ := h
    have nd := scCount.nd
    have hr2 : Room 2 _ := hr.mono (by omega)
    refine ⟨_, pss_cons (ps_set (i := 4) nd rfl (.inl rfl) (pe_op op_mod (pv 0) (pv 2))) <| pss_cons (ps_if (pt_cmpR op_lt (pv 4) (pv 3) (nomark _)) (pss_one (ps_ret pe_int)) (pss_nil)) <| pss_one (ps_ret (pe_call GL.ok hr2 (by rfl) GL.mg GL.kp GL.b .nil pass0 (pa_cons (pe_op op_mod (pv 1) (pv 2)) (pa_cons (pv 2) (pa_cons (pe_op op_sub (pv 2) (pv 4)) (pa_cons (pe_op op_sub (pe_op op_add (pe_op op_sub (pv 2) (pv 4)) (pv 3)) pe_int) pa_nil)))))), ?_⟩
    refine ⟨_, rfl, _, rfl, _, _, rfl, rfl, c0, ?_⟩
    refine ⟨_, rfl, _, rfl, _, _, rfl, rfl, _, rfl, ?_⟩
    refine ite2 (fun e => ?_) (fun e => ?_)
    · exact q _ _ (Same.refl _) (cs_zero (of_decide_eq_true e))
    · have hw : w ≤ s % c := by
        refine Classical.byContradiction fun z => e (decide_eq_true ?_)
        omega
      refine ⟨_, rfl, _, rfl, _, _, rfl, rfl, c0, _, rfl, _, rfl, _, rfl, _, _, rfl, rfl, _, rfl, _, rfl, _, _, rfl, rfl, _, rfl, _, _, rfl, rfl, _, _, rfl, rfl, ?_⟩
      exact ⟨_, _, _, _, rfl, cs_lg c0 hw w1 ex, c1, fun H' x sm hx => q H' x sm (cs_least c0 hw w1 hx)⟩
/-! ### meet -/
theorem scMeet : FnScope ["first", "second", "first_offset", "first_length", "first_period", "second_offset", "second_length", "second_period", "shared", "behind_first", "behind_second"] ["first", "second"] (defScope sMeet) := ⟨rfl, rfl, rfl, by decide +kernel, rfl, by decide +kernel, by decide +kernel⟩
def spMeet (K : PySem.W.Frag) : Sp := fun vs H Q _ => ∃ (t u : Addr) (w v : Win), vs = [.ref t, .ref u] ∧ SqT K H t (winV w) ∧ SqT K H u (winV v) ∧ WP w ∧ WP v ∧ Q (.bl (meetB w v)) H
theorem ok_meet {f : Addr} {fd : FuncData} {k : Nat} (F : Fun K "meet" "meet" sMeet f fd) (hgcd : mg "gcd" = some (.builtin "math.gcd")) : FnOk P w K mg base CX0 (k + 1) f fd ["first", "second"] (spMeet K) := by
  refine F.ok scMeet (fun vs H Q E h => ?_) (fun cdv A0 outer s0 H vs Q E hr h => ?_)
  · obtain ⟨t, u, w, v, rfl, _⟩ := h
    rfl
  · obtain ⟨t, u, w, v, rfl, ht, hu, hw, hv, q⟩ := h
    have nd := scMeet.nd
    have g0 := gcd_pos (v := v) hw.p
    refine ⟨_, pss_cons (ps_asg (pv 0) (pg_tup rfl (pgs_cons (pg_name (i := 2) nd rfl (.inl rfl)) (pgs_cons (pg_name (i := 3) nd rfl (.inl rfl)) (pgs_cons (pg_name (i := 4) nd rfl (.inl rfl)) pgs_nil))))) <| pss_cons (ps_asg (pv 1) (pg_tup rfl (pgs_cons (pg_name (i := 5) nd rfl (.inl rfl)) (pgs_cons (pg_name (i := 6) nd rfl (.inl rfl)) (pgs_cons (pg_name (i := 7) nd rfl (.inl rfl)) pgs_nil))))) <| pss_cons (ps_if (PW.pt (pw_or (pt_cmpR op_eq (pv 3) pe_int (nomark _)) (pw_or1 (pt_cmpR op_eq (pv 6) pe_int (nomark _))))) (pss_one (ps_ret pe_bl)) (pss_nil)) <| pss_cons (ps_set (i := 8) nd rfl (.inl rfl) (pe_callBfun cr_gcd (by rfl) hgcd (pa_cons (pv 4) (pa_cons (pv 7) pa_nil)))) <| pss_cons (ps_set (i := 9) nd rfl (.inl rfl) (pe_op op_mod (pe_op op_sub (pv 5) (pv 2)) (pv 8))) <| pss_cons (ps_set (i := 10) nd rfl (.inl rfl) (pe_op op_mod (pe_op op_sub (pv 2) (pv 5)) (pv 8))) <| pss_one (ps_ret (pe_or (pe_cmpR op_lt (pv 9) (pv 3) (nomark _)) (pe_one (pe_cmpR op_lt (pv 10) (pv 6) (nomark _))))), ?_⟩
    refine ⟨_, rfl, t, _, rfl, ht, rfl, _, _, rfl, _, _, rfl, _, _, rfl, rfl, ?_⟩
    refine ⟨_, rfl, u, _, rfl, hu, rfl, _, _, rfl, _, _, rfl, _, _, rfl, rfl, ?_⟩
    dsimp only [gName, gTup, gCons, gNil, tSeq, tIfS]
    refine or_read (a := decide (w.2.1 = 0)) (b := decide (v.2.1 = 0)) (fun Q h => ?_) (fun Q h => ?_) ?_
    · refine ⟨_, rfl, rfl, _, rfl, ?_⟩
      rw [dec_int]
      exact h
    · refine ⟨_, rfl, rfl, _, rfl, ?_⟩
      rw [dec_int]
      exact h
    refine ite2 (fun e => ?_) (fun e => ?_)
    · have : meetB w v = false := by unfold meetB; rw [e]; rfl
      rw [this] at q
      exact q
    · refine ⟨_, rfl, _, rfl, _, _, rfl, ?_⟩
      refine ⟨_, rfl, _, rfl, _, _, rfl, rfl, _, rfl, _, _, rfl, rfl, g0, ?_⟩
      refine ⟨_, rfl, _, rfl, _, _, rfl, rfl, _, rfl, _, _, rfl, rfl, g0, ?_⟩
      have eq : meetB w v = (decide ((v.1 - w.1) % gcdW w v < w.2.1) || decide ((w.1 - v.1) % gcdW w v < v.2.1)) := by
        unfold meetB
        rw [Bool.eq_false_iff.mpr e]
        rfl
      rw [eq] at q
      dsimp only [gName, tRet]
      refine orv (a := decide ((v.1 - w.1) % gcdW w v < w.2.1)) (b := decide ((w.1 - v.1) % gcdW w v < v.2.1)) (fun Q h => ?_) (fun _ Q h => ?_) q
      · exact ⟨_, rfl, _, rfl, _, _, rfl, rfl, h⟩
      · exact ⟨_, rfl, _, rfl, _, _, rfl, rfl, h⟩
/-! ### first_meeting -/
theorem scFirst : FnScope ["first", "second", "offset", "length", "period", "other_offset", "other_length", "other_period", "start", "last_tick", "wide", "number"] ["first", "second"] (defScope sFirst) := ⟨rfl, rfl, rfl, by decide +kernel, rfl, by decide +kernel, by decide +kernel⟩
def spFirst (K : PySem.W.Frag) : Sp := fun vs H Q _ => ∃ (t u : Addr) (w v : Win), vs = [.ref t, .ref u] ∧ SqT K H t (winV w) ∧ SqT K H u (winV v) ∧ WP w ∧ WP v ∧ w.2.2 < 100000 ∧ v.2.2 < 100000 ∧ ∀ H' o r, Same H H' → FM w v o → optP H' o r → Q r H'
theorem ok_first {f fM fN fC : Addr} {fd fdM fdN fdC : FuncData} {k : Nat} (F : Fun K "first_meeting" "first_meeting" sFirst f fd) (GM : Callee P w K mg base 1 "meet" ["first", "second"] (spMeet K) fM fdM)
    (GN : Callee P w K mg base 2 "number_from" ["window", "tick"] (spNumber K) fN fdN) (GC : Callee P w K mg base 3 "count_steps" ["start", "step", "circle", "wide"] spCount fC fdC) : FnOk P w K mg base CX0 (k + 4) f fd ["first", "second"] (spFirst K) := by
  refine F.ok scFirst (fun vs H Q E h => ?_) (fun cdv A0 outer s0 H vs Q E hr h => ?_)
  · obtain ⟨t, u, w, v, rfl, _⟩ := h
    rfl
  · obtain ⟨t, u, w, v, rfl, ht, hu, hw, hv, pw, pv', q⟩ := h
    have nd := scFirst.nd
    have hr1 : Room 1 _ := hr.mono (by omega)
    have hr2 : Room 2 _ := hr.mono (by omega)
    have hr3 : Room 3 _ := hr.mono (by omega)
    have w0 := hw.p
    have v0 := hv.p
    have mi := meet_iff hw.l hv.l w0 v0
    refine ⟨_, pss_cons (ps_if (pt_not (pt_val (pe_call GM.ok hr1 (by rfl) GM.mg GM.kp GM.b .nil pass0 (pa_cons (pv 0) (pa_cons (pv 1) pa_nil))))) (pss_one (ps_ret pe_non)) (pss_nil)) <| pss_cons (ps_asg (pv 0) (pg_tup rfl (pgs_cons (pg_name (i := 2) nd rfl (.inl rfl)) (pgs_cons (pg_name (i := 3) nd rfl (.inl rfl)) (pgs_cons (pg_name (i := 4) nd rfl (.inl rfl)) pgs_nil))))) <| pss_cons (ps_asg (pv 1) (pg_tup rfl (pgs_cons (pg_name (i := 5) nd rfl (.inl rfl)) (pgs_cons (pg_name (i := 6) nd rfl (.inl rfl)) (pgs_cons (pg_name (i := 7) nd rfl (.inl rfl)) pgs_nil))))) <| pss_cons (ps_set (i := 8) nd rfl (.inl rfl) (pe_call GN.ok hr2 (by rfl) GN.mg GN.kp GN.b .nil pass0 (pa_cons (pv 0) (pa_cons (pv 5) pa_nil)))) <| pss_cons (ps_set (i := 9) nd rfl (.inl rfl) (pe_op op_sub (pe_op op_add (pe_op op_add (pv 2) (pe_op op_mul (pv 8) (pv 4))) (pv 3)) pe_int)) <| pss_cons (ps_set (i := 10) nd rfl (.inl rfl) (pe_op op_sub (pe_op op_add (pv 3) (pv 6)) pe_int)) <| pss_cons (ps_set (i := 11) nd rfl (.inl rfl) (pe_op op_add (pv 8) (pe_call GC.ok hr3 (by rfl) GC.mg GC.kp GC.b .nil pass0 (pa_cons (pe_op op_sub (pv 9) (pv 5)) (pa_cons (pv 4) (pa_cons (pv 7) (pa_cons (pv 10) pa_nil))))))) <| pss_one (ps_ret (pe_tup (pa_cons (pv 11) (pa_cons (pe_call GN.ok hr2 (by rfl) GN.mg GN.kp GN.b .nil pass0 (pa_cons (pv 1) (pa_cons (pe_op op_add (pv 2) (pe_op op_mul (pv 11) (pv 4))) pa_nil))) pa_nil)))), ?_⟩
    refine ⟨_, rfl, _, rfl, t, u, w, v, rfl, ht, hu, hw, hv, _, rfl, ?_⟩
    refine ite2 (fun e => ?_) (fun e => ?_)
    · refine q H none .non (Same.refl H) (fun z => ?_) rfl
      rw [mi.mpr z] at e
      cases e
    · have mt : ∃ k m, Cm w v k m := mi.mp (by
        cases z : meetB w v with
        | true => rfl
        | false => rw [z] at e; exact absurd rfl e)
      obtain ⟨k1, m1, h1⟩ := id mt
      obtain ⟨l1, l2, _⟩ := (cm_iff hw.l hv.l).mp h1
      obtain ⟨s, es⟩ : ∃ s : Nat, (s : Int) = nf w v.1 := ⟨(nf w v.1).toNat, Int.toNat_of_nonneg (nf_nn _ _)⟩
      have ex := fm_ex hw hv mt es
      refine ⟨_, rfl, t, _, rfl, ht, rfl, _, _, rfl, _, _, rfl, _, _, rfl, rfl, ?_⟩
      refine ⟨_, rfl, u, _, rfl, hu, rfl, _, _, rfl, _, _, rfl, _, _, rfl, rfl, ?_⟩
      refine ⟨_, rfl, _, rfl, t, w, v.1, rfl, ht, w0, by omega, ?_⟩
      rw [← es]
      refine ⟨_, rfl, _, rfl, _, rfl, _, _, rfl, rfl, .inr ⟨by omega, by omega⟩, _, _, rfl, rfl, _, rfl, _, _, rfl, rfl, _, _, rfl, rfl, ?_⟩
      refine ⟨_, rfl, _, rfl, _, _, rfl, rfl, _, _, rfl, rfl, ?_⟩
      refine ⟨_, rfl, _, rfl, _, rfl, _, _, rfl, rfl, _, rfl, _, rfl, _, rfl, _, _, _, _, rfl, v0, pv', by omega, ex, fun H' x sm hx => ?_⟩
      have x0 := hx.1
      obtain ⟨c, rfl⟩ : ∃ c : Nat, x = (c : Int) := ⟨x.toNat, (Int.toNat_of_nonneg x0).symm⟩
      have fm := fm_some hw hv l1 l2 es hx
      refine ⟨_, _, rfl, rfl, ?_⟩
      refine ⟨_, rfl, _, rfl, _, rfl, _, rfl, _, rfl, _, _, rfl, rfl, .inr ⟨by omega, by omega⟩, _, _, rfl, rfl, u, v, _, rfl, same_tup sm hu, v0, by omega, by show 2 ≤ sizeLine; decide, fun y ny => ?_⟩
      refine q _ (some (s + c, mth w v (s + c))) (.ref y) (sm.trans (same_new ny)) fm ⟨y, rfl, ?_⟩
      rw [upd_same, mth_cast]
      rfl
end
end My
namespace My
open PySem PySem.Spec PyProof.Rows L2
abbrev sIsInt : Stmt := top 10 /-_law_is_integer-/
theorem cut_map {xs : List Int} (lo hi : Option Int) : ∃ ms : List Int, cutV (xs.map V.int) lo hi = ms.map V.int := by
  refine ⟨(xs.drop (HT.sIx (xs.map V.int).length 0 lo)).take (HT.sIx (xs.map V.int).length (xs.map V.int).length hi - HT.sIx (xs.map V.int).length 0 lo), ?_⟩
  unfold cutV
  rw [List.map_take, List.map_drop]
theorem cut_few {xs : List V} {lo hi : Nat} : (cutV xs (some (lo : Int)) (some (hi : Int))).length ≤ hi - lo := by
  unfold cutV
  rw [HT.sIx_nat, HT.sIx_nat, List.length_take]
  omega
section
variable {P : Program} {w : World} {K : PySem.W.Frag} {mg : Str → Option Value} {base : Heap}
theorem scIsInt : FnScope ["actual"] ["actual"] (defScope sIsInt) := ⟨rfl, rfl, rfl, by decide +kernel, rfl, by decide +kernel, by decide +kernel⟩
def spIsInt : Sp := fun vs H Q _ => ∃ x : Int, vs = [.int x] ∧ Q (.bl true) H
theorem ok_isint {f : Addr} {fd : FuncData} {k : Nat} (F : Fun K "_law_is_integer" "_law_is_integer" sIsInt f fd) (hisi : mg "isinstance" = none) (hint : mg "int" = none) (hbool : mg "bool" = none) : FnOk P w K mg base CX0 (k + 1) f fd ["actual"] spIsInt := by
  refine F.ok scIsInt (fun vs H Q E h => ?_) (fun cdv A0 outer s0 H vs Q E hr h => ?_)
  · obtain ⟨x, rfl, _⟩ := h
    rfl
  · obtain ⟨x, rfl, q⟩ := h
    have nd := scIsInt.nd
    refine ⟨_, pss_one (ps_ret (pe_and (pe_callB call_isi (by rfl) hisi PyProof.Rows.boot_isinstance (pa_cons (pv 0) (pa_cons (pe_bltn (v := .ty "int") (by rfl) hint PyProof.Rows.boot_int rfl) pa_nil))) (pe_one (pe_not (pe_callB call_isi (by rfl) hisi PyProof.Rows.boot_isinstance (pa_cons (pv 0) (pa_cons (pe_bltn (v := .ty "bool") (by rfl) hbool PyProof.Rows.boot_bool rfl) pa_nil))))))), ?_⟩
    dsimp only [tRet]
    refine andv (a := true) (b := true) (fun Q h => ?_) (fun _ Q h => ?_) q
    · exact ⟨_, rfl, .int x, .ty "int", .type "int", .type "int", true, rfl, .ty "int", .base (.int x), kit_ty (by decide +kernel), h⟩
    · exact ⟨_, rfl, .int x, .ty "bool", .type "int", .type "bool", false, rfl, .ty "bool", .base (.int x), kit_ty (by decide +kernel), _, rfl, h⟩
end
end My
namespace My
open PySem PySem.Spec PyProof.Rows L2
abbrev sWindow : Stmt := top 11 /-_law_window-/
abbrev sCommon : Stmt := top 12 /-_law_common-/
abbrev sPartner : Stmt := top 13 /-_law_partner-/
abbrev sDue : Stmt := top 14 /-_law_due-/
structure WB (w : Win) : Prop where
  g : WG w
  o0 : -1000 ≤ w.1
  o1 : w.1 ≤ 1000
theorem WB.wp {w : Win} (h : WB w) : WP w := ⟨h.g.l0, by have := h.g.p0; omega⟩
def PT' (w v : Win) (k : Nat) : Option Nat → Prop
  | none => ∀ m, ¬ Cm w v k m
  | some m => Cm w v k m ∧ ∀ m', Cm w v k m' → m ≤ m'
def optN : Option Nat → V
  | none => .non
  | some m => .int (m : Int)
section
variable {P : Program} {w : World} {K : PySem.W.Frag} {mg : Str → Option Value} {base : Heap}
theorem scWindow : FnScope ["cell", "numbers", "period", "length", "offset"] ["cell"] (defScope sWindow) := ⟨rfl, rfl, rfl, by decide +kernel, rfl, by decide +kernel, by decide +kernel⟩
def spWindow : Sp := fun vs H Q _ => ∃ c : Int, vs = [.int c] ∧ ∀ (H' : Hp) (t : Addr) (w : Win), Same H H' → H' t = some (.tup (winV w)) → WB w → Q (.ref t) H'
theorem ok_window {f fD : Addr} {fd fdD : FuncData} {k : Nat} (F : Fun K "_law_window" "_law_window" sWindow f fd) (T : Blt mg) (GD : Callee P w K mg base 1 "_law_draw" ["cell", "many", "bound"] spDraw fD fdD) : FnOk P w K mg base CX0 (k + 2) f fd ["cell"] spWindow := by
  refine F.ok scWindow (fun vs H Q E h => ?_) (fun cdv A0 outer s0 H vs Q E hr h => ?_)
  · obtain ⟨c, rfl, _⟩ := h
    rfl
  · obtain ⟨c, rfl, q⟩ := h
    have nd := scWindow.nd
    have hr1 : Room 1 _ := hr.mono (by omega)
    refine ⟨_, pss_cons (ps_set (i := 1) nd rfl (.inl rfl) (pe_call GD.ok hr1 (by rfl) GD.mg GD.kp GD.b .nil pass0 (pa_cons (pv 0) (pa_cons pe_int (pa_cons (pe_op op_shl pe_int pe_int) pa_nil))))) <| pss_cons (ps_set (i := 2) nd rfl (.inl rfl) (pe_op op_add pe_int (pe_op op_mod (pe_ix ix_list (pv 1) pe_int (fun _ _ => rfl)) pe_int))) <| pss_cons (ps_if (pt_cmpR op_eq (pe_op op_mod (pe_op op_fdiv (pe_ix ix_list (pv 1) pe_int (fun _ _ => rfl)) pe_int) pe_int) pe_int (nomark _)) (pss_one (ps_set (i := 2) nd rfl (.inl rfl) (pe_op op_add pe_int (pe_op op_mod (pe_op op_fdiv (pe_ix ix_list (pv 1) pe_int (fun _ _ => rfl)) pe_int) pe_int)))) (pss_nil)) <| pss_cons (ps_set (i := 3) nd rfl (.inl rfl) (pe_op op_mod (pe_ix ix_list (pv 1) pe_int (fun _ _ => rfl)) (pe_op op_add (pv 2) pe_int))) <| pss_cons (ps_if (pt_cmpR op_gt (pe_op op_mod (pe_op op_fdiv (pe_ix ix_list (pv 1) pe_int (fun _ _ => rfl)) pe_int) pe_int) pe_int (nomark _)) (pss_one (ps_set (i := 3) nd rfl (.inl rfl) (pe_op op_add pe_int (pe_op op_mod (pe_ix ix_list (pv 1) pe_int (fun _ _ => rfl)) pe_int)))) (pss_nil)) <| pss_cons (ps_set (i := 4) nd rfl (.inl rfl) (pe_op op_sub (pe_op op_mod (pe_ix ix_list (pv 1) pe_int (fun _ _ => rfl)) pe_int) pe_int)) <| pss_cons (ps_if (pt_cmpR op_eq (pe_op op_mod (pe_ix ix_list (pv 1) pe_int (fun _ _ => rfl)) pe_int) pe_int (nomark _)) (pss_one (ps_set (i := 4) nd rfl (.inl rfl) (pe_op op_sub (pe_op op_mod (pe_ix ix_list (pv 1) pe_int (fun _ _ => rfl)) pe_int) pe_int))) (pss_nil)) <| pss_one (ps_ret (pe_tup (pa_cons (pv 4) (pa_cons (pv 3) (pa_cons (pv 2) pa_nil))))), ?_⟩
    refine ⟨_, rfl, _, _, rfl, rfl, ⟨by decide, by decide, by decide⟩, c, _, 4, rfl, by decide, by decide, by decide, fun H1 pn ns s1 npn hn ln bn => ?_⟩
    have bd : ∀ j, j < 4 → 0 ≤ ns.getD j 0 ∧ ns.getD j 0 < 1048576 := fun j hj => bn _ (getD_mem (by omega))
    have z0 : 0 ≤ ns.getD 1 0 % 3 := Int.emod_nonneg _ (by decide)
    have z1 : ns.getD 1 0 % 3 < 3 := Int.emod_lt_of_pos _ (by decide)
    refine ⟨_, rfl, pn, _, _, _, rfl, rfl, SqL.of hn, atI_ints (j := 0) rfl (by omega), _, _, rfl, rfl, (by show (0 : Int) < 12; decide), _, _, rfl, rfl, ?_⟩
    refine ⟨_, rfl, pn, _, _, _, rfl, rfl, SqL.of hn, atI_ints (j := 0) rfl (by omega), _, _, rfl, rfl, ⟨by decide, by decide⟩, _, _, rfl, rfl, (by show (0 : Int) < 4; decide), rfl, _, rfl, ?_⟩
    refine ite2 (fun e => ?_) (fun e => ?_)
    · refine ⟨_, rfl, pn, _, _, _, rfl, rfl, SqL.of hn, atI_ints (j := 0) rfl (by omega), _, _, rfl, rfl, ⟨by decide, by decide⟩, _, _, rfl, rfl, (by show (0 : Int) < 60; decide), _, _, rfl, rfl, ?_⟩
      have x0 : 0 ≤ ns.getD 0 0 / 48 % 60 := Int.emod_nonneg _ (by decide)
      have x1 : ns.getD 0 0 / 48 % 60 < 60 := Int.emod_lt_of_pos _ (by decide)
      have pp0 : 1 ≤ 1 + ns.getD 0 0 / 48 % 60 := by omega
      have pp1 : 1 + ns.getD 0 0 / 48 % 60 ≤ 60 := by omega
      dsimp only at *
      generalize 1 + ns.getD 0 0 / 48 % 60 = pr at *
      have l0 : 0 ≤ ns.getD 1 0 % (pr + 3) := Int.emod_nonneg _ (by omega)
      have l1' : ns.getD 1 0 % (pr + 3) < pr + 3 := Int.emod_lt_of_pos _ (by omega)
      have l1 : ns.getD 1 0 % (pr + 3) ≤ 100 := by omega
      refine ⟨_, rfl, pn, _, _, _, rfl, rfl, SqL.of hn, atI_ints (j := 1) rfl (by omega), _, rfl, _, _, rfl, rfl, _, _, rfl, rfl, (by omega), ?_⟩
      refine ⟨_, rfl, pn, _, _, _, rfl, rfl, SqL.of hn, atI_ints (j := 1) rfl (by omega), _, _, rfl, rfl, ⟨by decide, by decide⟩, _, _, rfl, rfl, (by show (0 : Int) < 4; decide), _, _, rfl, rfl, _, rfl, ?_⟩
      refine ite2 (fun e => ?_) (fun e => ?_)
      · refine ⟨_, rfl, pn, _, _, _, rfl, rfl, SqL.of hn, atI_ints (j := 1) rfl (by omega), _, _, rfl, rfl, (by show (0 : Int) < 3; decide), _, _, rfl, rfl, ?_⟩
        have l0 : 0 ≤ 1 + ns.getD 1 0 % 3 := by omega
        have l1 : 1 + ns.getD 1 0 % 3 ≤ 100 := by omega
        refine ⟨_, rfl, pn, _, _, _, rfl, rfl, SqL.of hn, atI_ints (j := 2) rfl (by omega), _, _, rfl, rfl, (by show (0 : Int) < 40; decide), _, _, rfl, rfl, ?_⟩
        refine ⟨_, rfl, pn, _, _, _, rfl, rfl, SqL.of hn, atI_ints (j := 3) rfl (by omega), _, _, rfl, rfl, (by show (0 : Int) < 12; decide), rfl, _, rfl, ?_⟩
        refine ite2 (fun _ => ?_) (fun _ => ?_)
        · refine ⟨_, rfl, pn, _, _, _, rfl, rfl, SqL.of hn, atI_ints (j := 2) rfl (by omega), _, _, rfl, rfl, (by show (0 : Int) < 1000; decide), _, _, rfl, rfl, ?_⟩
          have o0 : 0 ≤ ns.getD 2 0 % 1000 := Int.emod_nonneg _ (by decide)
          have o1 : ns.getD 2 0 % 1000 < 1000 := Int.emod_lt_of_pos _ (by decide)
          exact ⟨_, rfl, _, rfl, _, rfl, by show 3 ≤ sizeLine; decide, fun t nt => q _ t (_, _, _) (s1.trans (same_new nt)) upd_same ⟨⟨pp0, pp1, l0, l1⟩, by show -1000 ≤ ns.getD 2 0 % 1000 - 300; omega, by show ns.getD 2 0 % 1000 - 300 ≤ 1000; omega⟩⟩
        · have o0 : 0 ≤ ns.getD 2 0 % 40 := Int.emod_nonneg _ (by decide)
          have o1 : ns.getD 2 0 % 40 < 40 := Int.emod_lt_of_pos _ (by decide)
          exact ⟨_, rfl, _, rfl, _, rfl, by show 3 ≤ sizeLine; decide, fun t nt => q _ t (_, _, _) (s1.trans (same_new nt)) upd_same ⟨⟨pp0, pp1, l0, l1⟩, by show -1000 ≤ ns.getD 2 0 % 40 - 8; omega, by show ns.getD 2 0 % 40 - 8 ≤ 1000; omega⟩⟩
      · refine ⟨_, rfl, pn, _, _, _, rfl, rfl, SqL.of hn, atI_ints (j := 2) rfl (by omega), _, _, rfl, rfl, (by show (0 : Int) < 40; decide), _, _, rfl, rfl, ?_⟩
        refine ⟨_, rfl, pn, _, _, _, rfl, rfl, SqL.of hn, atI_ints (j := 3) rfl (by omega), _, _, rfl, rfl, (by show (0 : Int) < 12; decide), rfl, _, rfl, ?_⟩
        refine ite2 (fun _ => ?_) (fun _ => ?_)
        · refine ⟨_, rfl, pn, _, _, _, rfl, rfl, SqL.of hn, atI_ints (j := 2) rfl (by omega), _, _, rfl, rfl, (by show (0 : Int) < 1000; decide), _, _, rfl, rfl, ?_⟩
          have o0 : 0 ≤ ns.getD 2 0 % 1000 := Int.emod_nonneg _ (by decide)
          have o1 : ns.getD 2 0 % 1000 < 1000 := Int.emod_lt_of_pos _ (by decide)
          exact ⟨_, rfl, _, rfl, _, rfl, by show 3 ≤ sizeLine; decide, fun t nt => q _ t (_, _, _) (s1.trans (same_new nt)) upd_same ⟨⟨pp0, pp1, l0, l1⟩, by show -1000 ≤ ns.getD 2 0 % 1000 - 300; omega, by show ns.getD 2 0 % 1000 - 300 ≤ 1000; omega⟩⟩
        · have o0 : 0 ≤ ns.getD 2 0 % 40 := Int.emod_nonneg _ (by decide)
          have o1 : ns.getD 2 0 % 40 < 40 := Int.emod_lt_of_pos _ (by decide)
          exact ⟨_, rfl, _, rfl, _, rfl, by show 3 ≤ sizeLine; decide, fun t nt => q _ t (_, _, _) (s1.trans (same_new nt)) upd_same ⟨⟨pp0, pp1, l0, l1⟩, by show -1000 ≤ ns.getD 2 0 % 40 - 8; omega, by show ns.getD 2 0 % 40 - 8 ≤ 1000; omega⟩⟩
    · have x0 : 0 ≤ ns.getD 0 0 % 12 := Int.emod_nonneg _ (by decide)
      have x1 : ns.getD 0 0 % 12 < 12 := Int.emod_lt_of_pos _ (by decide)
      have pp0 : 1 ≤ 1 + ns.getD 0 0 % 12 := by omega
      have pp1 : 1 + ns.getD 0 0 % 12 ≤ 60 := by omega
      dsimp only at *
      generalize 1 + ns.getD 0 0 % 12 = pr at *
      have l0 : 0 ≤ ns.getD 1 0 % (pr + 3) := Int.emod_nonneg _ (by omega)
      have l1' : ns.getD 1 0 % (pr + 3) < pr + 3 := Int.emod_lt_of_pos _ (by omega)
      have l1 : ns.getD 1 0 % (pr + 3) ≤ 100 := by omega
      refine ⟨_, rfl, pn, _, _, _, rfl, rfl, SqL.of hn, atI_ints (j := 1) rfl (by omega), _, rfl, _, _, rfl, rfl, _, _, rfl, rfl, (by omega), ?_⟩
      refine ⟨_, rfl, pn, _, _, _, rfl, rfl, SqL.of hn, atI_ints (j := 1) rfl (by omega), _, _, rfl, rfl, ⟨by decide, by decide⟩, _, _, rfl, rfl, (by show (0 : Int) < 4; decide), _, _, rfl, rfl, _, rfl, ?_⟩
      refine ite2 (fun e => ?_) (fun e => ?_)
      · refine ⟨_, rfl, pn, _, _, _, rfl, rfl, SqL.of hn, atI_ints (j := 1) rfl (by omega), _, _, rfl, rfl, (by show (0 : Int) < 3; decide), _, _, rfl, rfl, ?_⟩
        have l0 : 0 ≤ 1 + ns.getD 1 0 % 3 := by omega
        have l1 : 1 + ns.getD 1 0 % 3 ≤ 100 := by omega
        refine ⟨_, rfl, pn, _, _, _, rfl, rfl, SqL.of hn, atI_ints (j := 2) rfl (by omega), _, _, rfl, rfl, (by show (0 : Int) < 40; decide), _, _, rfl, rfl, ?_⟩
        refine ⟨_, rfl, pn, _, _, _, rfl, rfl, SqL.of hn, atI_ints (j := 3) rfl (by omega), _, _, rfl, rfl, (by show (0 : Int) < 12; decide), rfl, _, rfl, ?_⟩
        refine ite2 (fun _ => ?_) (fun _ => ?_)
        · refine ⟨_, rfl, pn, _, _, _, rfl, rfl, SqL.of hn, atI_ints (j := 2) rfl (by omega), _, _, rfl, rfl, (by show (0 : Int) < 1000; decide), _, _, rfl, rfl, ?_⟩
          have o0 : 0 ≤ ns.getD 2 0 % 1000 := Int.emod_nonneg _ (by decide)
          have o1 : ns.getD 2 0 % 1000 < 1000 := Int.emod_lt_of_pos _ (by decide)
          exact ⟨_, rfl, _, rfl, _, rfl, by show 3 ≤ sizeLine; decide, fun t nt => q _ t (_, _, _) (s1.trans (same_new nt)) upd_same ⟨⟨pp0, pp1, l0, l1⟩, by show -1000 ≤ ns.getD 2 0 % 1000 - 300; omega, by show ns.getD 2 0 % 1000 - 300 ≤ 1000; omega⟩⟩
        · have o0 : 0 ≤ ns.getD 2 0 % 40 := Int.emod_nonneg _ (by decide)
          have o1 : ns.getD 2 0 % 40 < 40 := Int.emod_lt_of_pos _ (by decide)
          exact ⟨_, rfl, _, rfl, _, rfl, by show 3 ≤ sizeLine; decide, fun t nt => q _ t (_, _, _) (s1.trans (same_new nt)) upd_same ⟨⟨pp0, pp1, l0, l1⟩, by show -1000 ≤ ns.getD 2 0 % 40 - 8; omega, by show ns.getD 2 0 % 40 - 8 ≤ 1000; omega⟩⟩
      · refine ⟨_, rfl, pn, _, _, _, rfl, rfl, SqL.of hn, atI_ints (j := 2) rfl (by omega), _, _, rfl, rfl, (by show (0 : Int) < 40; decide), _, _, rfl, rfl, ?_⟩
        refine ⟨_, rfl, pn, _, _, _, rfl, rfl, SqL.of hn, atI_ints (j := 3) rfl (by omega), _, _, rfl, rfl, (by show (0 : Int) < 12; decide), rfl, _, rfl, ?_⟩
        refine ite2 (fun _ => ?_) (fun _ => ?_)
        · refine ⟨_, rfl, pn, _, _, _, rfl, rfl, SqL.of hn, atI_ints (j := 2) rfl (by omega), _, _, rfl, rfl, (by show (0 : Int) < 1000; decide), _, _, rfl, rfl, ?_⟩
          have o0 : 0 ≤ ns.getD 2 0 % 1000 := Int.emod_nonneg _ (by decide)
          have o1 : ns.getD 2 0 % 1000 < 1000 := Int.emod_lt_of_pos _ (by decide)
          exact ⟨_, rfl, _, rfl, _, rfl, by show 3 ≤ sizeLine; decide, fun t nt => q _ t (_, _, _) (s1.trans (same_new nt)) upd_same ⟨⟨pp0, pp1, l0, l1⟩, by show -1000 ≤ ns.getD 2 0 % 1000 - 300; omega, by show ns.getD 2 0 % 1000 - 300 ≤ 1000; omega⟩⟩
        · have o0 : 0 ≤ ns.getD 2 0 % 40 := Int.emod_nonneg _ (by decide)
          have o1 : ns.getD 2 0 % 40 < 40 := Int.emod_lt_of_pos _ (by decide)
          exact ⟨_, rfl, _, rfl, _, rfl, by show 3 ≤ sizeLine; decide, fun t nt => q _ t (_, _, _) (s1.trans (same_new nt)) upd_same ⟨⟨pp0, pp1, l0, l1⟩, by show -1000 ≤ ns.getD 2 0 % 40 - 8; omega, by show ns.getD 2 0 % 40 - 8 ≤ 1000; omega⟩⟩
end
end My
namespace My
open PySem PySem.Spec PyProof.Rows L2
section
variable {P : Program} {w : World} {K : PySem.W.Frag} {mg : Str → Option Value} {base : Heap}
theorem scCommon : FnScope ["first", "second", "k", "m", "start", "stop"] ["first", "second", "k", "m"] (defScope sCommon) := ⟨rfl, rfl, rfl, by decide +kernel, rfl, by decide +kernel, by decide +kernel⟩
def spCommon (K : PySem.W.Frag) : Sp := fun vs H Q _ => ∃ (t u : Addr) (w v : Win) (k m : Nat), vs = [.ref t, .ref u, .int (k : Int), .int (m : Int)] ∧ SqT K H t (winV w) ∧ SqT K H u (winV v) ∧ WB w ∧ WB v ∧ ∀ b : Bool, (b = true ↔ Cm w v k m) → Q (.bl b) H
theorem ok_common {f : Addr} {fd : FuncData} {k : Nat} (F : Fun K "_law_common" "_law_common" sCommon f fd) (hmax : mg "max" = none) (hmin : mg "min" = none) : FnOk P w K mg base CX0 (k + 1) f fd ["first", "second", "k", "m"] (spCommon K) := by
  refine F.ok scCommon (fun vs H Q E h => ?_) (fun cdv A0 outer s0 H vs Q E hr h => ?_)
  · obtain ⟨t, u, w, v, k, m, rfl, _⟩ := h
    rfl
  · obtain ⟨t, u, w, v, k, m, rfl, ht, hu, hw, hv, q⟩ := h
    have nd := scCommon.nd
    have w1 := hw.g.p0
    have w2 := hw.g.p1
    have v1 := hv.g.p0
    have v2 := hv.g.p1
    refine ⟨_, pss_cons (ps_set (i := 4) nd rfl (.inl rfl) (pe_callB (call_max2 rfl) (by rfl) hmax (by decide +kernel) (pa_cons (pe_op op_add (pe_ix ix_tup (pv 0) pe_int (fun _ _ => rfl)) (pe_op op_mul (pv 2) (pe_ix ix_tup (pv 0) pe_int (fun _ _ => rfl)))) (pa_cons (pe_op op_add (pe_ix ix_tup (pv 1) pe_int (fun _ _ => rfl)) (pe_op op_mul (pv 3) (pe_ix ix_tup (pv 1) pe_int (fun _ _ => rfl)))) pa_nil)))) <| pss_cons (ps_set (i := 5) nd rfl (.inl rfl) (pe_callB (call_min2 rfl) (by rfl) hmin (by decide +kernel) (pa_cons (pe_op op_add (pe_op op_add (pe_ix ix_tup (pv 0) pe_int (fun _ _ => rfl)) (pe_op op_mul (pv 2) (pe_ix ix_tup (pv 0) pe_int (fun _ _ => rfl)))) (pe_ix ix_tup (pv 0) pe_int (fun _ _ => rfl))) (pa_cons (pe_op op_add (pe_op op_add (pe_ix ix_tup (pv 1) pe_int (fun _ _ => rfl)) (pe_op op_mul (pv 3) (pe_ix ix_tup (pv 1) pe_int (fun _ _ => rfl)))) (pe_ix ix_tup (pv 1) pe_int (fun _ _ => rfl))) pa_nil)))) <| pss_one (ps_ret (pe_cmpR op_lt (pv 4) (pv 5) (nomark _))), ?_⟩
    refine ⟨_, rfl, t, _, _, _, rfl, rfl, ht, rfl, _, rfl, _, rfl, t, _, _, _, rfl, rfl, ht, rfl, _, _, rfl, rfl, .inr ⟨by omega, by omega⟩, _, _, rfl, rfl, ?_⟩
    refine ⟨_, rfl, u, _, _, _, rfl, rfl, hu, rfl, _, rfl, _, rfl, u, _, _, _, rfl, rfl, hu, rfl, _, _, rfl, rfl, .inr ⟨by omega, by omega⟩, _, _, rfl, rfl, _, _, rfl, ?_⟩
    refine ⟨_, rfl, t, _, _, _, rfl, rfl, ht, rfl, _, rfl, _, rfl, t, _, _, _, rfl, rfl, ht, rfl, _, _, rfl, rfl, .inr ⟨by omega, by omega⟩, _, _, rfl, rfl, _, rfl, t, _, _, _, rfl, rfl, ht, rfl, _, _, rfl, rfl, ?_⟩
    refine ⟨_, rfl, u, _, _, _, rfl, rfl, hu, rfl, _, rfl, _, rfl, u, _, _, _, rfl, rfl, hu, rfl, _, _, rfl, rfl, .inr ⟨by omega, by omega⟩, _, _, rfl, rfl, _, rfl, u, _, _, _, rfl, rfl, hu, rfl, _, _, rfl, rfl, _, _, rfl, ?_⟩
    refine ⟨_, rfl, _, rfl, _, _, rfl, rfl, ?_⟩
    refine q _ ?_
    rw [decide_eq_true_eq]
    unfold Cm st
    generalize w.1 + (k : Int) * w.2.2 = a
    generalize v.1 + (m : Int) * v.2.2 = b
    by_cases c1 : b > a
    · rw [if_pos c1]
      by_cases c2 : b + v.2.1 < a + w.2.1
      · rw [if_pos c2]; omega
      · rw [if_neg c2]; omega
    · rw [if_neg c1]
      by_cases c2 : b + v.2.1 < a + w.2.1
      · rw [if_pos c2]; omega
      · rw [if_neg c2]; omega
/-! ### _law_partner -/
theorem scPartner : FnScope ["first", "second", "k", "start", "low", "m"] ["first", "second", "k"] (defScope sPartner) := ⟨rfl, rfl, rfl, by decide +kernel, rfl, by decide +kernel, by decide +kernel⟩
def spPartner (K : PySem.W.Frag) : Sp := fun vs H Q _ => ∃ (t u : Addr) (w v : Win) (k : Nat), vs = [.ref t, .ref u, .int (k : Int)] ∧ SqT K H t (winV w) ∧ SqT K H u (winV v) ∧ WB w ∧ WB v ∧ k ≤ 100000 ∧ ∀ o, PT' w v k o → Q (optN o) H
theorem low_mth {w v : Win} (hv : WP v) {k : Nat} {low : Nat} (h : (low : Int) = if (st w k - v.1 - v.2.1) / v.2.2 > 0 then (st w k - v.1 - v.2.1) / v.2.2 else 0) : low ≤ mth w v k ∧ mth w v k ≤ low + 1 := by
  have hp := hv.p
  have hd := Int.emod_add_mul_ediv (st w k - v.1 - v.2.1) v.2.2
  have h0 := Int.emod_nonneg (st w k - v.1 - v.2.1) (show v.2.2 ≠ 0 by omega)
  have h1 := Int.emod_lt_of_pos (st w k - v.1 - v.2.1) hp
  have mc := mth_cast w v k
  generalize (st w k - v.1 - v.2.1) / v.2.2 = q at *
  generalize (st w k - v.1 - v.2.1) % v.2.2 = r at *
  constructor
  · refine Classical.byContradiction fun z => ?_
    have q0 : q > 0 := by
      refine Classical.byContradiction fun y => ?_
      rw [if_neg y] at h
      omega
    rw [if_pos q0] at h
    obtain ⟨j, hj⟩ : ∃ j : Nat, low = j + 1 := ⟨low - 1, by omega⟩
    have := (nf_le hp (x := st w k) (k := j)).mp (by omega)
    have e : q = (j : Int) + 1 := by omega
    rw [e, Int.mul_add, Int.mul_one, Int.mul_comm] at hd
    unfold st at this hd
    omega
  · have : nf v (st w k) ≤ ((low + 1 : Nat) : Int) := by
      rw [nf_le hp]
      have ql : q ≤ low := by
        rw [h]
        split <;> omega
      have : v.2.2 * q ≤ v.2.2 * low := Int.mul_le_mul_of_nonneg_left ql (by omega)
      show st w k ≤ v.1 + ((low + 1 : Nat) : Int) * v.2.2 + v.2.1 - 1
      rw [show ((low + 1 : Nat) : Int) * v.2.2 = v.2.2 * low + v.2.2 by rw [Int.natCast_add, Int.add_mul, Int.mul_comm v.2.2]; simp]
      omega
    omega
theorem ok_partner {f fC : Addr} {fd fdC : FuncData} {k : Nat} (F : Fun K "_law_partner" "_law_partner" sPartner f fd) (T : Blt mg) (hmax : mg "max" = none) (GC : Callee P w K mg base 1 "_law_common" ["first", "second", "k", "m"] (spCommon K) fC fdC) : FnOk P w K mg base CX0 (k + 2) f fd ["first", "second", "k"] (spPartner K) := by
  refine F.ok scPartner (fun vs H Q E h => ?_) (fun cdv A0 outer s0 H vs Q E hr h => ?_)
  · obtain ⟨t, u, w, v, k, rfl, _⟩ := h
    rfl
  · obtain ⟨t, u, w, v, k, rfl, ht, hu, hw, hv, hk, q⟩ := h
    have nd := scPartner.nd
    have hr1 : Room 1 _ := hr.mono (by omega)
    have w1 := hw.g.p0
    have w2 := hw.g.p1
    have v1 := hv.g.p0
    have v2 := hv.g.p1
    have w3 := hw.o0
    have w4 := hw.o1
    have v3 := hv.o0
    have v4 := hv.o1
    have v5 := hv.g.l0
    have hw' := hw.wp
    have hv' := hv.wp
    refine ⟨_, pss_cons (ps_if (PW.pt (pw_or (pt_cmpR op_eq (pe_ix ix_tup (pv 0) pe_int (fun _ _ => rfl)) pe_int (nomark _)) (pw_or1 (pt_cmpR op_eq (pe_ix ix_tup (pv 1) pe_int (fun _ _ => rfl)) pe_int (nomark _))))) (pss_one (ps_ret pe_non)) (pss_nil)) <| pss_cons (ps_set (i := 3) nd rfl (.inl rfl) (pe_op op_add (pe_ix ix_tup (pv 0) pe_int (fun _ _ => rfl)) (pe_op op_mul (pv 2) (pe_ix ix_tup (pv 0) pe_int (fun _ _ => rfl))))) <| pss_cons (ps_set (i := 4) nd rfl (.inl rfl) (pe_callB (call_max2 rfl) (by rfl) hmax (by decide +kernel) (pa_cons pe_int (pa_cons (pe_op op_fdiv (pe_op op_sub (pe_op op_sub (pv 3) (pe_ix ix_tup (pv 1) pe_int (fun _ _ => rfl))) (pe_ix ix_tup (pv 1) pe_int (fun _ _ => rfl))) (pe_ix ix_tup (pv 1) pe_int (fun _ _ => rfl))) pa_nil)))) <| pss_cons (ps_for PassesOwn.never rfl (pi_range2 (by rfl) T.range (pa_cons (pv 4) (pa_cons (pe_op op_add (pv 4) pe_int) pa_nil))) (pg_name (i := 5) nd rfl (.inl rfl)) (pss_one (ps_if (pt_val (pe_call GC.ok hr1 (by rfl) GC.mg GC.kp GC.b .nil pass0 (pa_cons (pv 0) (pa_cons (pv 1) (pa_cons (pv 2) (pa_cons (pv 5) pa_nil)))))) (pss_one (ps_ret (pv 5))) (pss_nil)))) <| pss_one (ps_ret pe_non), ?_⟩
    dsimp only [gName, tSeq, tIfS]
    refine or_read (a := decide (w.2.1 = 0)) (b := decide (v.2.1 = 0)) (fun Q h => ?_) (fun Q h => ?_) ?_
    · refine ⟨_, rfl, t, _, _, _, rfl, rfl, ht, rfl, rfl, _, rfl, ?_⟩
      rw [dec_int]
      exact h
    · refine ⟨_, rfl, u, _, _, _, rfl, rfl, hu, rfl, rfl, _, rfl, ?_⟩
      rw [dec_int]
      exact h
    refine ite2 (fun e => ?_) (fun e => ?_)
    · refine q none (fun m h => ?_)
      obtain ⟨l1, l2, _⟩ := (cm_iff hw'.l hv'.l).mp h
      rw [Bool.or_eq_true, decide_eq_true_eq, decide_eq_true_eq] at e
      omega
    · refine ⟨_, rfl, t, _, _, _, rfl, rfl, ht, rfl, _, rfl, _, rfl, t, _, _, _, rfl, rfl, ht, rfl, _, _, rfl, rfl, .inr ⟨by omega, by omega⟩, _, _, rfl, rfl, ?_⟩
      refine ⟨_, rfl, _, rfl, u, _, _, _, rfl, rfl, hu, rfl, _, _, rfl, rfl, _, rfl, u, _, _, _, rfl, rfl, hu, rfl, _, _, rfl, rfl, _, rfl, u, _, _, _, rfl, rfl, hu, rfl, _, _, rfl, rfl, ⟨by omega, by omega⟩, _, _, rfl, ?_⟩
      have kp : (k : Int) * w.2.2 ≤ 100000 * 60 := Int.mul_le_mul (by omega) w2 (by omega) (by omega)
      obtain ⟨low, hl⟩ : ∃ low : Nat, (low : Int) = if (st w k - v.1 - v.2.1) / v.2.2 > 0 then (st w k - v.1 - v.2.1) / v.2.2 else 0 := by
        refine ⟨(if (st w k - v.1 - v.2.1) / v.2.2 > 0 then (st w k - v.1 - v.2.1) / v.2.2 else 0).toNat, Int.toNat_of_nonneg ?_⟩
        split <;> omega
      have lb : (low : Int) < 10000000 := by
        rw [hl]
        by_cases c : (st w k - v.1 - v.2.1) / v.2.2 > 0
        · rw [if_pos c]
          have hd := Int.emod_add_mul_ediv (st w k - v.1 - v.2.1) v.2.2
          have h0 := Int.emod_nonneg (st w k - v.1 - v.2.1) (show v.2.2 ≠ 0 by omega)
          have : 1 * ((st w k - v.1 - v.2.1) / v.2.2) ≤ v.2.2 * ((st w k - v.1 - v.2.1) / v.2.2) := Int.mul_le_mul_of_nonneg_right v1 (by omega)
          unfold st at *
          omega
        · rw [if_neg c]; decide
      obtain ⟨lm, ml⟩ := low_mth hv' hl
      have hl2 : (low : Int) = if (w.1 + (k : Int) * w.2.2 - v.1 - v.2.1) / v.2.2 > 0 then (w.1 + (k : Int) * w.2.2 - v.1 - v.2.1) / v.2.2 else 0 := hl
      rw [← hl2]
      refine ⟨_, rfl, _, rfl, _, _, rfl, rfl, (low : Int), (low : Int) + 3, rfl, ⟨by omega, by omega, by omega, by omega⟩, ?_⟩
      rw [show ((low : Int) + 3 - low).toNat = 3 by omega]
      refine for_range (lo := (low : Int)) (n := 3) (fun i σ H' => ∃ v5 : Option V, σ = [some (.ref t), some (.ref u), some (.int (k : Int)), some (.int (w.1 + k * w.2.2)), some (.int (low : Int)), v5] ∧ H' = H ∧ ∀ m, m < low + i → ¬ Cm w v k m) ⟨none, rfl, rfl, fun m hm z => by have := mth_le hw' hv' z; omega⟩ ?_ ?_
      · rintro i σ H' hi ⟨v5, rfl, rfl, hn⟩
        rw [show (low : Int) + (i : Int) = ((low + i : Nat) : Int) by omega]
        refine ⟨_, rfl, _, rfl, _, rfl, _, rfl, t, u, w, v, k, low + i, rfl, ht, hu, hw, hv, fun b hb => ⟨_, rfl, ?_⟩⟩
        refine ite2 (fun e => ?_) (fun e => ?_)
        · refine ⟨_, rfl, q (some (low + i)) ⟨hb.mp e, fun m' h => ?_⟩⟩
          refine Classical.byContradiction fun z => hn m' (by omega) h
        · refine ⟨_, rfl, rfl, fun m hm z => ?_⟩
          by_cases c : m = low + i
          · subst c
            exact e (hb.mpr z)
          · exact hn m (by omega) z
      · rintro σ H' ⟨v5, rfl, rfl, hn⟩
        refine q none fun m h => ?_
        have := mth_cm hw' hv' h
        exact hn _ (by omega) this
/-! ### _law_due -/
theorem scDue : FnScope ["first", "second", "begin", "k", "m"] ["first", "second"] (defScope sDue) := ⟨rfl, rfl, rfl, by decide +kernel, rfl, by decide +kernel, by decide +kernel⟩
def spDue (K : PySem.W.Frag) : Sp := fun vs H Q _ => ∃ (t u : Addr) (w v : Win), vs = [.ref t, .ref u] ∧ SqT K H t (winV w) ∧ SqT K H u (winV v) ∧ WB w ∧ WB v ∧ ∀ H' o r, Same H H' → FM w v o → optP H' o r → Q r H'
theorem ok_due {f fP : Addr} {fd fdP : FuncData} {k : Nat} (F : Fun K "_law_due" "_law_due" sDue f fd) (T : Blt mg) (hmax : mg "max" = none) (GP : Callee P w K mg base 2 "_law_partner" ["first", "second", "k"] (spPartner K) fP fdP) : FnOk P w K mg base CX0 (k + 3) f fd ["first", "second"] (spDue K) := by
  refine F.ok scDue (fun vs H Q E h => ?_) (fun cdv A0 outer s0 H vs Q E hr h => ?_)
  · obtain ⟨t, u, w, v, rfl, _⟩ := h
    rfl
  · obtain ⟨t, u, w, v, rfl, ht, hu, hw, hv, q⟩ := h
    have nd := scDue.nd
    have hr2 : Room 2 _ := hr.mono (by omega)
    have w1 := hw.g.p0
    have w2 := hw.g.p1
    have v1 := hv.g.p0
    have v2 := hv.g.p1
    have w3 := hw.o0
    have w4 := hw.o1
    have v3 := hv.o0
    have v4 := hv.o1
    have hw' := hw.wp
    have hv' := hv.wp
    refine ⟨_, pss_cons (ps_set (i := 2) nd rfl (.inl rfl) (pe_callB (call_max2 rfl) (by rfl) hmax (by decide +kernel) (pa_cons pe_int (pa_cons (pe_op op_fdiv (pe_op op_sub (pe_ix ix_tup (pv 1) pe_int (fun _ _ => rfl)) (pe_ix ix_tup (pv 0) pe_int (fun _ _ => rfl))) (pe_ix ix_tup (pv 0) pe_int (fun _ _ => rfl))) pa_nil)))) <| pss_cons (ps_for PassesOwn.never rfl (pi_range1 (by rfl) T.range (pa_cons (pe_op op_add (pv 2) pe_int) pa_nil)) (pg_name (i := 3) nd rfl (.inl rfl)) (pss_cons (ps_set (i := 4) nd rfl (.inl rfl) (pe_call GP.ok hr2 (by rfl) GP.mg GP.kp GP.b .nil pass0 (pa_cons (pv 0) (pa_cons (pv 1) (pa_cons (pv 3) pa_nil))))) <| pss_one (ps_if (pt_cmpR op_notN (pv 4) pe_non (nomark _)) (pss_one (ps_ret (pe_tup (pa_cons (pv 3) (pa_cons (pv 4) pa_nil))))) (pss_nil)))) <| pss_one (ps_ret pe_non), ?_⟩
    refine ⟨_, rfl, u, _, _, _, rfl, rfl, hu, rfl, _, rfl, t, _, _, _, rfl, rfl, ht, rfl, _, _, rfl, rfl, _, rfl, t, _, _, _, rfl, rfl, ht, rfl, _, _, rfl, rfl, ⟨by omega, by omega⟩, _, _, rfl, ?_⟩
    obtain ⟨b, hb⟩ : ∃ b : Nat, (b : Int) = if (v.1 - w.1) / w.2.2 > 0 then (v.1 - w.1) / w.2.2 else 0 := by
      refine ⟨(if (v.1 - w.1) / w.2.2 > 0 then (v.1 - w.1) / w.2.2 else 0).toNat, Int.toNat_of_nonneg ?_⟩
      split <;> omega
    have bb : (b : Int) < 10000 ∧ (v.1 - w.1) / w.2.2 ≤ b := by
      rw [hb]
      by_cases c : (v.1 - w.1) / w.2.2 > 0
      · rw [if_pos c]
        have hd := Int.emod_add_mul_ediv (v.1 - w.1) w.2.2
        have h0 := Int.emod_nonneg (v.1 - w.1) (show w.2.2 ≠ 0 by omega)
        have : 1 * ((v.1 - w.1) / w.2.2) ≤ w.2.2 * ((v.1 - w.1) / w.2.2) := Int.mul_le_mul_of_nonneg_right w1 (by omega)
        omega
      · rw [if_neg c]; omega
    rw [← hb]
    refine ⟨_, rfl, _, _, rfl, rfl, (b : Int) + 70, rfl, by omega, by omega, ?_⟩
    rw [show ((b : Int) + 70).toNat = b + 70 by omega]
    refine for_range (lo := 0) (n := b + 70) (fun i σ H' => ∃ v3 v4 : Option V, σ = [some (.ref t), some (.ref u), some (.int (b : Int)), v3, v4] ∧ H' = H ∧ ∀ k, k < i → ∀ m, ¬ Cm w v k m) ⟨none, none, rfl, rfl, fun k hk => by omega⟩ ?_ ?_
    · rintro i σ H' hi ⟨v3, v4, rfl, rfl, hn⟩
      rw [Int.zero_add]
      refine ⟨_, rfl, _, rfl, _, rfl, t, u, w, v, i, rfl, ht, hu, hw, hv, by omega, fun o ho => ?_⟩
      match o, ho with
      | none, ho =>
        refine ⟨_, rfl, rfl, _, rfl, ?_⟩
        refine ite2 (fun e => by cases e) (fun _ => ⟨_, _, rfl, rfl, fun k hk m => ?_⟩)
        by_cases c : k = i
        · subst c
          exact ho m
        · exact hn k (by omega) m
      | some m, ho =>
        refine ⟨_, rfl, rfl, _, rfl, ?_⟩
        refine ite2 (fun _ => ?_) (fun e => absurd rfl e)
        refine ⟨_, rfl, _, rfl, by show 2 ≤ sizeLine; decide, fun y ny => ?_⟩
        exact q _ (some (i, m)) (.ref y) (same_new ny) ⟨ho.1, fun k' m' h => Classical.byContradiction fun z => hn k' (by omega) m' h, ho.2⟩ ⟨y, rfl, upd_same⟩
    · rintro σ H' ⟨v3, v4, rfl, rfl, hn⟩
      refine q H' none .non (Same.refl _) (fun z => ?_) rfl
      obtain ⟨k, m, hk, h⟩ := fm_soon hw' hv' v2 z bb.2
      exact hn k hk m h
end
end My
namespace My
open PySem PySem.Spec PyProof.Rows L2
abbrev sLaw : Stmt := top 15 /-law-/
def dOpt : Option (Nat × Nat) → PyData
  | none => .none
  | some p => dPort p
theorem shp_opt (o : Option (Nat × Nat)) : SeqAt.shaped (dOpt o) = true := by
  cases o with
  | none => exact shaped_none
  | some p => exact (shp_port p).shaped
theorem eqv_opt (o : Option (Nat × Nat)) : PyData.eqv (dOpt o) (dOpt o) = true := by
  cases o with
  | none => exact eqv_none
  | some p =>
    show PyData.eqv (dPort p) (dPort p) = true
    rw [eqv_port, decide_eq_true rfl]
theorem dp_opt {K : PySem.W.Frag} {H : Hp} {o : Option (Nat × Nat)} {r : V} (h : optP H o r) : Dp K H r (dOpt o) := by
  match o, h with
  | none, h =>
    cases (show r = .non from h)
    exact .non
  | some p, h =>
    obtain ⟨t, rfl, ht⟩ := h
    exact .tup (SqT.of ht) (.cons (.int _) (.cons (.int _) .nil))
theorem optP.same {H H' : Hp} {o : Option (Nat × Nat)} {r : V} (h : optP H o r) (e : Same H H') : optP H' o r := by
  match o, h with
  | none, h => exact h
  | some p, h =>
    obtain ⟨t, e1, ht⟩ := h
    exact ⟨t, e1, e _ _ ht⟩
theorem optP.non {H : Hp} {o : Option (Nat × Nat)} {r : V} (h : optP H o r) : decide (r = .non) = decide (o = none) := by
  match o, h with
  | none, h =>
    cases (show r = .non from h)
    rfl
  | some p, h =>
    obtain ⟨t, rfl, ht⟩ := h
    rfl
section
variable {P : Program} {w : World} {K : PySem.W.Frag} {mg : Str → Option Value} {base : Heap}
theorem scLaw : FnScope ["script", "turn", "cells", "first", "second", "due", "told", "found"] ["script"] (defScope sLaw) := ⟨rfl, rfl, rfl, by decide +kernel, rfl, by decide +kernel, by decide +kernel⟩
def spLaw (K : PySem.W.Frag) : Sp := fun vs H Q _ => ∃ (a : Addr) (ns : List Int), vs = [.ref a] ∧ SqL K H a (ns.map V.int) ∧ ns.length ≤ 63 ∧ ∀ H', Q (.bl true) H'
theorem ok_law {f fW fD fM fF fI : Addr} {fd fdW fdD fdM fdF fdI : FuncData} {k : Nat} (F : Fun K "law" "law" sLaw f fd) (T : Blt mg) (hisi : mg "isinstance" = none) (hbool : mg "bool" = none)
    (GW : Callee P w K mg base 2 "_law_window" ["cell"] spWindow fW fdW) (GD : Callee P w K mg base 3 "_law_due" ["first", "second"] (spDue K) fD fdD) (GM : Callee P w K mg base 1 "meet" ["first", "second"] (spMeet K) fM fdM)
    (GF : Callee P w K mg base 4 "first_meeting" ["first", "second"] (spFirst K) fF fdF) (GI : Callee P w K mg base 1 "_law_is_integer" ["actual"] spIsInt fI fdI) : FnOk P w K mg base CX0 (k + 5) f fd ["script"] (spLaw K) := by
  refine F.ok scLaw (fun vs H Q E h => ?_) (fun cdv A0 outer s0 H vs Q E hr h => ?_)
  · obtain ⟨a, ns, rfl, _⟩ := h
    rfl
  · obtain ⟨a, ns, rfl, hS, hlen, q⟩ := h
    have nd := scLaw.nd
    have hr1 : Room 1 _ := hr.mono (by omega)
    have hr2 : Room 2 _ := hr.mono (by omega)
    have hr3 : Room 3 _ := hr.mono (by omega)
    have hr4 : Room 4 _ := hr.mono (by omega)
    refine ⟨_, pss_cons (ps_for PassesOwn.never rfl (pi_range1 (by rfl) T.range (pa_cons pe_int pa_nil)) (pg_name (i := 1) nd rfl (.inl rfl)) (pss_cons (ps_set (i := 2) nd rfl (.inl rfl) (pe_op op_cat (pe_slice sl_list (pv 0) (po_some (pe_op op_mul pe_int (pv 1))) (po_some (pe_op op_add (pe_op op_mul pe_int (pv 1)) pe_int))) (pe_lst (pa_cons (pv 1) (pa_cons (pe_op op_add (pv 1) pe_int) pa_nil))))) <| pss_cons (ps_set (i := 3) nd rfl (.inl rfl) (pe_call GW.ok hr2 (by rfl) GW.mg GW.kp GW.b .nil pass0 (pa_cons (pe_ix ix_list (pv 2) pe_int (fun _ _ => rfl)) pa_nil))) <| pss_cons (ps_set (i := 4) nd rfl (.inl rfl) (pe_call GW.ok hr2 (by rfl) GW.mg GW.kp GW.b .nil pass0 (pa_cons (pe_ix ix_list (pv 2) pe_int (fun _ _ => rfl)) pa_nil))) <| pss_cons (ps_set (i := 5) nd rfl (.inl rfl) (pe_call GD.ok hr3 (by rfl) GD.mg GD.kp GD.b .nil pass0 (pa_cons (pv 3) (pa_cons (pv 4) pa_nil)))) <| pss_cons (ps_set (i := 6) nd rfl (.inl rfl) (pe_call GM.ok hr1 (by rfl) GM.mg GM.kp GM.b .nil pass0 (pa_cons (pv 3) (pa_cons (pv 4) pa_nil)))) <| pss_cons (ps_if (PW.pt (pw_or (pt_not (pt_val (pe_callB call_isi (by rfl) hisi PyProof.Rows.boot_isinstance (pa_cons (pv 6) (pa_cons (pe_bltn (v := .ty "bool") (by rfl) hbool PyProof.Rows.boot_bool rfl) pa_nil))))) (pw_or (pt_cmpR op_ne (pv 6) (pe_cmpR op_notN (pv 5) pe_non (nomark _)) (nomark _)) (pw_or1 (pt_cmpR op_ne (pe_call GM.ok hr1 (by rfl) GM.mg GM.kp GM.b .nil pass0 (pa_cons (pv 4) (pa_cons (pv 3) pa_nil))) (pv 6) (nomark _)))))) (pss_one (ps_ret pe_bl)) (pss_nil)) <| pss_cons (ps_set (i := 7) nd rfl (.inl rfl) (pe_call GF.ok hr4 (by rfl) GF.mg GF.kp GF.b .nil pass0 (pa_cons (pv 3) (pa_cons (pv 4) pa_nil)))) <| pss_one (ps_if (PW.pt (pw_or (pt_cmpR (op_neD hr.units) (pv 7) (pv 5) (nomark _)) (pw_or1 (PW.pt (pw_and (pt_cmpR op_notN (pv 7) pe_non (nomark _)) (pw_and1 (pt_not (pt_val (pe_call GI.ok hr1 (by rfl) GI.mg GI.kp GI.b .nil pass0 (pa_cons (pe_ix ix_tup (pv 7) pe_int (fun _ _ => rfl)) pa_nil)))))))))) (pss_one (ps_ret pe_bl)) (pss_nil)))) <| pss_one (ps_ret pe_bl), ?_⟩
    refine ⟨12, rfl, by decide, by decide, for_range (lo := 0) (n := 12) (fun i σ H' => ∃ v1 v2 v3 v4 v5 v6 v7 : Option V, σ = [some (.ref a), v1, v2, v3, v4, v5, v6, v7] ∧ Same H H') ⟨none, none, none, none, none, none, none, rfl, Same.refl _⟩ ?_ (fun σ H' _ => q _)⟩
    rintro i σ H0 hi ⟨v1, v2, v3, v4, v5, v6, v7, rfl, sm⟩
    rw [Int.zero_add]
    refine ⟨_, rfl, _, rfl, _, _, rfl, rfl, .inl ⟨by decide, by decide⟩, _, rfl, _, rfl, _, _, rfl, rfl, .inl ⟨by decide, by decide⟩, _, _, rfl, rfl, _, rfl, a, _, rfl, sm.seq hS, fun y ny => ?_⟩
    obtain ⟨ks, ek⟩ := cut_map (xs := ns) (some (2 * (i : Int))) (some (2 * (i : Int) + 2))
    have lk : ks.length ≤ 63 := by
      have := cutV_length (ns.map V.int) (some (2 * (i : Int))) (some (2 * (i : Int) + 2))
      rw [ek, List.length_map, List.length_map] at this
      omega
    have sy := same_new (o := .lst (cutV (ns.map V.int) (some (2 * (i : Int))) (some (2 * (i : Int) + 2)))) ny
    have hy : (upd H0 y (.lst (cutV (ns.map V.int) (some (2 * (i : Int))) (some (2 * (i : Int) + 2))))) y = some (.lst (ks.map V.int)) := by rw [upd_same, ek]
    generalize (upd H0 y (.lst (cutV (ns.map V.int) (some (2 * (i : Int))) (some (2 * (i : Int) + 2))))) = H1 at sy hy ⊢
    refine ⟨_, rfl, _, rfl, _, _, rfl, rfl, by show 2 ≤ sizeLine; decide, fun z nz => ?_⟩
    have sz5 := same_new (o := .lst [V.int (i : Int), V.int ((i : Int) + 1)]) nz
    refine ⟨y, z, _, _, rfl, rfl, sz5 _ _ hy, upd_same, by rw [List.length_map]; exact sz (by show ks.length + 2 ≤ 100000; omega), fun g ng => ?_⟩
    have sg := same_new (o := .lst (ks.map V.int ++ [V.int (i : Int), V.int ((i : Int) + 1)])) ng
    have hg : (upd (upd H1 z (.lst [V.int (i : Int), V.int ((i : Int) + 1)])) g (.lst (ks.map V.int ++ [V.int (i : Int), V.int ((i : Int) + 1)]))) g = some (.lst ((ks ++ [(i : Int), (i : Int) + 1]).map V.int)) := by rw [upd_same, List.map_append]; rfl
    have S2 := ((sm.trans sy).trans sz5).trans sg
    generalize (upd (upd H1 z (.lst [V.int (i : Int), V.int ((i : Int) + 1)])) g (.lst (ks.map V.int ++ [V.int (i : Int), V.int ((i : Int) + 1)]))) = H2 at S2 hg ⊢
    have lc : 2 ≤ (ks ++ [(i : Int), (i : Int) + 1]).length := by rw [List.length_append]; show 2 ≤ ks.length + 2; omega
    generalize ks ++ [(i : Int), (i : Int) + 1] = cs at hg lc
    refine ⟨_, rfl, g, _, _, _, rfl, rfl, SqL.of hg, atI_ints (j := 0) rfl (by omega), _, rfl, fun H3 t w s3 ht hw => ?_⟩
    refine ⟨_, rfl, g, _, _, _, rfl, rfl, SqL.of (s3 _ _ hg), atI_ints (j := 1) rfl (by omega), _, rfl, fun H4 u v s4 hu hv => ?_⟩
    have ht4 := s4 _ _ ht
    have hw' := hw.wp
    have hv' := hv.wp
    have mi := meet_iff hw'.l hv'.l hw'.p hv'.p
    have w2 := hw.g.p1
    have v2 := hv.g.p1
    refine ⟨_, rfl, _, rfl, t, u, w, v, rfl, SqT.of ht4, SqT.of hu, hw, hv, fun H5 o r s5 ho hr5 => ?_⟩
    have ht5 := s5 _ _ ht4
    have hu5 := s5 _ _ hu
    refine ⟨_, rfl, _, rfl, t, u, w, v, rfl, SqT.of ht5, SqT.of hu5, hw', hv', ?_⟩
    have mo : decide (o = none) = !meetB w v := by
      rw [Bool.eq_iff_iff, decide_eq_true_eq, Bool.not_eq_true', Bool.eq_false_iff, ne_eq, mi, ho.meets]
      simp
    dsimp only [gName, tSeq, tIfS]
    refine or_read (a := false) (b := false) (fun Q h => ?_) (fun Q h => ?_) ?_
    · exact ⟨_, rfl, .bl _, .ty "bool", .type "bool", .type "bool", true, rfl, .ty "bool", .base (.bl _), kit_ty (by decide +kernel), _, rfl, h⟩
    · refine or_read (a := false) (b := false) (fun Q h => ?_) (fun Q h => ?_) h
      · refine ⟨_, rfl, _, rfl, rfl, rfl, _, rfl, ?_⟩
        rw [hr5.non, mo, Bool.not_not, decide_eq_true rfl]
        exact h
      · refine ⟨_, rfl, _, rfl, u, t, v, w, rfl, SqT.of hu5, SqT.of ht5, hv', hw', _, rfl, rfl, _, rfl, ?_⟩
        rw [meet_symm hw'.l hv'.l hw'.p hv'.p, decide_eq_true rfl]
        exact h
    refine ite2 (fun e => by cases e) (fun _ => ?_)
    refine ⟨_, rfl, _, rfl, t, u, w, v, rfl, SqT.of ht5, SqT.of hu5, hw', hv', by omega, by omega, fun H6 o2 r2 s6 ho2 hr6 => ?_⟩
    have eo := ho2.one ho
    subst eo
    have hr5' := hr5.same s6
    dsimp only [gName, tSeq, tIfS]
    refine or_read (a := false) (b := false) (fun Q h => ?_) (fun Q h => ?_) ?_
    · refine ⟨_, rfl, _, rfl, dOpt o2, dOpt o2, dp_opt hr6, dp_opt hr5', shp_opt o2, shp_opt o2, _, rfl, ?_⟩
      rw [eqv_opt]
      exact h
    · match o2, hr6 with
      | none, hr6 =>
        cases (show r2 = .non from hr6)
        exact and_read (a := false) (b := false) (fun Q h => ⟨_, rfl, rfl, _, rfl, h⟩) (fun z => by cases z) h
      | some p, hr6 =>
        obtain ⟨x, rfl, hx⟩ := hr6
        exact and_read (a := true) (b := false) (fun Q h => ⟨_, rfl, rfl, _, rfl, h⟩) (fun _ Q h => ⟨_, rfl, x, _, _, _, rfl, rfl, SqT.of hx, rfl, _, rfl, _, rfl, h⟩) h
    refine ite2 (fun e => by cases e) (fun _ => ?_)
    exact ⟨_, _, _, _, _, _, _, rfl, ((((S2.trans s3).trans s4).trans s5).trans s6)⟩
end
end My
namespace My
open PySem PySem.Spec PyProof.Rows L2
/-! ### what the top has written, the head -/
theorem all_mk {l : PySem.W.OpenLaw} {w : World} {K : PySem.W.Frag} {h : Heap} {mg : Str → Option Value} {fa fD fRu fNu fLf fCs fMe fFm fI fW fCo fPa fDu fL : Addr} (X : K.In h) (G : h.Ns mainGlobals mg) (hfa : mg "law" = some (.ref fa))
    {odD anD : Option Addr} {slD : Array (Option Value)} {ocD kVD dcD pmD cdD ctD : Value}
    {odRu anRu : Option Addr} {slRu : Array (Option Value)} {ocRu kVRu dcRu pmRu cdRu ctRu : Value}
    {odNu anNu : Option Addr} {slNu : Array (Option Value)} {ocNu kVNu dcNu pmNu cdNu ctNu : Value}
    {odLf anLf : Option Addr} {slLf : Array (Option Value)} {ocLf kVLf dcLf pmLf cdLf ctLf : Value}
    {odCs anCs : Option Addr} {slCs : Array (Option Value)} {ocCs kVCs dcCs pmCs cdCs ctCs : Value}
    {odMe anMe : Option Addr} {slMe : Array (Option Value)} {ocMe kVMe dcMe pmMe cdMe ctMe : Value}
    {odFm anFm : Option Addr} {slFm : Array (Option Value)} {ocFm kVFm dcFm pmFm cdFm ctFm : Value}
    {odI anI : Option Addr} {slI : Array (Option Value)} {ocI kVI dcI pmI cdI ctI : Value}
    {odW anW : Option Addr} {slW : Array (Option Value)} {ocW kVW dcW pmW cdW ctW : Value}
    {odCo anCo : Option Addr} {slCo : Array (Option Value)} {ocCo kVCo dcCo pmCo cdCo ctCo : Value}
    {odPa anPa : Option Addr} {slPa : Array (Option Value)} {ocPa kVPa dcPa pmPa cdPa ctPa : Value}
    {odDu anDu : Option Addr} {slDu : Array (Option Value)} {ocDu kVDu dcDu pmDu cdDu ctDu : Value}
    {odL anL : Option Addr} {slL : Array (Option Value)} {ocL kVL dcL pmL cdL ctL : Value}
    (aD : PySem.W.nsIn K mainGlobals "_law_draw" = some (some (.ref fD)))
    (lD : K.lookup fD = some ⟨ocD, odD, .func (PySem.W.fnOf "_law_draw" "_law_draw" (defArgs sDraw) (defBody sDraw) (defScope sDraw) .none kVD dcD pmD anD cdD ctD), slD⟩)
    (cD : PySem.W.codeIn K cdD "_law_draw" = true)
    (kD : PySem.W.keepIn K (.ref fD) = true)
    (aRu : PySem.W.nsIn K mainGlobals "round_up" = some (some (.ref fRu)))
    (lRu : K.lookup fRu = some ⟨ocRu, odRu, .func (PySem.W.fnOf "round_up" "round_up" (defArgs sRound) (defBody sRound) (defScope sRound) .none kVRu dcRu pmRu anRu cdRu ctRu), slRu⟩)
    (cRu : PySem.W.codeIn K cdRu "round_up" = true)
    (kRu : PySem.W.keepIn K (.ref fRu) = true)
    (aNu : PySem.W.nsIn K mainGlobals "number_from" = some (some (.ref fNu)))
    (lNu : K.lookup fNu = some ⟨ocNu, odNu, .func (PySem.W.fnOf "number_from" "number_from" (defArgs sNumber) (defBody sNumber) (defScope sNumber) .none kVNu dcNu pmNu anNu cdNu ctNu), slNu⟩)
    (cNu : PySem.W.codeIn K cdNu "number_from" = true)
    (kNu : PySem.W.keepIn K (.ref fNu) = true)
    (aLf : PySem.W.nsIn K mainGlobals "least_factor" = some (some (.ref fLf)))
    (lLf : K.lookup fLf = some ⟨ocLf, odLf, .func (PySem.W.fnOf "least_factor" "least_factor" (defArgs sLeast) (defBody sLeast) (defScope sLeast) .none kVLf dcLf pmLf anLf cdLf ctLf), slLf⟩)
    (cLf : PySem.W.codeIn K cdLf "least_factor" = true)
    (kLf : PySem.W.keepIn K (.ref fLf) = true)
    (aCs : PySem.W.nsIn K mainGlobals "count_steps" = some (some (.ref fCs)))
    (lCs : K.lookup fCs = some ⟨ocCs, odCs, .func (PySem.W.fnOf "count_steps" "count_steps" (defArgs sCount) (defBody sCount) (defScope sCount) .none kVCs dcCs pmCs anCs cdCs ctCs), slCs⟩)
    (cCs : PySem.W.codeIn K cdCs "count_steps" = true)
    (kCs : PySem.W.keepIn K (.ref fCs) = true)
    (aMe : PySem.W.nsIn K mainGlobals "meet" = some (some (.ref fMe)))
    (lMe : K.lookup fMe = some ⟨ocMe, odMe, .func (PySem.W.fnOf "meet" "meet" (defArgs sMeet) (defBody sMeet) (defScope sMeet) .none kVMe dcMe pmMe anMe cdMe ctMe), slMe⟩)
    (cMe : PySem.W.codeIn K cdMe "meet" = true)
    (kMe : PySem.W.keepIn K (.ref fMe) = true)
    (aFm : PySem.W.nsIn K mainGlobals "first_meeting" = some (some (.ref fFm)))
    (lFm : K.lookup fFm = some ⟨ocFm, odFm, .func (PySem.W.fnOf "first_meeting" "first_meeting" (defArgs sFirst) (defBody sFirst) (defScope sFirst) .none kVFm dcFm pmFm anFm cdFm ctFm), slFm⟩)
    (cFm : PySem.W.codeIn K cdFm "first_meeting" = true)
    (kFm : PySem.W.keepIn K (.ref fFm) = true)
    (aI : PySem.W.nsIn K mainGlobals "_law_is_integer" = some (some (.ref fI)))
    (lI : K.lookup fI = some ⟨ocI, odI, .func (PySem.W.fnOf "_law_is_integer" "_law_is_integer" (defArgs sIsInt) (defBody sIsInt) (defScope sIsInt) .none kVI dcI pmI anI cdI ctI), slI⟩)
    (cI : PySem.W.codeIn K cdI "_law_is_integer" = true)
    (kI : PySem.W.keepIn K (.ref fI) = true)
    (aW : PySem.W.nsIn K mainGlobals "_law_window" = some (some (.ref fW)))
    (lW : K.lookup fW = some ⟨ocW, odW, .func (PySem.W.fnOf "_law_window" "_law_window" (defArgs sWindow) (defBody sWindow) (defScope sWindow) .none kVW dcW pmW anW cdW ctW), slW⟩)
    (cW : PySem.W.codeIn K cdW "_law_window" = true)
    (kW : PySem.W.keepIn K (.ref fW) = true)
    (aCo : PySem.W.nsIn K mainGlobals "_law_common" = some (some (.ref fCo)))
    (lCo : K.lookup fCo = some ⟨ocCo, odCo, .func (PySem.W.fnOf "_law_common" "_law_common" (defArgs sCommon) (defBody sCommon) (defScope sCommon) .none kVCo dcCo pmCo anCo cdCo ctCo), slCo⟩)
    (cCo : PySem.W.codeIn K cdCo "_law_common" = true)
    (kCo : PySem.W.keepIn K (.ref fCo) = true)
    (aPa : PySem.W.nsIn K mainGlobals "_law_partner" = some (some (.ref fPa)))
    (lPa : K.lookup fPa = some ⟨ocPa, odPa, .func (PySem.W.fnOf "_law_partner" "_law_partner" (defArgs sPartner) (defBody sPartner) (defScope sPartner) .none kVPa dcPa pmPa anPa cdPa ctPa), slPa⟩)
    (cPa : PySem.W.codeIn K cdPa "_law_partner" = true)
    (kPa : PySem.W.keepIn K (.ref fPa) = true)
    (aDu : PySem.W.nsIn K mainGlobals "_law_due" = some (some (.ref fDu)))
    (lDu : K.lookup fDu = some ⟨ocDu, odDu, .func (PySem.W.fnOf "_law_due" "_law_due" (defArgs sDue) (defBody sDue) (defScope sDue) .none kVDu dcDu pmDu anDu cdDu ctDu), slDu⟩)
    (cDu : PySem.W.codeIn K cdDu "_law_due" = true)
    (kDu : PySem.W.keepIn K (.ref fDu) = true)
    (aL : PySem.W.nsIn K mainGlobals "law" = some (some (.ref fL)))
    (lL : K.lookup fL = some ⟨ocL, odL, .func (PySem.W.fnOf "law" "law" (defArgs sLaw) (defBody sLaw) (defScope sLaw) .none kVL dcL pmL anL cdL ctL), slL⟩)
    (cL : PySem.W.codeIn K cdL "law" = true)
    (kL : PySem.W.keepIn K (.ref fL) = true)
    (z_range : PySem.W.nsIn K mainGlobals "range" = some none)
    (z_len : PySem.W.nsIn K mainGlobals "len" = some none)
    (z_int : PySem.W.nsIn K mainGlobals "int" = some none)
    (z_list : PySem.W.nsIn K mainGlobals "list" = some none)
    (z_enum : PySem.W.nsIn K mainGlobals "enumerate" = some none)
    (z_isi : PySem.W.nsIn K mainGlobals "isinstance" = some none)
    (z_bool : PySem.W.nsIn K mainGlobals "bool" = some none)
    (z_max : PySem.W.nsIn K mainGlobals "max" = some none)
    (z_min : PySem.W.nsIn K mainGlobals "min" = some none)
    (z_rev : PySem.W.nsIn K mainGlobals "reversed" = some none)
    (z_gcd : PySem.W.nsIn K mainGlobals "gcd" = some (some (.builtin "math.gcd"))) :
    ∃ fd : FuncData, (∀ (s : Shared) (v : Value), BindsTo s fd ⟨[v], []⟩ [("script", v)]) ∧ ∀ base : Heap, K.In base → base.Ns mainGlobals mg → FnOk l.prog w K mg base CX0 5 fa fd ["script"] (spLaw K) := by
  have e := hfa.symm.trans (PySem.W.mg_of X G aL)
  cases e
  have T : Blt mg := ⟨PySem.W.mg_none_of X G z_range, PySem.W.mg_none_of X G z_len, PySem.W.mg_none_of X G z_int, PySem.W.mg_none_of X G z_list, PySem.W.mg_none_of X G z_enum⟩
  have hrange := PySem.W.mg_none_of X G z_range
  have hlen := PySem.W.mg_none_of X G z_len
  have hint := PySem.W.mg_none_of X G z_int
  have hlist := PySem.W.mg_none_of X G z_list
  have henum := PySem.W.mg_none_of X G z_enum
  have hisi := PySem.W.mg_none_of X G z_isi
  have hbool := PySem.W.mg_none_of X G z_bool
  have hmax := PySem.W.mg_none_of X G z_max
  have hmin := PySem.W.mg_none_of X G z_min
  have hrev := PySem.W.mg_none_of X G z_rev
  have hgcd := PySem.W.mg_of X G z_gcd
  have FD := fun_mk (st := sDraw) lD cD kD
  have gD := PySem.W.mg_of X G aD
  have BD : Binds K _ ["cell", "many", "bound"] [] := FD.binds (ps := ["cell", "many", "bound"]) fun _ _ _ _ _ _ us hl => match us, hl with | [_, _, _], _ => rfl
  have FRu := fun_mk (st := sRound) lRu cRu kRu
  have gRu := PySem.W.mg_of X G aRu
  have BRu : Binds K _ ["number", "divisor"] [] := FRu.binds (ps := ["number", "divisor"]) fun _ _ _ _ _ _ us hl => match us, hl with | [_, _], _ => rfl
  have FNu := fun_mk (st := sNumber) lNu cNu kNu
  have gNu := PySem.W.mg_of X G aNu
  have BNu : Binds K _ ["window", "tick"] [] := FNu.binds (ps := ["window", "tick"]) fun _ _ _ _ _ _ us hl => match us, hl with | [_, _], _ => rfl
  have FLf := fun_mk (st := sLeast) lLf cLf kLf
  have gLf := PySem.W.mg_of X G aLf
  have BLf : Binds K _ ["step", "circle", "low", "high"] [] := FLf.binds (ps := ["step", "circle", "low", "high"]) fun _ _ _ _ _ _ us hl => match us, hl with | [_, _, _, _], _ => rfl
  have FCs := fun_mk (st := sCount) lCs cCs kCs
  have gCs := PySem.W.mg_of X G aCs
  have BCs : Binds K _ ["start", "step", "circle", "wide"] [] := FCs.binds (ps := ["start", "step", "circle", "wide"]) fun _ _ _ _ _ _ us hl => match us, hl with | [_, _, _, _], _ => rfl
  have FMe := fun_mk (st := sMeet) lMe cMe kMe
  have gMe := PySem.W.mg_of X G aMe
  have BMe : Binds K _ ["first", "second"] [] := FMe.binds (ps := ["first", "second"]) fun _ _ _ _ _ _ us hl => match us, hl with | [_, _], _ => rfl
  have FFm := fun_mk (st := sFirst) lFm cFm kFm
  have gFm := PySem.W.mg_of X G aFm
  have BFm : Binds K _ ["first", "second"] [] := FFm.binds (ps := ["first", "second"]) fun _ _ _ _ _ _ us hl => match us, hl with | [_, _], _ => rfl
  have FI := fun_mk (st := sIsInt) lI cI kI
  have gI := PySem.W.mg_of X G aI
  have BI : Binds K _ ["actual"] [] := FI.binds (ps := ["actual"]) fun _ _ _ _ _ _ us hl => match us, hl with | [_], _ => rfl
  have FW := fun_mk (st := sWindow) lW cW kW
  have gW := PySem.W.mg_of X G aW
  have BW : Binds K _ ["cell"] [] := FW.binds (ps := ["cell"]) fun _ _ _ _ _ _ us hl => match us, hl with | [_], _ => rfl
  have FCo := fun_mk (st := sCommon) lCo cCo kCo
  have gCo := PySem.W.mg_of X G aCo
  have BCo : Binds K _ ["first", "second", "k", "m"] [] := FCo.binds (ps := ["first", "second", "k", "m"]) fun _ _ _ _ _ _ us hl => match us, hl with | [_, _, _, _], _ => rfl
  have FPa := fun_mk (st := sPartner) lPa cPa kPa
  have gPa := PySem.W.mg_of X G aPa
  have BPa : Binds K _ ["first", "second", "k"] [] := FPa.binds (ps := ["first", "second", "k"]) fun _ _ _ _ _ _ us hl => match us, hl with | [_, _, _], _ => rfl
  have FDu := fun_mk (st := sDue) lDu cDu kDu
  have gDu := PySem.W.mg_of X G aDu
  have BDu : Binds K _ ["first", "second"] [] := FDu.binds (ps := ["first", "second"]) fun _ _ _ _ _ _ us hl => match us, hl with | [_, _], _ => rfl
  have FL := fun_mk (st := sLaw) lL cL kL
  refine ⟨PySem.W.fnOf "law" "law" (defArgs sLaw) (defBody sLaw) (defScope sLaw) .none kVL dcL pmL anL cdL ctL, fun s v => .of_eq rfl, fun base _ _ => ?_⟩
  have GD : Callee l.prog w K mg base 1 "_law_draw" ["cell", "many", "bound"] spDraw fD _ := ⟨ok_draw FD T, gD, FD.kp, BD⟩
  have GRu : Callee l.prog w K mg base 1 "round_up" ["number", "divisor"] spRound fRu _ := ⟨ok_round FRu, gRu, FRu.kp, BRu⟩
  have GNu : Callee l.prog w K mg base 2 "number_from" ["window", "tick"] (spNumber K) fNu _ := ⟨ok_number FNu hmax GRu, gNu, FNu.kp, BNu⟩
  have GLf : Callee l.prog w K mg base 2 "least_factor" ["step", "circle", "low", "high"] spLeast fLf _ := ⟨ok_least FLf hrev GRu, gLf, FLf.kp, BLf⟩
  have GCs : Callee l.prog w K mg base 3 "count_steps" ["start", "step", "circle", "wide"] spCount fCs _ := ⟨ok_count FCs GLf, gCs, FCs.kp, BCs⟩
  have GMe : Callee l.prog w K mg base 1 "meet" ["first", "second"] (spMeet K) fMe _ := ⟨ok_meet FMe hgcd, gMe, FMe.kp, BMe⟩
  have GFm : Callee l.prog w K mg base 4 "first_meeting" ["first", "second"] (spFirst K) fFm _ := ⟨ok_first FFm GMe GNu GCs, gFm, FFm.kp, BFm⟩
  have GI : Callee l.prog w K mg base 1 "_law_is_integer" ["actual"] spIsInt fI _ := ⟨ok_isint FI hisi T.int hbool, gI, FI.kp, BI⟩
  have GW : Callee l.prog w K mg base 2 "_law_window" ["cell"] spWindow fW _ := ⟨ok_window FW T GD, gW, FW.kp, BW⟩
  have GCo : Callee l.prog w K mg base 1 "_law_common" ["first", "second", "k", "m"] (spCommon K) fCo _ := ⟨ok_common FCo hmax hmin, gCo, FCo.kp, BCo⟩
  have GPa : Callee l.prog w K mg base 2 "_law_partner" ["first", "second", "k"] (spPartner K) fPa _ := ⟨ok_partner FPa T hmax GCo, gPa, FPa.kp, BPa⟩
  have GDu : Callee l.prog w K mg base 3 "_law_due" ["first", "second"] (spDue K) fDu _ := ⟨ok_due FDu T hmax GPa, gDu, FDu.kp, BDu⟩
  exact ok_law FL T hisi hbool GW GDu GMe GFm GI
end My
open PySem PySem.W PyProof.Rows in
set_option maxHeartbeats 0 in
theorem PySem.Challenge.cw_metronet_k04_windows_that_meet_holds : PySem.Challenge.rw_metronet_k04_windows_that_meet.Holds := by
  w_on; o_law; k_head; (case hw => w_witness2)
  k_fill
  refine L2.walk_of (l := PySem.Challenge.rw_metronet_k04_windows_that_meet) (n := 63) (k := 5) (x := "script") (CX := fun _ => L2.CX0) (sp := fun w => My.spLaw _) rfl (by decide) rfl ⟨rfl, by decide, by decide⟩ (fun w h Y => PySem.W.kIn_of Y) ?F (fun _ _ a ns hl _ hS => ⟨a, ns, rfl, hS, hl, fun _ => rfl⟩) (fun _ _ _ _ _ h => h)
  case F =>
    intro w mg fa h KX G hmg
    refine' My.all_mk KX G hmg ?aD ?lD ?cD ?kD ?aRu ?lRu ?cRu ?kRu ?aNu ?lNu ?cNu ?kNu ?aLf ?lLf ?cLf ?kLf ?aCs ?lCs ?cCs ?kCs ?aMe ?lMe ?cMe ?kMe ?aFm ?lFm ?cFm ?kFm ?aI ?lI ?cI ?kI ?aW ?lW ?cW ?kW ?aCo ?lCo ?cCo ?kCo ?aPa ?lPa ?cPa ?kPa ?aDu ?lDu ?cDu ?kDu ?aL ?lL ?cL ?kL ?z_range ?z_len ?z_int ?z_list ?z_enum ?z_isi ?z_bool ?z_max ?z_min ?z_rev ?z_gcd
    (case aD => k_is)
    (case lD => k_is)
    (case cD => k_is)
    (case kD => k_is)
    (case aRu => k_is)
    (case lRu => k_is)
    (case cRu => k_is)
    (case kRu => k_is)
    (case aNu => k_is)
    (case lNu => k_is)
    (case cNu => k_is)
    (case kNu => k_is)
    (case aLf => k_is)
    (case lLf => k_is)
    (case cLf => k_is)
    (case kLf => k_is)
    (case aCs => k_is)
    (case lCs => k_is)
    (case cCs => k_is)
    (case kCs => k_is)
    (case aMe => k_is)
    (case lMe => k_is)
    (case cMe => k_is)
    (case kMe => k_is)
    (case aFm => k_is)
    (case lFm => k_is)
    (case cFm => k_is)
    (case kFm => k_is)
    (case aI => k_is)
    (case lI => k_is)
    (case cI => k_is)
    (case kI => k_is)
    (case aW => k_is)
    (case lW => k_is)
    (case cW => k_is)
    (case kW => k_is)
    (case aCo => k_is)
    (case lCo => k_is)
    (case cCo => k_is)
    (case kCo => k_is)
    (case aPa => k_is)
    (case lPa => k_is)
    (case cPa => k_is)
    (case kPa => k_is)
    (case aDu => k_is)
    (case lDu => k_is)
    (case cDu => k_is)
    (case kDu => k_is)
    (case aL => k_is)
    (case lL => k_is)
    (case cL => k_is)
    (case kL => k_is)
    (case z_range => k_is)
    (case z_len => k_is)
    (case z_int => k_is)
    (case z_list => k_is)
    (case z_enum => k_is)
    (case z_isi => k_is)
    (case z_bool => k_is)
    (case z_max => k_is)
    (case z_min => k_is)
    (case z_rev => k_is)
    (case z_gcd => k_is)
