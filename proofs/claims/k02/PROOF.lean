import PyProof.Rows.All
import Wide.All
import OpenK.AllK
import Wide.FinOn
import HandS.ForMost
import HandS.Wide
import HandS.Defaults
import HandS.MakeKwOnly
import HandS.Flow
import HandS.More
import HandS.Walk
import KE.LtData
import PySem.Challenge.RW_metronet_k02_shortest_paths
set_option Elab.async false
set_option linter.all false
set_option maxRecDepth 100000
set_option maxHeartbeats 4000000
/-! What any law wants, without the row: heaps, loops, order of data. -/
namespace My
open PySem PySem.Spec PyProof.Rows L2

theorem same_new {H : Hp} {p : Addr} {o : HO} (h : H p = none) : Same H (upd H p o) := fun b x e => by
  rw [upd_ne (ne_of_none e h)]
  exact e
/-- an object that H does not know may change -/
theorem same_mut {H H' : Hp} {p : Addr} {o : HO} (e : Same H H') (h : H p = none) : Same H (upd H' p o) := fun a u ha => by
  rw [upd_ne (ne_of_none ha h)]
  exact e a u ha
theorem ne_new {H H' : Hp} {a p : Addr} (n : H p = none) (h : H' p ≠ none) (e : H' a = none) : p ≠ a := fun q => h (q ▸ e)
/-- a list of ints by place -/
theorem ints_at {ns : List Int} {i : Nat} {y : V} (h : (ns.map V.int)[i]? = some y) : ∃ n, ns[i]? = some n ∧ y = .int n := by
  rw [List.getElem?_map] at h
  cases e : ns[i]? with
  | none => rw [e] at h; cases h
  | some n => rw [e] at h; exact ⟨n, rfl, (Option.some.inj h).symm⟩
theorem int_at {ns : List Int} {i : Nat} {n : Int} (h : ns[i]? = some n) : (ns.map V.int)[i]? = some (.int n) := by
  rw [List.getElem?_map, h]; rfl
theorem atI_int {ns : List Int} {i : Nat} (h : i < ns.length) : atI (ns.map V.int) (i : Int) = some (.int ns[i]) := atI_nat (int_at (List.getElem?_eq_getElem h))
theorem sz {n : Nat} (h : n ≤ 100000) : n ≤ sizeLine := Nat.le_trans h (by decide)
theorem szl {n : Nat} (h : n < 100000) : n < sizeLine := Nat.lt_of_lt_of_le h (by decide)

theorem getD_lt {α : Type} {xs : List α} {j : Nat} (d : α) (h : j < xs.length) : xs.getD j d = xs[j] := by
  rw [List.getD_eq_getElem?_getD, List.getElem?_eq_getElem h]; rfl
theorem getD_at {α : Type} {xs : List α} {j : Nat} (d : α) (h : j < xs.length) : xs[j]? = some (xs.getD j d) := by
  rw [getD_lt d h, List.getElem?_eq_getElem h]
theorem atI_ints {ns : List Int} {z : Int} {j : Nat} (e : z = (j : Int)) (h : j < ns.length) : atI (ns.map V.int) z = some (.int (ns.getD j 0)) := by
  rw [e]
  exact atI_nat (int_at (getD_at 0 h))
theorem getD_mem {ns : List Int} {j : Nat} (h : j < ns.length) : ns.getD j 0 ∈ ns := by
  rw [getD_lt 0 h]; exact List.getElem_mem h
/-! ### tests that change nothing -/
theorem or_read {t u : TT} {σ : L2.St} {H : Hp} {Q : Bool → Hp → Prop} {a b : Bool} (ht : ∀ Q : Bool → Hp → Prop, Q a H → t σ H Q) (hu : ∀ Q : Bool → Hp → Prop, Q b H → u σ H Q) (h : Q (a || b) H) : tOr t u σ H Q := by
  refine ht _ ?_
  cases a with
  | true => exact iteT h
  | false => exact iteF (hu _ h)
theorem and_read {t u : TT} {σ : L2.St} {H : Hp} {Q : Bool → Hp → Prop} {a b : Bool} (ht : ∀ Q : Bool → Hp → Prop, Q a H → t σ H Q) (hu : a = true → ∀ Q : Bool → Hp → Prop, Q b H → u σ H Q) (h : Q (a && b) H) : tAnd t u σ H Q := by
  refine ht _ ?_
  cases a with
  | true => exact iteT (hu rfl _ h)
  | false => exact iteF h
/-! ### < of data -/
section
variable {X : Cx}
def rLtD (K : PySem.W.Frag) : R2 := fun x y H Q => ∃ d e, Dp K H x d ∧ Dp K H y e ∧ PySem.W.alike d e = true ∧ d ≠ .none ∧ min d.depth e.depth ≤ 64 ∧ Q (.bl (PySem.W.dataLt d e)) H
theorem op_ltD (hu : X.A.units + 64 < cLine) : OpR X (compareOp .Lt) (rLtD X.K) := by
  intro pins s σ H x y v u Q I rx ry h
  obtain ⟨d, e, hd, he, al, nn, dp, q⟩ := h
  obtain ⟨as, r1⟩ := Dp.reads I d x v hd rx
  obtain ⟨bs, r2⟩ := Dp.reads I e y u he ry
  have z : wpAny (model X.prog X.w) X.A (compareOp .Lt v u) (EP X pins σ Q) X.xe s := PySem.W.rcLt_alike d e X.A s v u as bs r1 r2 al nn (by omega) X.prog X.w X.xe (EP X pins σ Q) ⟨.bl _, H, I, rfl, q⟩
  exact z
end
/-! ### rules that name the written part, for a comprehension's block -/
section
variable {X : Cx} {K : PySem.W.Frag}
theorem pe_fldK {e : Expr} {f : Str} {pos : Pos} {ta : TE} (he : PE X e ta) (hK : X.K = K := by rfl) (hb : attributeBase e f X.env (eval e X.env) = eval e X.env := by rfl) : PE X (.Attribute e f pos) (tFld K ta f) := by
  subst hK
  exact pe_fld he hb
theorem ix_listK (hK : X.K = K := by rfl) : IxR X (rIxL K) := by
  subst hK
  exact ix_list
theorem ix_tupK (hK : X.K = K := by rfl) : IxR X (rIxT K) := by
  subst hK
  exact ix_tup
def rLenK (K : PySem.W.Frag) : List V → Hp → VK → Prop := fun xs H Q => ∃ p ys, xs = [.ref p] ∧ (SqL K H p ys ∨ SqT K H p ys) ∧ Q (.int ys.length) H
theorem call_lenK (hK : X.K = K := by rfl) : CallR X (.builtin "len") (rLenK K) := by
  subst hK
  exact call_len_seq
theorem pg_tupK {es : List Expr} {k : Nat} {t : TGs} {n : Nat} {pos : Pos} (hc : X.calm = true) (h : PGs X es t) (hK : X.K = K := by rfl)
    (hn : (assignEach es X.env).length = n := by rfl) (hst : (assignEach es X.env).findIdx? (·.1) = none := by rfl) : PG X (.Tuple es k pos) (gTup K n t) := by
  subst hK
  exact pg_tup hc h hn hst
end
end My
/-! Nets as data, how the heap bears them. No row. -/
namespace My
open PySem PySem.Spec PyProof.Rows L2
/-- a net as data: host or not, the lines, processing, clock bound -/
structure NetD where
  ks : List Bool
  ls : List (Nat × Nat × Int)
  pr : Int
  er : Int
def kindV (b : Bool) : V := .str (if b then "host" else "switch")
def lineV (l : Nat × Nat × Int) : List V := [.int (l.1 : Int), .int (l.2.1 : Int), .int l.2.2]
def key2 (a b : Nat) : List Key := [Sum.inl (a : Int), Sum.inl (b : Int)]
def put2 (acc : List (List Key × V)) (l : Nat × Nat × Int) : List (List Key × V) := putK (putK acc (key2 l.1 l.2.1) (.int l.2.2)) (key2 l.2.1 l.1) (.int l.2.2)
def delaysOf (ls : List (Nat × Nat × Int)) : List (List Key × V) := ls.foldl put2 []
theorem put2_len (acc : List (List Key × V)) (l : Nat × Nat × Int) : (put2 acc l).length ≤ acc.length + 2 := by
  have h1 := length_putK (putK acc (key2 l.1 l.2.1) (.int l.2.2)) (key2 l.2.1 l.1) (.int l.2.2)
  have h2 := length_putK acc (key2 l.1 l.2.1) (.int l.2.2)
  unfold put2
  omega
theorem foldl_len : ∀ (ls : List (Nat × Nat × Int)) (acc : List (List Key × V)), (ls.foldl put2 acc).length ≤ acc.length + 2 * ls.length
  | [], acc => by simp
  | l :: r, acc => by
    have := foldl_len r (put2 acc l)
    have := put2_len acc l
    rw [List.foldl_cons, List.length_cons]
    omega
theorem delays_len (ls : List (Nat × Nat × Int)) : (delaysOf ls).length ≤ 2 * ls.length := by
  have := foldl_len ls []
  rw [List.length_nil] at this
  unfold delaysOf
  omega
theorem delays_snoc (ls : List (Nat × Nat × Int)) (l : Nat × Nat × Int) : delaysOf (ls ++ [l]) = put2 (delaysOf ls) l := by
  unfold delaysOf
  rw [List.foldl_append]
  rfl
theorem take_snoc {α : Type} {xs : List α} {i : Nat} {x : α} (h : xs[i]? = some x) : xs.take (i + 1) = xs.take i ++ [x] := by
  rw [List.take_add_one, h]
  rfl
theorem key2_inj {a b c d : Nat} (e : key2 a b = key2 c d) : a = c ∧ b = d := by
  unfold key2 at e
  injection e with e1 e2
  injection e2 with e2 _
  injection e1 with e1
  injection e2 with e2
  exact ⟨by omega, by omega⟩
/-- the line joins both nodes -/
def hits (a b : Nat) (l : Nat × Nat × Int) : Bool := (decide (l.1 = a) && decide (l.2.1 = b)) || (decide (l.1 = b) && decide (l.2.1 = a))
theorem valV_put2 (acc : List (List Key × V)) (l : Nat × Nat × Int) (a b : Nat) : valV (put2 acc l) (key2 a b) = if hits a b l = true then some (.int l.2.2) else valV acc (key2 a b) := by
  unfold put2 hits
  rw [valV_put, valV_put]
  by_cases h1 : key2 a b = key2 l.2.1 l.1
  · obtain ⟨e1, e2⟩ := key2_inj h1
    rw [if_pos h1, if_pos]
    simp [e1, e2]
  · rw [if_neg h1]
    by_cases h2 : key2 a b = key2 l.1 l.2.1
    · obtain ⟨e1, e2⟩ := key2_inj h2
      rw [if_pos h2, if_pos]
      simp [e1, e2]
    · rw [if_neg h2, if_neg]
      intro h
      rw [Bool.or_eq_true, Bool.and_eq_true, Bool.and_eq_true, decide_eq_true_eq, decide_eq_true_eq, decide_eq_true_eq, decide_eq_true_eq] at h
      rcases h with ⟨e1, e2⟩ | ⟨e1, e2⟩
      · exact h2 (by rw [e1, e2])
      · exact h1 (by rw [e1, e2])
theorem valV_fold (a b : Nat) : ∀ (ls : List (Nat × Nat × Int)) (acc : List (List Key × V)), (valV (ls.foldl put2 acc) (key2 a b)).isSome = (ls.any (hits a b) || (valV acc (key2 a b)).isSome)
  | [], acc => by simp
  | l :: r, acc => by
    rw [List.foldl_cons, valV_fold a b r, valV_put2, List.any_cons]
    cases hits a b l with
    | true => simp
    | false => simp
def adj (N : NetD) (a b : Nat) : Bool := N.ls.any (hits a b)
theorem adj_val (N : NetD) (a b : Nat) : (valV (delaysOf N.ls) (key2 a b)).isSome = adj N a b := by
  unfold delaysOf adj
  rw [valV_fold]
  simp [valV_nil]
/-- the first line that joins both -/
def joined (N : NetD) (a b : Nat) : Option Int := (N.ls.find? (hits a b)).map (·.2.2)
theorem joined_some (N : NetD) (a b : Nat) : (joined N a b).isSome = adj N a b := by
  unfold joined adj
  rw [Option.isSome_map, Bool.eq_iff_iff, List.find?_isSome, List.any_eq_true]

def nbs (N : NetD) (a : Nat) : List Nat := (List.range N.ks.length).filter (adj N a)
def natsV (ns : List Nat) : List V := ns.map fun (n : Nat) => V.int (n : Int)
/-- host or not -/
def host (N : NetD) (a : Nat) : Bool := N.ks.getD a true
def lastN (r : List Nat) : Nat := r.getD (r.length - 1) 0
def okb (N : NetD) (r : List Nat) (b : Nat) : Bool := !(r.contains b) && adj N (lastN r) b
def exH (N : NetD) (r : List Nat) : List (List Nat) := ((List.range N.ks.length).filter fun b => okb N r b && host N b).map fun b => r ++ [b]
def exS (N : NetD) (r : List Nat) : List (List Nat) := ((List.range N.ks.length).filter fun b => okb N r b && !host N b).map fun b => r ++ [b]
def rowsOf (N : NetD) : Nat → List (List Nat)
  | 0 => ((List.range N.ks.length).filter (host N)).map fun a => [a]
  | t + 1 => (rowsOf N t).flatMap (exS N)
def foundOf (N : NetD) : Nat → List (List Nat)
  | 0 => []
  | t + 1 => foundOf N t ++ (rowsOf N t).flatMap (exH N)
theorem natsV_at {ns : List Nat} {i n : Nat} (h : ns[i]? = some n) : (natsV ns)[i]? = some (.int (n : Int)) := by
  unfold natsV
  rw [List.getElem?_map, h]
  rfl
theorem natsV_len (ns : List Nat) : (natsV ns).length = ns.length := List.length_map ..
theorem natsV_flat (ns : List Nat) : (natsV ns).all flatV = true := by
  rw [List.all_eq_true]
  intro x hx
  obtain ⟨n, _, rfl⟩ := List.mem_map.mp hx
  rfl
theorem natsV_in (ns : List Nat) (b : Nat) : inV (.int (b : Int)) (natsV ns) = ns.contains b := by
  unfold inV natsV
  rw [List.any_map, List.contains_eq_any_beq]
  congr 1
  funext x
  show ((x : Int) == (b : Int)) = (b == x)
  rw [Bool.eq_iff_iff, beq_iff_eq, beq_iff_eq]
  omega
theorem natsV_app (r : List Nat) (b : Nat) : natsV r ++ [V.int (b : Int)] = natsV (r ++ [b]) := by
  unfold natsV
  rw [List.map_append]
  rfl
theorem len_flat {α β : Type} (f : α → List β) (m : Nat) (h : ∀ a, (f a).length ≤ m) : ∀ l : List α, (l.flatMap f).length ≤ m * l.length
  | [] => by simp
  | a :: r => by
    have := len_flat f m h r
    have := h a
    rw [List.flatMap_cons, List.length_append, List.length_cons, Nat.mul_add]
    omega
theorem exH_len (N : NetD) (r : List Nat) : (exH N r).length ≤ N.ks.length := by
  have := List.length_filter_le (fun b => okb N r b && host N b) (List.range N.ks.length)
  unfold exH
  rw [List.length_map]
  rw [List.length_range] at this
  exact this
theorem exS_len (N : NetD) (r : List Nat) : (exS N r).length ≤ N.ks.length := by
  have := List.length_filter_le (fun b => okb N r b && !host N b) (List.range N.ks.length)
  unfold exS
  rw [List.length_map]
  rw [List.length_range] at this
  exact this
theorem rows_len (N : NetD) (h : N.ks.length ≤ 7) : ∀ t, (rowsOf N t).length ≤ 8 ^ (t + 1)
  | 0 => by
    have := List.length_filter_le (host N) (List.range N.ks.length)
    rw [List.length_range] at this
    show (((List.range N.ks.length).filter (host N)).map fun a => [a]).length ≤ 8 ^ 1
    rw [List.length_map]
    omega
  | t + 1 => by
    have h1 := rows_len N h t
    have h2 := len_flat (exS N) 7 (fun a => Nat.le_trans (exS_len N a) h) (rowsOf N t)
    show ((rowsOf N t).flatMap (exS N)).length ≤ _
    rw [Nat.pow_succ]
    omega
theorem found_len (N : NetD) (h : N.ks.length ≤ 7) : ∀ t, (foundOf N t).length ≤ 8 ^ (t + 1)
  | 0 => by simp [foundOf]
  | t + 1 => by
    have h1 := found_len N h t
    have h0 := rows_len N h t
    have h2 := len_flat (exH N) 7 (fun a => Nat.le_trans (exH_len N a) h) (rowsOf N t)
    show (foundOf N t ++ (rowsOf N t).flatMap (exH N)).length ≤ _
    rw [List.length_append, Nat.pow_succ]
    omega
theorem ex_ne (N : NetD) (r x : List Nat) (h : x ∈ exH N r ∨ x ∈ exS N r) : x ≠ [] := by
  rcases h with h | h
  · obtain ⟨b, _, rfl⟩ := List.mem_map.mp h
    simp
  · obtain ⟨b, _, rfl⟩ := List.mem_map.mp h
    simp
theorem rows_row (N : NetD) : ∀ t, ∀ r ∈ rowsOf N t, r.length = t + 1
  | 0, r, h => by
    obtain ⟨a, _, rfl⟩ := List.mem_map.mp h
    rfl
  | t + 1, r, h => by
    obtain ⟨r', h1, h2⟩ := List.mem_flatMap.mp h
    obtain ⟨b, _, rfl⟩ := List.mem_map.mp h2
    rw [List.length_append, rows_row N t r' h1]
    rfl
theorem flat_take {α β : Type} (f : α → List β) {l : List α} {i : Nat} {a : α} (h : l[i]? = some a) : (l.take (i + 1)).flatMap f = (l.take i).flatMap f ++ f a := by
  rw [take_snoc h, List.flatMap_append, List.flatMap_cons, List.flatMap_nil, List.append_nil]
theorem filt_succ {α : Type} (p : Nat → Bool) (f : Nat → α) (j : Nat) : ((List.range (j + 1)).filter p).map f = ((List.range j).filter p).map f ++ (if p j = true then [f j] else []) := by
  rw [List.range_succ, List.filter_append, List.map_append, List.filter_cons]
  split <;> rfl
def optV : Option Int → V
  | none => .non
  | some d => .int d
theorem optV_non (o : Option Int) : (!decide (optV o = .non)) = o.isSome := by
  cases o with
  | none => rfl
  | some d => rfl
theorem dec_nat (a b : Nat) : decide (V.int (a : Int) = V.int (b : Int)) = decide (a = b) := by
  by_cases h : a = b
  · rw [h]; simp
  · rw [decide_eq_false h, decide_eq_false]
    intro z
    injection z with z
    omega
theorem find_take {α : Type} (p : α → Bool) {l : List α} {i : Nat} {a : α} (h : l[i]? = some a) (h0 : (l.take i).find? p = none) (hp : p a = true) : l.find? p = some a := by
  have e : l = l.take i ++ a :: l.drop (i + 1) := by
    obtain ⟨hi, e⟩ := List.getElem?_eq_some_iff.mp h
    rw [← e, List.getElem_cons_drop, List.take_append_drop]
  rw [e, List.find?_append, h0, List.find?_cons, hp]
  rfl
theorem find_skip {α : Type} (p : α → Bool) {l : List α} {i : Nat} {a : α} (h : l[i]? = some a) (h0 : (l.take i).find? p = none) (hp : ¬ p a = true) : (l.take (i + 1)).find? p = none := by
  rw [take_snoc h, List.find?_append, h0, List.find?_cons, Bool.eq_false_iff.mpr hp]
  rfl
/-! ### the instance's attributes -/
def netF (lk ll : Addr) (pr er : Int) (ld : Addr) : List (Str × V) := [("kinds", .ref lk), ("lines", .ref ll), ("processing", .int pr), ("error", .int er), ("_delays", .ref ld)]
theorem putF_new {f : Str} {v : V} : ∀ {fs : List (Str × V)}, fs.lookup f = none → putF f v fs = fs ++ [(f, v)]
  | [], _ => rfl
  | (g, x) :: r, h => by
    have e : (f == g) = false := by
      cases q : f == g with
      | false => rfl
      | true => rw [List.lookup_cons, q] at h; cases h
    rw [List.lookup_cons, e] at h
    have ne : ¬ g = f := fun z => by rw [z] at e; simp at e
    show (if g = f then (g, v) :: r else (g, x) :: putF f v r) = _
    rw [if_neg ne, putF_new h]
    rfl
theorem f1 {lk : Addr} : putF "kinds" (.ref lk) [] = [(("kinds" : Str), V.ref lk)] := rfl
theorem f2 {lk ll : Addr} : putF "lines" (.ref ll) [(("kinds" : Str), V.ref lk)] = [(("kinds" : Str), V.ref lk), ("lines", V.ref ll)] := putF_new rfl
theorem f3 {lk ll : Addr} {pr : Int} : putF "processing" (.int pr) [(("kinds" : Str), V.ref lk), ("lines", V.ref ll)] = [(("kinds" : Str), V.ref lk), ("lines", V.ref ll), ("processing", .int pr)] := putF_new rfl
theorem f4 {lk ll : Addr} {pr er : Int} : putF "error" (.int er) [(("kinds" : Str), V.ref lk), ("lines", V.ref ll), ("processing", .int pr)] = [(("kinds" : Str), V.ref lk), ("lines", V.ref ll), ("processing", .int pr), ("error", .int er)] := putF_new rfl
theorem f5 {lk ll ld : Addr} {pr er : Int} : putF "_delays" (.ref ld) [(("kinds" : Str), V.ref lk), ("lines", V.ref ll), ("processing", .int pr), ("error", .int er)] = netF lk ll pr er ld := putF_new rfl
section
variable {lk ll ld : Addr} {pr er : Int}
theorem g1 : (netF lk ll pr er ld).lookup ("kinds" : Str) = some (.ref lk) := rfl
theorem g2 : (netF lk ll pr er ld).lookup ("lines" : Str) = some (.ref ll) := rfl
theorem g3 : (netF lk ll pr er ld).lookup ("processing" : Str) = some (.int pr) := rfl
theorem g4 : (netF lk ll pr er ld).lookup ("error" : Str) = some (.int er) := rfl
theorem g5 : (netF lk ll pr er ld).lookup ("_delays" : Str) = some (.ref ld) := rfl
theorem g6 : (netF lk ll pr er ld).lookup ("neighbours" : Str) = none := rfl
theorem g7 : (netF lk ll pr er ld).lookup ("delay" : Str) = none := rfl
end
/-- tuples of lines -/
abbrev LinesAt (K : PySem.W.Frag) (H : Hp) (ts : List Addr) (ls : List (Nat × Nat × Int)) : Prop := Paired (fun (t : Addr) (l : Nat × Nat × Int) => SqT K H t (lineV l)) ts ls
theorem same_tup {K : PySem.W.Frag} {H H' : Hp} {a : Addr} {xs : List V} (e : Same H H') (h : SqT K H a xs) : SqT K H' a xs := by
  rcases h with (h | ⟨o, h⟩) | h
  · exact .inl (.inl (e _ _ h))
  · exact .inl (.inr ⟨o, e _ _ h⟩)
  · exact .inr h
theorem Paired.imp {α β : Type} {F G : α → β → Prop} : ∀ {l1 : List α} {l2 : List β}, Paired F l1 l2 → (∀ a b, F a b → G a b) → Paired G l1 l2
  | _, _, .nil, _ => .nil
  | _, _, .cons r t, f => .cons (f _ _ r) (Paired.imp t f)
theorem Paired.at {α β : Type} {F : α → β → Prop} : ∀ {xs : List α} {ys : List β}, Paired F xs ys → ∀ {i : Nat} {x : α}, xs[i]? = some x → ∃ y, ys[i]? = some y ∧ F x y
  | _, _, .nil, i, x, h => by cases h
  | _, _, .cons r t, 0, x, h => by
    have e := Option.some.inj h
    subst e
    exact ⟨_, rfl, r⟩
  | _, _, .cons r t, i + 1, x, h => Paired.at t h
theorem Paired.snoc {α β : Type} {F : α → β → Prop} {x : α} {y : β} (r : F x y) : ∀ {xs : List α} {ys : List β}, Paired F xs ys → Paired F (xs ++ [x]) (ys ++ [y])
  | _, _, .nil => .cons r .nil
  | _, _, .cons h t => .cons h (Paired.snoc r t)
theorem LinesAt.same {K : PySem.W.Frag} {H H' : Hp} {ts : List Addr} {ls : List (Nat × Nat × Int)} (h : LinesAt K H ts ls) (e : Same H H') : LinesAt K H' ts ls := Paired.imp h fun _ _ q => same_tup e q
/-- a Net stands at p -/
def NetAt (K : PySem.W.Frag) (C : Addr) (H : Hp) (p : Addr) (N : NetD) : Prop := ∃ (dx lk ll ld : Addr) (ts : List Addr), H p = some (.ins C dx (netF lk ll N.pr N.er ld)) ∧ H lk = some (.lst (N.ks.map kindV)) ∧ H ll = some (.lst (ts.map V.ref)) ∧
  LinesAt K H ts N.ls ∧ H ld = some (.dT (delaysOf N.ls))
theorem NetAt.same {K : PySem.W.Frag} {C : Addr} {H H' : Hp} {p : Addr} {N : NetD} (h : NetAt K C H p N) (e : Same H H') : NetAt K C H' p N := by
  obtain ⟨dx, lk, ll, ld, ts, h1, h2, h3, h4, h5⟩ := h
  exact ⟨dx, lk, ll, ld, ts, e _ _ h1, e _ _ h2, e _ _ h3, h4.same e, e _ _ h5⟩
/-- all but p is kept -/
def But (p : Addr) (H H' : Hp) : Prop := ∀ b o, H b = some o → b ≠ p → H' b = some o
theorem But.trans {p : Addr} {H H1 H2 : Hp} (a : But p H H1) (b : But p H1 H2) : But p H H2 := fun c o h n => b c o (a c o h n) n
theorem But.seq {K : PySem.W.Frag} {p C dx a : Addr} {fs : List (Str × V)} {H H' : Hp} {xs : List V} (h : But p H H') (hp : H p = some (.ins C dx fs)) (q : SqL K H a xs) : SqL K H' a xs := by
  rcases q with (q | ⟨o, q⟩) | q
  · exact .inl (.inl (h _ _ q (ne_of q hp (by intro z; cases z))))
  · exact .inl (.inr ⟨o, h _ _ q (ne_of q hp (by intro z; cases z))⟩)
  · exact .inr q
theorem But.tup {K : PySem.W.Frag} {p C dx a : Addr} {fs : List (Str × V)} {H H' : Hp} {xs : List V} (h : But p H H') (hp : H p = some (.ins C dx fs)) (q : SqT K H a xs) : SqT K H' a xs := by
  rcases q with (q | ⟨o, q⟩) | q
  · exact .inl (.inl (h _ _ q (ne_of q hp (by intro z; cases z))))
  · exact .inl (.inr ⟨o, h _ _ q (ne_of q hp (by intro z; cases z))⟩)
  · exact .inr q
theorem but_new {p l : Addr} {o u : HO} {H : Hp} (nl : H l = none) : But p H (upd (upd H l o) p u) := fun b x e n => by
  rw [upd_ne n, upd_ne (ne_of_none e nl)]; exact e
theorem but_self {p : Addr} {u : HO} {H : Hp} : But p H (upd H p u) := fun b x e n => by
  rw [upd_ne n]; exact e
theorem but_app {p t : Addr} {o u : HO} {H : Hp} (nt : H t = none) : But p H (upd (upd H t o) p u) := but_new nt
theorem But.refl (p : Addr) (H : Hp) : But p H H := fun _ _ e _ => e
theorem But.tupL {K : PySem.W.Frag} {p a : Addr} {ys : List V} {H H' : Hp} {xs : List V} (h : But p H H') (hp : H p = some (.lst ys)) (q : SqT K H a xs) : SqT K H' a xs := by
  rcases q with (q | ⟨o, q⟩) | q
  · exact .inl (.inl (h _ _ q (ne_of q hp (by intro z; cases z))))
  · exact .inl (.inr ⟨o, h _ _ q (ne_of q hp (by intro z; cases z))⟩)
  · exact .inr q
theorem same_but {p : Addr} {H H1 H2 : Hp} (e : Same H H1) (n : H p = none) (h : But p H1 H2) : Same H H2 := fun b o q => h _ _ (e _ _ q) (ne_of_none q n)
theorem kind_sw {b : Bool} (h : kindV b = V.str "switch") : b = false := by
  cases b with
  | false => rfl
  | true => exact absurd h (by decide +kernel)
theorem kind_ho {b : Bool} (h : kindV b = V.str "host") : b = true := by
  cases b with
  | true => rfl
  | false => exact absurd h (by decide +kernel)
theorem kind_inj {a b : Bool} (h : kindV a = kindV b) : a = b := by
  cases a with
  | true => exact (kind_ho h.symm).symm
  | false => exact (kind_sw h.symm).symm
theorem atI_kind {ks : List Bool} {z : Int} {j : Nat} (e : z = (j : Int)) (h : j < ks.length) : atI (ks.map kindV) z = some (kindV (ks.getD j true)) := by
  rw [e]
  refine atI_nat ?_
  rw [List.getElem?_map, getD_at true h]
  rfl
/-- a line's nodes, the greater one first -/
def norm (l : Nat × Nat × Int) : Nat × Nat := if l.2.1 < l.1 then (l.1, l.2.1) else (l.2.1, l.1)
theorem norm_gt {a b : Nat} {d : Int} (h : b < a) : norm (a, b, d) = (a, b) := if_pos h
theorem norm_lt {a b : Nat} {d : Int} (h : b < a) : norm (b, a, d) = (a, b) := if_neg (by show ¬ a < b; omega)
structure LsOk (n : Nat) (ls : List (Nat × Nat × Int)) : Prop where
  nd : (ls.map norm).Nodup
  bd : ∀ l ∈ ls, (norm l).2 < (norm l).1 ∧ (norm l).1 < n
  dl : ∀ l ∈ ls, 0 ≤ l.2.2 ∧ l.2.2 ≤ 4
  few : ls.length ≤ 100
structure NetWf (N : NetD) : Prop where
  h0 : 2 ≤ N.ks.count true
  h1 : N.ks.count true ≤ 4
  s0 : 1 ≤ N.ks.count false
  s1 : N.ks.count false ≤ 3
  ls : LsOk N.ks.length N.ls
  p0 : 0 ≤ N.pr
  p1 : N.pr ≤ 2
  e0 : 0 ≤ N.er
  e1 : N.er ≤ 2
theorem len_count : ∀ ks : List Bool, ks.length = ks.count true + ks.count false
  | [] => rfl
  | b :: r => by
    have := len_count r
    rw [List.length_cons, List.count_cons, List.count_cons]
    cases b <;> simp <;> omega
theorem count_ins (ks : List Bool) (i : Nat) (b x : Bool) : (ks.take i ++ [b] ++ ks.drop i).count x = ks.count x + [b].count x := by
  have h : ks.count x = (ks.take i).count x + (ks.drop i).count x := by rw [← List.count_append, List.take_append_drop]
  rw [List.count_append, List.count_append, h]
  omega
theorem rep_flat {α : Type} (x : α) : ∀ n : Nat, (List.replicate n [x]).flatten = List.replicate n x
  | 0 => rfl
  | n + 1 => by rw [List.replicate_succ, List.flatten_cons, rep_flat x n]; rfl
/-- pairs of nodes as tuples -/
abbrev PairsAt (K : PySem.W.Frag) (H : Hp) (ts : List Addr) (ps : List (Nat × Nat)) : Prop := Paired (fun (t : Addr) (p : Nat × Nat) => SqT K H t [.int (p.1 : Int), .int (p.2 : Int)]) ts ps
theorem PairsAt.mono {K : PySem.W.Frag} {H H' : Hp} {ts : List Addr} {ps : List (Nat × Nat)} (h : PairsAt K H ts ps) (f : ∀ a ys, SqT K H a ys → SqT K H' a ys) : PairsAt K H' ts ps := Paired.imp h fun _ _ z => f _ _ z
theorem LinesAt.mono {K : PySem.W.Frag} {H H' : Hp} {ts : List Addr} {ps : List (Nat × Nat × Int)} (h : LinesAt K H ts ps) (f : ∀ a ys, SqT K H a ys → SqT K H' a ys) : LinesAt K H' ts ps := Paired.imp h fun _ _ z => f _ _ z
theorem PairsAt.snoc {K : PySem.W.Frag} {H : Hp} {ts : List Addr} {ps : List (Nat × Nat)} {t : Addr} {p : Nat × Nat} (h : PairsAt K H ts ps) (x : SqT K H t [.int (p.1 : Int), .int (p.2 : Int)]) : PairsAt K H (ts ++ [t]) (ps ++ [p]) := Paired.snoc (F := fun (t : Addr) (p : Nat × Nat) => SqT K H t [.int (p.1 : Int), .int (p.2 : Int)]) x h
theorem LinesAt.snoc {K : PySem.W.Frag} {H : Hp} {ts : List Addr} {ps : List (Nat × Nat × Int)} {t : Addr} {p : Nat × Nat × Int} (h : LinesAt K H ts ps) (x : SqT K H t (lineV p)) : LinesAt K H (ts ++ [t]) (ps ++ [p]) := Paired.snoc (F := fun (t : Addr) (l : Nat × Nat × Int) => SqT K H t (lineV l)) x h
structure PInv (ks : List Bool) (ps : List (Nat × Nat)) (a b : Nat) : Prop where
  nd : ps.Nodup
  ok : ∀ p ∈ ps, p.2 < p.1 ∧ p.1 < ks.length ∧ (p.1 < a ∨ (p.1 = a ∧ p.2 < b)) ∧ (ks.getD p.1 true = false ∨ ks.getD p.2 true = false)
  few : ps.length ≤ 7 * a + b
theorem nd_snoc' {α : Type} : ∀ {l : List α} {k : α}, l.Nodup → ¬ k ∈ l → (l ++ [k]).Nodup
  | [], k, _, _ => by simp
  | a :: r, k, h, hk => by
    obtain ⟨h1, h2⟩ := List.nodup_cons.mp h
    show (a :: (r ++ [k])).Nodup
    refine List.nodup_cons.mpr ⟨fun m => ?_, nd_snoc' h2 fun m => hk (List.mem_cons.mpr (Or.inr m))⟩
    rcases List.mem_append.mp m with q | q
    · exact h1 q
    · exact hk (List.mem_cons.mpr (Or.inl (List.mem_singleton.mp q).symm))
theorem PInv.nil {ks : List Bool} : PInv ks [] 0 0 := ⟨List.nodup_nil, fun p h => by (cases h), Nat.le_refl _⟩
theorem PInv.skip {ks : List Bool} {ps : List (Nat × Nat)} {a b : Nat} (h : PInv ks ps a b) : PInv ks ps a (b + 1) :=
  ⟨h.nd, fun p hp => let ⟨x, y, z, w⟩ := h.ok p hp; ⟨x, y, by omega, w⟩, by have := h.few; omega⟩
theorem PInv.next {ks : List Bool} {ps : List (Nat × Nat)} {a b : Nat} (h : PInv ks ps a b) (hb : b ≤ 7) : PInv ks ps (a + 1) 0 :=
  ⟨h.nd, fun p hp => let ⟨x, y, z, w⟩ := h.ok p hp; ⟨x, y, by omega, w⟩, by have := h.few; omega⟩
theorem PInv.snoc {ks : List Bool} {ps : List (Nat × Nat)} {a b : Nat} (h : PInv ks ps a b) (ha : a < ks.length) (hb : b < a) (hs : ks.getD a true = false ∨ ks.getD b true = false) : PInv ks (ps ++ [(a, b)]) a (b + 1) := by
  refine ⟨nd_snoc' h.nd fun m => ?_, fun p hp => ?_, by have := h.few; rw [List.length_append, List.length_singleton]; omega⟩
  · obtain ⟨_, _, z, _⟩ := h.ok _ m
    have z' : a < a ∨ (a = a ∧ b < b) := z
    omega
  · rcases List.mem_append.mp hp with q | q
    · obtain ⟨x, y, z, w⟩ := h.ok p q
      exact ⟨x, y, by omega, w⟩
    · rw [List.mem_singleton.mp q]
      exact ⟨hb, ha, .inr ⟨rfl, by show b < b + 1; omega⟩, hs⟩
/-- lines made from the first k pairs -/
structure LInv (ps : List (Nat × Nat)) (ls : List (Nat × Nat × Int)) (k : Nat) : Prop where
  nd : (ls.map norm).Nodup
  from_ : ∀ l ∈ ls, ∃ j, j < k ∧ ps[j]? = some (norm l)
  dl : ∀ l ∈ ls, 0 ≤ l.2.2 ∧ l.2.2 ≤ 4
  few : ls.length ≤ k
theorem LInv.nil {ps : List (Nat × Nat)} : LInv ps [] 0 := ⟨List.nodup_nil, fun p h => by (cases h), fun p h => by (cases h), Nat.le_refl _⟩
theorem LInv.skip {ps : List (Nat × Nat)} {ls : List (Nat × Nat × Int)} {k : Nat} (h : LInv ps ls k) : LInv ps ls (k + 1) :=
  ⟨h.nd, fun l hl => let ⟨j, x, y⟩ := h.from_ l hl; ⟨j, by omega, y⟩, h.dl, by have := h.few; omega⟩
theorem LInv.snoc {ps : List (Nat × Nat)} {ls : List (Nat × Nat × Int)} {k : Nat} {l : Nat × Nat × Int} (h : LInv ps ls k) (hp : ps.Nodup) (e : ps[k]? = some (norm l)) (d : 0 ≤ l.2.2 ∧ l.2.2 ≤ 4) : LInv ps (ls ++ [l]) (k + 1) := by
  refine ⟨?_, fun x hx => ?_, fun x hx => ?_, by have := h.few; rw [List.length_append, List.length_singleton]; omega⟩
  · rw [List.map_append]
    refine nd_snoc' h.nd fun m => ?_
    obtain ⟨x, hx, ex⟩ := List.mem_map.mp m
    obtain ⟨j, hj, ej⟩ := h.from_ x hx
    rw [ex] at ej
    have := nd_ix hp ej e
    omega
  · rcases List.mem_append.mp hx with q | q
    · obtain ⟨j, x1, y⟩ := h.from_ x q
      exact ⟨j, by omega, y⟩
    · rw [List.mem_singleton.mp q]
      exact ⟨k, by omega, e⟩
  · rcases List.mem_append.mp hx with q | q
    · exact h.dl x q
    · rw [List.mem_singleton.mp q]
      exact d
/-- .. and host pairs ahead of (a, b) -/
structure HInv (ks : List Bool) (ps : List (Nat × Nat)) (ls : List (Nat × Nat × Int)) (a b : Nat) : Prop where
  nd : (ls.map norm).Nodup
  from_ : ∀ l ∈ ls, norm l ∈ ps ∨ ((norm l).2 < (norm l).1 ∧ (norm l).1 < ks.length ∧ ((norm l).1 < a ∨ ((norm l).1 = a ∧ (norm l).2 < b)) ∧ ks.getD (norm l).1 true = true ∧ ks.getD (norm l).2 true = true)
  dl : ∀ l ∈ ls, 0 ≤ l.2.2 ∧ l.2.2 ≤ 4
  few : ls.length ≤ 100
theorem LInv.host {ks : List Bool} {ps : List (Nat × Nat)} {ls : List (Nat × Nat × Int)} {k : Nat} (h : LInv ps ls k) (hk : k ≤ 100) : HInv ks ps ls 0 0 :=
  ⟨h.nd, fun l hl => let ⟨j, _, y⟩ := h.from_ l hl; .inl (List.mem_of_getElem? y), h.dl, by have := h.few; omega⟩
theorem HInv.skip {ks : List Bool} {ps : List (Nat × Nat)} {ls : List (Nat × Nat × Int)} {a b : Nat} (h : HInv ks ps ls a b) : HInv ks ps ls a (b + 1) :=
  ⟨h.nd, fun l hl => (h.from_ l hl).imp id fun ⟨x, y, z, w⟩ => ⟨x, y, by omega, w⟩, h.dl, h.few⟩
theorem HInv.next {ks : List Bool} {ps : List (Nat × Nat)} {ls : List (Nat × Nat × Int)} {a b : Nat} (h : HInv ks ps ls a b) : HInv ks ps ls (a + 1) 0 :=
  ⟨h.nd, fun l hl => (h.from_ l hl).imp id fun ⟨x, y, z, w⟩ => ⟨x, y, by omega, w⟩, h.dl, h.few⟩
theorem HInv.snoc {ks : List Bool} {ps : List (Nat × Nat)} {ls : List (Nat × Nat × Int)} {a b c e : Nat} {d : Int} (h : HInv ks ps ls a b) (hp : PInv ks ps c e) (ha : a < ks.length) (hb : b < a) (h1 : ks.getD a true = true) (h2 : ks.getD b true = true) (hd : 0 ≤ d ∧ d ≤ 4) (hf : ls.length < 20) :
    HInv ks ps (ls ++ [(a, b, d)]) a (b + 1) := by
  have en : norm (a, b, d) = (a, b) := norm_gt hb
  refine ⟨?_, fun x hx => ?_, fun x hx => ?_, by rw [List.length_append, List.length_singleton]; omega⟩
  · rw [List.map_append]
    refine nd_snoc' h.nd fun m => ?_
    obtain ⟨x, hx, ex⟩ := List.mem_map.mp m
    rw [en] at ex
    rcases h.from_ x hx with q | ⟨_, _, z, _⟩
    · rw [ex] at q
      obtain ⟨_, _, _, w⟩ := hp.ok _ q
      have w' : ks.getD a true = false ∨ ks.getD b true = false := w
      rw [h1, h2] at w'
      rcases w' with w' | w' <;> cases w'
    · rw [ex] at z
      have z' : a < a ∨ (a = a ∧ b < b) := z
      omega
  · rcases List.mem_append.mp hx with q | q
    · exact (h.from_ x q).imp id fun ⟨x, y, z, w⟩ => ⟨x, y, by omega, w⟩
    · rw [List.mem_singleton.mp q, en]
      exact .inr ⟨hb, ha, .inr ⟨rfl, by show b < b + 1; omega⟩, h1, h2⟩
  · rcases List.mem_append.mp hx with q | q
    · exact h.dl x q
    · rw [List.mem_singleton.mp q]
      exact hd
theorem HInv.ok {ks : List Bool} {ps : List (Nat × Nat)} {ls : List (Nat × Nat × Int)} {a b c e : Nat} (h : HInv ks ps ls a b) (hp : PInv ks ps c e) : LsOk ks.length ls :=
  ⟨h.nd, fun l hl => by
    rcases h.from_ l hl with q | ⟨x, y, _⟩
    · obtain ⟨x, y, _⟩ := hp.ok _ q
      exact ⟨x, y⟩
    · exact ⟨x, y⟩, h.dl, h.few⟩
/-- rows as lists -/
abbrev RowsAt (H : Hp) (as : List Addr) (rs : List (List Nat)) : Prop := Paired (fun (a : Addr) (r : List Nat) => r ≠ [] ∧ H a = some (.lst (natsV r))) as rs
theorem RowsAt.mono {H H' : Hp} {as : List Addr} {rs : List (List Nat)} (h : RowsAt H as rs) (f : ∀ a r, r ≠ [] → H a = some (.lst (natsV r)) → H' a = some (.lst (natsV r))) : RowsAt H' as rs := Paired.imp h fun _ _ z => ⟨z.1, f _ _ z.1 z.2⟩
theorem RowsAt.snoc {H : Hp} {as : List Addr} {rs : List (List Nat)} {a : Addr} {r : List Nat} (h : RowsAt H as rs) (n : r ≠ []) (e : H a = some (.lst (natsV r))) : RowsAt H (as ++ [a]) (rs ++ [r]) := Paired.snoc (F := fun (a : Addr) (r : List Nat) => r ≠ [] ∧ H a = some (.lst (natsV r))) ⟨n, e⟩ h
theorem RowsAt.same {H H' : Hp} {as : List Addr} {rs : List (List Nat)} (h : RowsAt H as rs) (e : Same H H') : RowsAt H' as rs := h.mono fun _ _ _ z => e _ _ z
/-- a row's list is no list of objects -/
theorem row_ne {H : Hp} {a p : Addr} {r : List Nat} {fs : List Addr} (n : r ≠ []) (h : H a = some (.lst (natsV r))) (hp : H p = some (.lst (fs.map V.ref))) : a ≠ p := by
  refine ne_of h hp fun e => ?_
  injection e with e
  cases r with
  | nil => exact n rfl
  | cons x r =>
    cases fs with
    | nil => cases e
    | cons y t =>
      unfold natsV at e
      rw [List.map_cons, List.map_cons] at e
      injection e with e1 _
      cases e1
theorem RowsAt.but {H H' : Hp} {as fs : List Addr} {rs : List (List Nat)} {p : Addr} (h : RowsAt H as rs) (hp : H p = some (.lst (fs.map V.ref))) (e : But p H H') : RowsAt H' as rs := h.mono fun _ _ n z => e _ _ z (row_ne n z hp)
/-- the class's facts -/
structure NetC (K : PySem.W.Frag) (C : Addr) : Prop where
  cl : Cls K C
  n1 : NoAttr K C "kinds"
  n2 : NoAttr K C "lines"
  n3 : NoAttr K C "processing"
  n4 : NoAttr K C "error"
  n5 : NoAttr K C "_delays"
end My
/-! A search level by level, as data. No row. -/
namespace My
open PySem PySem.Spec PyProof.Rows L2
abbrev Ways := Nat → Option (List Nat)
def setW (W : Ways) (v : Nat) (r : List Nat) : Ways := fun x => if x = v then some r else W x
def visit (u : Nat) (st : Ways × List Nat) (v : Nat) : Ways × List Nat :=
  if (st.1 v).isSome = true then st else (setW st.1 v ((st.1 u).getD [] ++ [v]), st.2 ++ [v])
def levStep (A : Nat → List Nat) (st : Ways × List Nat) : Ways × List Nat := st.2.foldl (fun s u => (A u).foldl (visit u) s) (st.1, [])
def lev (A : Nat → List Nat) (s : Nat) : Nat → Ways × List Nat
  | 0 => (fun x => if x = s then some [s] else none, [s])
  | t + 1 => levStep A (lev A s t)
theorem foldl_take {α β : Type} (f : β → α → β) {l : List α} {i : Nat} {a : α} (b : β) (h : l[i]? = some a) : (l.take (i + 1)).foldl f b = f ((l.take i).foldl f b) a := by
  rw [take_snoc h, List.foldl_append]
  rfl
theorem nodup_lt : ∀ (n : Nat) (l : List Nat), l.Nodup → (∀ x ∈ l, x < n) → l.length ≤ n
  | 0, l, _, h => by
    cases l with
    | nil => exact Nat.le_refl _
    | cons x r => exact absurd (h x List.mem_cons_self) (Nat.not_lt_zero _)
  | n + 1, l, hd, h => by
    by_cases hn : n ∈ l
    · have h1 := nodup_lt n (l.erase n) (hd.erase n) fun x hx => by
        have := (List.Nodup.mem_erase_iff hd).mp hx
        have := h x this.2
        omega
      rw [List.length_erase_of_mem hn] at h1
      omega
    · have h1 := nodup_lt n l hd fun x hx => by
        have := h x hx
        have : x ≠ n := fun z => hn (z ▸ hx)
        omega
      omega
/-- what a level's list is -/
structure Prog (n : Nat) (st : Ways × List Nat) : Prop where
  nd : st.2.Nodup
  lt : ∀ v ∈ st.2, v < n ∧ (st.1 v).isSome = true
theorem Prog.len {n : Nat} {st : Ways × List Nat} (h : Prog n st) : st.2.length ≤ n := nodup_lt n _ h.nd fun x hx => (h.lt x hx).1
theorem visit_some {u v : Nat} {st : Ways × List Nat} (h : (st.1 v).isSome = true) : visit u st v = st := if_pos h
theorem visit_none {u v : Nat} {st : Ways × List Nat} (h : ¬ (st.1 v).isSome = true) : visit u st v = (setW st.1 v ((st.1 u).getD [] ++ [v]), st.2 ++ [v]) := if_neg h
theorem visit_keep {u v x : Nat} {st : Ways × List Nat} {r : List Nat} (h : st.1 x = some r) : (visit u st v).1 x = some r := by
  by_cases e : (st.1 v).isSome = true
  · rw [visit_some e]; exact h
  · rw [visit_none e]
    show setW st.1 v _ x = some r
    unfold setW
    rw [if_neg fun z => e (by rw [← z, h]; rfl)]
    exact h
theorem Prog.visit {n u v : Nat} {st : Ways × List Nat} (h : Prog n st) (hv : v < n) : Prog n (visit u st v) := by
  by_cases e : (st.1 v).isSome = true
  · rw [visit_some e]; exact h
  · have hk : ∀ x, (st.1 x).isSome = true → ((My.visit u st v).1 x).isSome = true := fun x hx => by
      obtain ⟨r, hr⟩ := Option.isSome_iff_exists.mp hx
      rw [visit_keep hr]; rfl
    refine ⟨?_, fun x hx => ?_⟩
    · rw [visit_none e]
      exact nd_snoc' h.nd fun m => e (h.lt v m).2
    · have hx2 : x ∈ st.2 ++ [v] := by rw [visit_none e] at hx; exact hx
      rcases List.mem_append.mp hx2 with q | q
      · exact ⟨(h.lt x q).1, hk x (h.lt x q).2⟩
      · rw [List.mem_singleton.mp q]
        refine ⟨hv, ?_⟩
        rw [visit_none e]
        show (setW st.1 v _ v).isSome = true
        unfold setW
        rw [if_pos rfl]
        rfl
theorem Prog.fold {n u : Nat} : ∀ (l : List Nat) {st : Ways × List Nat}, Prog n st → (∀ v ∈ l, v < n) → Prog n (l.foldl (My.visit u) st)
  | [], _, h, _ => h
  | v :: r, _, h, hl => Prog.fold r (h.visit (hl v List.mem_cons_self)) fun x hx => hl x (List.mem_cons_of_mem _ hx)
theorem Prog.fold2 {n : Nat} {A : Nat → List Nat} : ∀ (l : List Nat) {st : Ways × List Nat}, Prog n st → (∀ u ∈ l, ∀ v ∈ A u, v < n) → Prog n (l.foldl (fun s u => (A u).foldl (My.visit u) s) st)
  | [], _, h, _ => h
  | u :: r, _, h, hl => Prog.fold2 r (h.fold (A u) (hl u List.mem_cons_self)) fun x hx => hl x (List.mem_cons_of_mem _ hx)
theorem keep_fold {u x : Nat} {r : List Nat} : ∀ (l : List Nat) {st : Ways × List Nat}, st.1 x = some r → (l.foldl (My.visit u) st).1 x = some r
  | [], _, h => h
  | v :: t, _, h => keep_fold t (visit_keep h)
theorem keep_fold2 {A : Nat → List Nat} {x : Nat} {r : List Nat} : ∀ (l : List Nat) {st : Ways × List Nat}, st.1 x = some r → (l.foldl (fun s u => (A u).foldl (My.visit u) s) st).1 x = some r
  | [], _, h => h
  | u :: t, _, h => keep_fold2 t (keep_fold (A u) h)
theorem lev_prog {A : Nat → List Nat} {s n : Nat} (hs : s < n) (hA : ∀ a, a < n → ∀ b ∈ A a, b < n) : ∀ t, Prog n (lev A s t)
  | 0 => ⟨by show [s].Nodup; simp, fun v hv => by
      have hv : v ∈ [s] := hv
      rw [List.mem_singleton.mp hv]
      exact ⟨hs, by show (if s = s then some [s] else none).isSome = true; rw [if_pos rfl]; rfl⟩⟩
  | t + 1 => by
    have ih := lev_prog hs hA t
    exact Prog.fold2 (st := ((lev A s t).1, [])) _ ⟨List.nodup_nil, fun v hv => by cases hv⟩ fun u hu => hA u (ih.lt u hu).1
theorem lev_end {A : Nat → List Nat} {s t : Nat} (h : (lev A s t).2 = []) : ∀ k, lev A s (t + k) = ((lev A s t).1, []) ∨ k = 0
  | 0 => .inr rfl
  | k + 1 => by
    refine .inl ?_
    show levStep A (lev A s (t + k)) = _
    rcases lev_end h k with e | e
    · rw [e]
      rfl
    · rw [e]
      unfold levStep
      rw [Nat.add_zero, h]
      rfl
theorem lev_same {A : Nat → List Nat} {s t T : Nat} (h : (lev A s t).2 = []) (ht : t ≤ T) : (lev A s T).1 = (lev A s t).1 := by
  obtain ⟨k, rfl⟩ : ∃ k, T = t + k := ⟨T - t, by omega⟩
  rcases lev_end h k with e | e
  · rw [e]
  · rw [e]; rfl
/-! ### how the heap bears them -/
def ArcsAt (H : Hp) (d : Addr) (A : Nat → List Nat) (n : Nat) : Prop := ∃ kvs : List (Key × V), H d = some (.dK kvs) ∧ ∀ a, a < n → ∃ l, valV kvs (Sum.inl (a : Int)) = some (.ref l) ∧ H l = some (.lst (natsV (A a)))
theorem ArcsAt.same {H H' : Hp} {d : Addr} {A : Nat → List Nat} {n : Nat} (h : ArcsAt H d A n) (e : Same H H') : ArcsAt H' d A n := by
  obtain ⟨kvs, h1, h2⟩ := h
  exact ⟨kvs, e _ _ h1, fun a ha => let ⟨l, x, y⟩ := h2 a ha; ⟨l, x, e _ _ y⟩⟩
/-- the dict of ways; no way's list is q -/
def WaysAt (H0 H : Hp) (d : Addr) (W : Ways) (m : Nat) (q : Addr) : Prop := ∃ kvs : List (Key × V), H d = some (.dK kvs) ∧ kvs.length ≤ m ∧ (∀ v, W v = none → valV kvs (Sum.inl (v : Int)) = none) ∧
  ∀ v r, W v = some r → r.length ≤ kvs.length ∧ ∃ l, valV kvs (Sum.inl (v : Int)) = some (.ref l) ∧ H l = some (.lst (natsV r)) ∧ H0 l = none ∧ l ≠ q
def WayV (H0 H : Hp) (o : Option (List Nat)) (v : V) : Prop := match o with
  | none => v = .non
  | some r => ∃ l, v = .ref l ∧ H0 l = none ∧ H l = some (.lst (natsV r))
theorem WaysAt.get {H0 H : Hp} {d : Addr} {W : Ways} {m : Nat} {q : Addr} (h : WaysAt H0 H d W m q) (v : Nat) : ∃ o, DGet H d (.int (v : Int)) o ∧ o.isSome = (W v).isSome ∧ WayV H0 H (W v) (o.getD .non) := by
  obtain ⟨kvs, h1, _, h2, h3⟩ := h
  refine ⟨valV kvs (Sum.inl (v : Int)), DGet.k (k := Sum.inl (v : Int)) h1, ?_, ?_⟩
  · cases e : W v with
    | none => rw [h2 v e]; rfl
    | some r =>
      obtain ⟨_, l, x, _⟩ := h3 v r e
      rw [x]
      rfl
  · cases e : W v with
    | none => rw [h2 v e]; rfl
    | some r =>
      obtain ⟨_, l, x, y, z, _⟩ := h3 v r e
      rw [x]
      exact ⟨l, rfl, z, y⟩
theorem WaysAt.mono {H0 H H' : Hp} {d : Addr} {W : Ways} {m : Nat} {q q' : Addr} (h : WaysAt H0 H d W m q) (hd : ∀ kvs, H d = some (.dK kvs) → H' d = some (.dK kvs)) (hl : ∀ l r, l ≠ q → H l = some (.lst (natsV r)) → H' l = some (.lst (natsV r)) ∧ l ≠ q') : WaysAt H0 H' d W m q' := by
  obtain ⟨kvs, h1, h2, h3, h4⟩ := h
  refine ⟨kvs, hd _ h1, h2, h3, fun v r e => ?_⟩
  obtain ⟨a, l, x, y, z, n⟩ := h4 v r e
  exact ⟨a, l, x, (hl l r n y).1, z, (hl l r n y).2⟩
theorem WaysAt.put {H0 H : Hp} {d : Addr} {W : Ways} {m : Nat} {q : Addr} {v : Nat} {r : List Nat} {l : Addr} {kvs : List (Key × V)} (h : WaysAt H0 H d W m q) (hd : H d = some (.dK kvs)) (hv : W v = none) (hr : r.length ≤ kvs.length + 1) (hl : H l = some (.lst (natsV r))) (h0 : H0 l = none) (hq : l ≠ q) :
    WaysAt H0 (upd H d (.dK (putK kvs (Sum.inl (v : Int)) (.ref l)))) d (setW W v r) (m + 1) q := by
  obtain ⟨kvs', h1, h2, h3, h4⟩ := h
  rw [hd] at h1
  cases h1
  have en := putK_new (V.ref l) (h3 v hv)
  have key : ∀ x : Nat, ((Sum.inl (x : Int) : Key) = Sum.inl (v : Int)) ↔ x = v := fun x => ⟨fun z => by injection z with z; omega, fun z => by rw [z]⟩
  have nd : ∀ (l' : Addr) (r' : List Nat), H l' = some (.lst (natsV r')) → l' ≠ d := fun l' r' e => ne_of e hd (by intro z; cases z)
  refine ⟨_, upd_same, by rw [en, List.length_append, List.length_singleton]; omega, fun x hx => ?_, fun x r' hx => ?_⟩
  · unfold setW at hx
    by_cases e : x = v
    · rw [if_pos e] at hx; cases hx
    · rw [if_neg e] at hx
      rw [valV_put, if_neg fun z => e ((key x).mp z)]
      exact h3 x hx
  · unfold setW at hx
    by_cases e : x = v
    · rw [if_pos e] at hx
      cases hx
      refine ⟨by rw [en, List.length_append, List.length_singleton]; exact hr, l, ?_, by rw [upd_ne (nd l r hl)]; exact hl, h0, hq⟩
      rw [valV_put, if_pos ((key x).mpr e)]
    · rw [if_neg e] at hx
      obtain ⟨a, l', x', y, z, n⟩ := h4 x r' hx
      refine ⟨by rw [en, List.length_append, List.length_singleton]; omega, l', ?_, by rw [upd_ne (nd l' r' y)]; exact y, z, n⟩
      rw [valV_put, if_neg fun z => e ((key x).mp z)]
      exact x'
end My
/-! The rows found one by one, and the search level by level: the same shortest rows. No row of Lean's, no Python. -/
namespace My
open PySem PySem.Spec PyProof.Rows L2
/-! ### order -/
def lexlt : List Nat → List Nat → Prop
  | x :: xs, y :: ys => x < y ∨ (x = y ∧ lexlt xs ys)
  | _, _ => False
theorem lex_irr : ∀ x : List Nat, ¬ lexlt x x
  | [], h => h
  | x :: xs, h => by
    rcases h with h | ⟨_, h⟩
    · omega
    · exact lex_irr xs h
theorem lex_trans : ∀ {x y z : List Nat}, lexlt x y → lexlt y z → lexlt x z
  | [], _, _, h, _ => h.elim
  | _ :: _, [], _, h, _ => h.elim
  | _ :: _, _ :: _, [], _, h => h.elim
  | a :: x, b :: y, c :: z, h1, h2 => by
    rcases h1 with h1 | ⟨e1, h1⟩ <;> rcases h2 with h2 | ⟨e2, h2⟩
    · exact .inl (by omega)
    · exact .inl (by omega)
    · exact .inl (by omega)
    · exact .inr ⟨by omega, lex_trans h1 h2⟩
theorem lex_app1 : ∀ {x y : List Nat} (s t : List Nat), lexlt x y → lexlt (x ++ s) (y ++ t)
  | [], _, _, _, h => h.elim
  | _ :: _, [], _, _, h => h.elim
  | a :: x, b :: y, s, t, h => by
    rcases h with h | ⟨e, h⟩
    · exact .inl h
    · exact .inr ⟨e, lex_app1 s t h⟩
theorem lex_app2 : ∀ (x : List Nat) {s t : List Nat}, lexlt s t → lexlt (x ++ s) (x ++ t)
  | [], _, _, h => h
  | a :: x, _, _, h => .inr ⟨rfl, lex_app2 x h⟩
theorem lex_one {b c : Nat} (h : b < c) (x : List Nat) : lexlt (x ++ [b]) (x ++ [c]) := lex_app2 x (.inl h)
/-- fewer nodes, or as many and lexicographically less -/
def rlt (x y : List Nat) : Prop := x.length < y.length ∨ (x.length = y.length ∧ lexlt x y)
def rle (x y : List Nat) : Prop := x = y ∨ rlt x y
theorem rlt_irr (x : List Nat) : ¬ rlt x x := fun h => by
  rcases h with h | ⟨_, h⟩
  · omega
  · exact lex_irr x h
theorem rlt_trans {x y z : List Nat} (h1 : rlt x y) (h2 : rlt y z) : rlt x z := by
  rcases h1 with h1 | ⟨e1, h1⟩ <;> rcases h2 with h2 | ⟨e2, h2⟩
  · exact .inl (by omega)
  · exact .inl (by omega)
  · exact .inl (by omega)
  · exact .inr ⟨by omega, lex_trans h1 h2⟩
/-! ### rows -/
inductive Row (N : NetD) (a : Nat) : List Nat → Prop
  | start : Row N a [a]
  | ext {r : List Nat} {b : Nat} : Row N a r → (r = [a] ∨ host N (lastN r) = false) → okb N r b = true → b < N.ks.length → Row N a (r ++ [b])
theorem lastN_app (r : List Nat) (b : Nat) : lastN (r ++ [b]) = b := by
  unfold lastN
  rw [List.length_append, List.length_singleton, Nat.add_sub_cancel, List.getD_eq_getElem?_getD, List.getElem?_append_right (Nat.le_refl _), Nat.sub_self]
  rfl
theorem lastN_one (a : Nat) : lastN [a] = a := rfl
theorem okb_mem {N : NetD} {r : List Nat} {b : Nat} (h : okb N r b = true) : b ∉ r ∧ adj N (lastN r) b = true := by
  unfold okb at h
  rw [Bool.and_eq_true, Bool.not_eq_true'] at h
  refine ⟨fun m => ?_, h.2⟩
  have := List.contains_iff_mem.mpr m
  rw [h.1] at this
  cases this
theorem okb_of {N : NetD} {r : List Nat} {b : Nat} (h1 : b ∉ r) (h2 : adj N (lastN r) b = true) : okb N r b = true := by
  unfold okb
  rw [Bool.and_eq_true, Bool.not_eq_true']
  refine ⟨?_, h2⟩
  cases e : r.contains b with
  | false => rfl
  | true => exact absurd (List.contains_iff_mem.mp e) h1
theorem Row.ne {N : NetD} {a : Nat} {r : List Nat} (h : Row N a r) : r ≠ [] := by
  cases h with
  | start => simp
  | ext => simp
theorem Row.pos {N : NetD} {a : Nat} {r : List Nat} (h : Row N a r) : 1 ≤ r.length := List.length_pos_iff.mpr h.ne
theorem Row.nodup {N : NetD} {a : Nat} {r : List Nat} (h : Row N a r) : r.Nodup := by
  induction h with
  | start => simp
  | ext _ _ o _ ih => exact nd_snoc' ih (okb_mem o).1
theorem Row.head {N : NetD} {a : Nat} {r : List Nat} (h : Row N a r) : r.head? = some a := by
  induction h with
  | start => rfl
  | ext h _ _ _ ih =>
    cases ‹List Nat› with
    | nil => exact absurd rfl h.ne
    | cons x t => exact ih
theorem Row.lt {N : NetD} {a : Nat} {r : List Nat} (h : Row N a r) (ha : a < N.ks.length) : ∀ x ∈ r, x < N.ks.length := by
  induction h with
  | start => intro x hx; rw [List.mem_singleton.mp hx]; exact ha
  | ext _ _ _ hb ih =>
    intro x hx
    rcases List.mem_append.mp hx with q | q
    · exact ih x q
    · rw [List.mem_singleton.mp q]; exact hb
theorem Row.mem_last {N : NetD} {a : Nat} {r : List Nat} (h : Row N a r) : lastN r ∈ r := by
  cases h with
  | start => exact List.mem_singleton.mpr rfl
  | ext => rw [lastN_app]; exact List.mem_append.mpr (.inr (List.mem_singleton.mpr rfl))
/-- a node of a row is the end of a row that is not longer -/
theorem Row.pre {N : NetD} {a : Nat} {r : List Nat} (h : Row N a r) : ∀ v ∈ r, ∃ x, Row N a x ∧ lastN x = v ∧ x.length ≤ r.length := by
  induction h with
  | start => intro v hv; exact ⟨[a], .start, (List.mem_singleton.mp hv).symm ▸ rfl, Nat.le_refl _⟩
  | @ext r b h1 h2 o hb ih =>
    intro v hv
    rcases List.mem_append.mp hv with q | q
    · obtain ⟨x, x1, x2, x3⟩ := ih v q
      exact ⟨x, x1, x2, by rw [List.length_append]; omega⟩
    · exact ⟨r ++ [b], .ext h1 h2 o hb, by rw [lastN_app, List.mem_singleton.mp q], Nat.le_refl _⟩
theorem Row.split {N : NetD} {a : Nat} {x : List Nat} (h : Row N a x) : x = [a] ∨ ∃ y b, x = y ++ [b] ∧ Row N a y ∧ (y = [a] ∨ host N (lastN y) = false) ∧ okb N y b = true ∧ b < N.ks.length := by
  cases h with
  | start => exact .inl rfl
  | ext h1 h2 o hb => exact .inr ⟨_, _, rfl, h1, h2, o, hb⟩
theorem Row.back {N : NetD} {a : Nat} {r : List Nat} (h : Row N a r) (e : lastN r = a) : r = [a] := by
  rcases h.split with z | ⟨y, b, rfl, h1, _, o, _⟩
  · exact z
  · rw [lastN_app] at e
    exact absurd (by rw [e]; exact List.mem_of_mem_head? h1.head) (okb_mem o).1
/-! ### what the law finds -/
theorem mem_rows {N : NetD} : ∀ (t : Nat) (r : List Nat), r ∈ rowsOf N t ↔ ∃ a, a < N.ks.length ∧ host N a = true ∧ Row N a r ∧ r.length = t + 1 ∧ (r = [a] ∨ host N (lastN r) = false)
  | 0, r => by
    constructor
    · intro h
      obtain ⟨a, ha, rfl⟩ := List.mem_map.mp h
      obtain ⟨h1, h2⟩ := List.mem_filter.mp ha
      exact ⟨a, List.mem_range.mp h1, h2, .start, rfl, .inl rfl⟩
    · rintro ⟨a, h1, h2, h3, h4, _⟩
      rcases h3.split with rfl | ⟨y, b, rfl, h5, _⟩
      · exact List.mem_map.mpr ⟨a, List.mem_filter.mpr ⟨List.mem_range.mpr h1, h2⟩, rfl⟩
      · have := h5.pos
        rw [List.length_append, List.length_singleton] at h4
        omega
  | t + 1, r => by
    constructor
    · intro h
      obtain ⟨y, hy, hr⟩ := List.mem_flatMap.mp h
      obtain ⟨a, h1, h2, h3, h4, h5⟩ := (mem_rows t y).mp hy
      obtain ⟨b, hb, rfl⟩ := List.mem_map.mp hr
      obtain ⟨b1, b2⟩ := List.mem_filter.mp hb
      rw [Bool.and_eq_true, Bool.not_eq_true'] at b2
      exact ⟨a, h1, h2, .ext h3 h5 b2.1 (List.mem_range.mp b1), by rw [List.length_append, h4]; rfl, .inr (by rw [lastN_app]; exact b2.2)⟩
    · rintro ⟨a, h1, h2, h3, h4, h5⟩
      rcases h3.split with rfl | ⟨y, b, rfl, h6, h7, o, hb⟩
      · cases h4
      · rw [List.length_append, List.length_singleton] at h4
        have hb2 : host N b = false := by
          rcases h5 with z | z
          · have w1 := congrArg List.length z
            rw [List.length_append, List.length_singleton, List.length_singleton] at w1
            omega
          · rw [lastN_app] at z; exact z
        exact List.mem_flatMap.mpr ⟨y, (mem_rows t y).mpr ⟨a, h1, h2, h6, by omega, h7⟩, List.mem_map.mpr ⟨b, List.mem_filter.mpr ⟨List.mem_range.mpr hb, by rw [o, hb2]; rfl⟩, rfl⟩⟩
theorem mem_found {N : NetD} : ∀ (t : Nat) (r : List Nat), r ∈ foundOf N t ↔ ∃ a, a < N.ks.length ∧ host N a = true ∧ Row N a r ∧ 2 ≤ r.length ∧ r.length ≤ t + 1 ∧ host N (lastN r) = true
  | 0, r => by
    constructor
    · intro h; cases h
    · rintro ⟨a, _, _, _, h1, h2, _⟩; omega
  | t + 1, r => by
    have ih := mem_found (N := N) t r
    constructor
    · intro h
      rcases List.mem_append.mp h with q | q
      · obtain ⟨a, h1, h2, h3, h4, h5, h6⟩ := ih.mp q
        exact ⟨a, h1, h2, h3, h4, by omega, h6⟩
      · obtain ⟨y, hy, hr⟩ := List.mem_flatMap.mp q
        obtain ⟨a, h1, h2, h3, h4, h5⟩ := (mem_rows t y).mp hy
        obtain ⟨b, hb, rfl⟩ := List.mem_map.mp hr
        obtain ⟨b1, b2⟩ := List.mem_filter.mp hb
        rw [Bool.and_eq_true] at b2
        refine ⟨a, h1, h2, .ext h3 h5 b2.1 (List.mem_range.mp b1), ?_, ?_, by rw [lastN_app]; exact b2.2⟩
        · rw [List.length_append, List.length_singleton]; omega
        · rw [List.length_append, List.length_singleton]; omega
    · rintro ⟨a, h1, h2, h3, h4, h5, h6⟩
      by_cases hl : r.length ≤ t + 1
      · exact List.mem_append.mpr (.inl (ih.mpr ⟨a, h1, h2, h3, h4, hl, h6⟩))
      · refine List.mem_append.mpr (.inr ?_)
        rcases h3.split with rfl | ⟨y, b, rfl, h7, h8, o, hb⟩
        · rw [List.length_singleton] at h4; omega
        · rw [lastN_app] at h6
          rw [List.length_append, List.length_singleton] at hl h5
          exact List.mem_flatMap.mpr ⟨y, (mem_rows t y).mpr ⟨a, h1, h2, h7, by omega, h8⟩, List.mem_map.mpr ⟨b, List.mem_filter.mpr ⟨List.mem_range.mpr hb, by rw [o, h6]; rfl⟩, rfl⟩⟩
theorem range_pw (n : Nat) : (List.range n).Pairwise (· < ·) := List.pairwise_lt_range
theorem ext_pw {p : Nat → Bool} (r : List Nat) (n : Nat) : (((List.range n).filter p).map fun b => r ++ [b]).Pairwise lexlt := by
  refine List.Pairwise.map _ (fun b c h => lex_one h r) ((range_pw n).filter p)
theorem flat_pw {f : List Nat → List (List Nat)} {l : List (List Nat)} (hl : l.Pairwise lexlt) (hf : ∀ r ∈ l, (f r).Pairwise lexlt) (hx : ∀ r, ∀ x ∈ f r, ∃ b, x = r ++ [b]) : (l.flatMap f).Pairwise lexlt := by
  rw [List.pairwise_flatMap]
  refine ⟨hf, List.Pairwise.imp (fun {r r'} h x hx1 y hy1 => ?_) hl⟩
  obtain ⟨b, rfl⟩ := hx r x hx1
  obtain ⟨c, rfl⟩ := hx r' y hy1
  exact lex_app1 _ _ h
theorem exS_ext {N : NetD} {r x : List Nat} (h : x ∈ exS N r) : ∃ b, x = r ++ [b] := by
  obtain ⟨b, _, rfl⟩ := List.mem_map.mp h
  exact ⟨b, rfl⟩
theorem exH_ext {N : NetD} {r x : List Nat} (h : x ∈ exH N r) : ∃ b, x = r ++ [b] := by
  obtain ⟨b, _, rfl⟩ := List.mem_map.mp h
  exact ⟨b, rfl⟩
theorem rows_pw {N : NetD} : ∀ t, (rowsOf N t).Pairwise lexlt
  | 0 => by
    show (((List.range N.ks.length).filter (host N)).map fun b => ([] : List Nat) ++ [b]).Pairwise lexlt
    exact ext_pw [] _
  | t + 1 => flat_pw (rows_pw t) (fun r _ => ext_pw r _) fun r x h => exS_ext h
theorem found_pw {N : NetD} : ∀ t, (foundOf N t).Pairwise rlt
  | 0 => List.Pairwise.nil
  | t + 1 => by
    show (foundOf N t ++ (rowsOf N t).flatMap (exH N)).Pairwise rlt
    have hlen : ∀ x ∈ (rowsOf N t).flatMap (exH N), x.length = t + 2 := fun x hx => by
      obtain ⟨y, hy, hr⟩ := List.mem_flatMap.mp hx
      obtain ⟨b, rfl⟩ := exH_ext hr
      rw [List.length_append, rows_row N t y hy]
      rfl
    rw [List.pairwise_append]
    refine ⟨found_pw t, ?_, fun x hx y hy => .inl ?_⟩
    · have h := flat_pw (f := exH N) (rows_pw (N := N) t) (fun r _ => ext_pw r _) fun r x h => exH_ext h
      refine List.Pairwise.imp_of_mem (fun {x y} hx hy h => .inr ⟨?_, h⟩) h
      rw [hlen x hx, hlen y hy]
    · obtain ⟨_, _, _, _, _, h5, _⟩ := (mem_found t x).mp hx
      rw [hlen y hy]
      omega
def matchP (a b : Nat) (r : List Nat) : Bool := (r.getD 0 0 == a) && (lastN r == b)
theorem row_matchP {N : NetD} {a b : Nat} {r : List Nat} (h : Row N a r) (e : lastN r = b) : matchP a b r = true := by
  unfold matchP
  rw [Bool.and_eq_true, beq_iff_eq, beq_iff_eq]
  refine ⟨?_, e⟩
  have := h.head
  cases r with
  | nil => cases this
  | cons x t => exact Option.some.inj this
theorem matchP_row {N : NetD} {a b c : Nat} {r : List Nat} (h : Row N c r) (m : matchP a b r = true) : c = a ∧ lastN r = b := by
  unfold matchP at m
  rw [Bool.and_eq_true, beq_iff_eq, beq_iff_eq] at m
  refine ⟨?_, m.2⟩
  have := h.head
  have m1 := m.1
  cases r with
  | nil => cases this
  | cons x t =>
    have e : x = c := Option.some.inj this
    rw [← e]
    exact m1
theorem find_first {l : List (List Nat)} {p : List Nat → Bool} {r : List Nat} (hs : l.Pairwise rlt) (hr : r ∈ l) (hp : p r = true) (hmin : ∀ x ∈ l, p x = true → rle r x) : l.find? p = some r := by
  induction l with
  | nil => cases hr
  | cons x t ih =>
    rw [List.find?_cons]
    rw [List.pairwise_cons] at hs
    cases hx : p x with
    | true =>
      show some x = some r
      rcases hmin x List.mem_cons_self hx with e | e
      · rw [e]
      · rcases List.mem_cons.mp hr with q | q
        · rw [q]
        · exact absurd (rlt_trans e (hs.1 r q)) (rlt_irr r)
    | false =>
      show t.find? p = some r
      rcases List.mem_cons.mp hr with q | q
      · rw [q, hx] at hp; cases hp
      · exact ih hs.2 q fun y hy => hmin y (List.mem_cons_of_mem _ hy)
end My
/-! The search level by level gives the least of the shortest rows. -/
namespace My
open PySem PySem.Spec PyProof.Rows L2
/-- a level's fold, pair by pair -/
def pairsOf (A : Nat → List Nat) (L : List Nat) : List (Nat × Nat) := L.flatMap fun u => (A u).map fun v => (u, v)
def visitP (st : Ways × List Nat) (p : Nat × Nat) : Ways × List Nat := visit p.1 st p.2
theorem foldl_pairs1 (u : Nat) : ∀ (l : List Nat) (st : Ways × List Nat), l.foldl (visit u) st = (l.map fun v => (u, v)).foldl visitP st
  | [], _ => rfl
  | v :: r, st => foldl_pairs1 u r (visit u st v)
theorem foldl_pairs (A : Nat → List Nat) : ∀ (L : List Nat) (st : Ways × List Nat), L.foldl (fun s u => (A u).foldl (visit u) s) st = (pairsOf A L).foldl visitP st
  | [], _ => rfl
  | u :: r, st => by
    show r.foldl _ ((A u).foldl (visit u) st) = _
    rw [foldl_pairs A r, foldl_pairs1]
    show _ = (((A u).map fun v => (u, v)) ++ pairsOf A r).foldl visitP st
    rw [List.foldl_append]
/-- the way that a pair gives -/
def wayP (W : Ways) (p : Nat × Nat) : List Nat := (W p.1).getD [] ++ [p.2]
/-- within a level: the pairs of `done` are through -/
structure Mid (W0 : Ways) (done : List (Nat × Nat)) (st : Ways × List Nat) : Prop where
  val : ∀ v, st.1 v = match W0 v with | some r => some r | none => (done.find? fun p => p.2 == v).map (wayP W0)
  mem : ∀ v, v ∈ st.2 ↔ W0 v = none ∧ (st.1 v).isSome = true
  ord : st.2.Pairwise fun v v' => ∀ r r', st.1 v = some r → st.1 v' = some r' → lexlt r r'
theorem Mid.start (W0 : Ways) : Mid W0 [] (W0, []) := by
  refine ⟨fun v => ?_, fun v => ⟨(fun h => by cases h), fun ⟨h1, h2⟩ => ?_⟩, List.Pairwise.nil⟩
  · show W0 v = _
    cases W0 v <;> rfl
  · have h2 : (W0 v).isSome = true := h2
    rw [h1] at h2
    cases h2
theorem Mid.step {W0 : Ways} {done : List (Nat × Nat)} {st : Ways × List Nat} {p : Nat × Nat} (h : Mid W0 done st) (hs : (done ++ [p]).Pairwise fun q q' => lexlt (wayP W0 q) (wayP W0 q')) (hu : (W0 p.1).isSome = true) : Mid W0 (done ++ [p]) (visitP st p) := by
  obtain ⟨u, v⟩ := p
  have hval := h.val v
  by_cases e : (st.1 v).isSome = true
  · have ev : visitP st (u, v) = st := visit_some e
    rw [ev]
    refine ⟨fun x => ?_, h.mem, h.ord⟩
    rw [h.val x]
    cases e0 : W0 x with
    | some r => rfl
    | none =>
      show (done.find? fun p => p.2 == x).map (wayP W0) = ((done ++ [(u, v)]).find? fun p => p.2 == x).map (wayP W0)
      rw [List.find?_append]
      cases e1 : done.find? fun p => p.2 == x with
      | some q => rfl
      | none =>
        have hx : ¬ v = x := fun z => by
          subst z
          rw [hval, e0, e1] at e
          cases e
        have : (v == x) = false := beq_eq_false_iff_ne.mpr hx
        show Option.map (wayP W0) none = Option.map (wayP W0) ([(u, v)].find? fun p => p.2 == x)
        rw [List.find?_cons, this]
        rfl
  · have en : st.1 v = none := by
      cases z : st.1 v with
      | none => rfl
      | some y => rw [z] at e; exact absurd rfl e
    have e0 : W0 v = none := by
      cases z : W0 v with
      | none => rfl
      | some y => rw [z] at hval; rw [hval] at en; cases en
    have e1 : (done.find? fun p => p.2 == v) = none := by
      rw [e0, en] at hval
      cases z : done.find? fun p => p.2 == v with
      | none => rfl
      | some y => rw [z] at hval; cases hval
    have eu : st.1 u = W0 u := by
      obtain ⟨r, hr⟩ := Option.isSome_iff_exists.mp hu
      have hr : W0 u = some r := hr
      rw [h.val u, hr]
    have ev : visitP st (u, v) = (setW st.1 v (wayP W0 (u, v)), st.2 ++ [v]) := by
      show visit u st v = _
      rw [visit_none e, eu]
      rfl
    rw [ev]
    have hne : ∀ x, x ∈ st.2 → ¬ x = v := fun x hx z => by
      have := ((h.mem x).mp hx).2
      rw [z, en] at this
      cases this
    refine ⟨fun x => ?_, fun x => ?_, ?_⟩
    · show setW st.1 v (wayP W0 (u, v)) x = _
      unfold setW
      by_cases ex : x = v
      · subst ex
        rw [if_pos rfl, e0]
        show some (wayP W0 (u, x)) = ((done ++ [(u, x)]).find? fun p => p.2 == x).map (wayP W0)
        rw [List.find?_append, e1, List.find?_cons, show (x == x) = true from beq_self_eq_true x]
        rfl
      · rw [if_neg ex, h.val x]
        cases W0 x with
        | some r => rfl
        | none =>
          show (done.find? fun p => p.2 == x).map (wayP W0) = ((done ++ [(u, v)]).find? fun p => p.2 == x).map (wayP W0)
          rw [List.find?_append]
          cases done.find? fun p => p.2 == x with
          | some q => rfl
          | none =>
            have : (v == x) = false := beq_eq_false_iff_ne.mpr fun z => ex z.symm
            show Option.map (wayP W0) none = Option.map (wayP W0) ([(u, v)].find? fun p => p.2 == x)
            rw [List.find?_cons, this]
            rfl
    · show x ∈ st.2 ++ [v] ↔ W0 x = none ∧ (setW st.1 v (wayP W0 (u, v)) x).isSome = true
      unfold setW
      rw [List.mem_append, List.mem_singleton]
      by_cases ex : x = v
      · subst ex
        rw [if_pos rfl]
        exact ⟨fun _ => ⟨e0, rfl⟩, fun _ => .inr rfl⟩
      · rw [if_neg ex, h.mem x]
        exact ⟨fun q => q.resolve_right ex, fun q => .inl q⟩
    · show (st.2 ++ [v]).Pairwise _
      rw [List.pairwise_append]
      refine ⟨List.Pairwise.imp_of_mem (fun {x y} hx hy hr r r' h1 h2 => ?_) h.ord, List.pairwise_singleton _ _, fun x hx y hy r r' h1 h2 => ?_⟩
      · have h1 : setW st.1 v (wayP W0 (u, v)) x = some r := h1
        have h2 : setW st.1 v (wayP W0 (u, v)) y = some r' := h2
        unfold setW at h1 h2
        rw [if_neg (hne x hx)] at h1
        rw [if_neg (hne y hy)] at h2
        exact hr r r' h1 h2
      · rw [List.mem_singleton.mp hy] at h2
        have h1 : setW st.1 v (wayP W0 (u, v)) x = some r := h1
        have h2 : setW st.1 v (wayP W0 (u, v)) v = some r' := h2
        unfold setW at h1 h2
        rw [if_neg (hne x hx)] at h1
        rw [if_pos rfl] at h2
        cases h2
        rw [h.val x, ((h.mem x).mp hx).1] at h1
        obtain ⟨q, hq, rfl⟩ := Option.map_eq_some_iff.mp h1
        have hqm : q ∈ done := List.mem_of_find?_eq_some hq
        rw [List.pairwise_append] at hs
        exact hs.2.2 q hqm (u, v) (List.mem_singleton.mpr rfl)
theorem Mid.fold {W0 : Ways} : ∀ (l done : List (Nat × Nat)) {st : Ways × List Nat}, Mid W0 done st → (done ++ l).Pairwise (fun q q' => lexlt (wayP W0 q) (wayP W0 q')) → (∀ p ∈ l, (W0 p.1).isSome = true) → Mid W0 (done ++ l) (l.foldl visitP st)
  | [], done, _, h, _, _ => by rw [List.append_nil]; exact h
  | p :: r, done, st, h, hs, hu => by
    have e : done ++ p :: r = (done ++ [p]) ++ r := by rw [List.append_assoc]; rfl
    rw [e] at hs ⊢
    refine Mid.fold r (done ++ [p]) (h.step ?_ (hu p List.mem_cons_self)) hs fun q hq => hu q (List.mem_cons_of_mem _ hq)
    exact (List.pairwise_append.mp hs).1
/-! ### the levels -/
def arcsOf (N : NetD) (first a : Nat) : List Nat := if decide (a = first) || !host N a then nbs N a else []
theorem arcs_pw (N : NetD) (a u : Nat) : (arcsOf N a u).Pairwise (· < ·) := by
  unfold arcsOf nbs
  split
  · exact (range_pw _).filter _
  · exact List.Pairwise.nil
theorem mem_arcs {N : NetD} {a u v : Nat} : v ∈ arcsOf N a u ↔ (u = a ∨ host N u = false) ∧ v < N.ks.length ∧ adj N u v = true := by
  unfold arcsOf nbs
  by_cases e : (decide (u = a) || !host N u) = true
  · rw [if_pos e, List.mem_filter, List.mem_range]
    rw [Bool.or_eq_true, decide_eq_true_eq, Bool.not_eq_true'] at e
    exact ⟨fun h => ⟨e, h⟩, fun h => h.2⟩
  · rw [if_neg e]
    rw [Bool.or_eq_true, decide_eq_true_eq, Bool.not_eq_true'] at e
    exact ⟨(fun h => by cases h), fun h => absurd h.1 e⟩
theorem rle_len {x y : List Nat} (h : rle x y) : x.length ≤ y.length := by
  rcases h with rfl | h | ⟨h, _⟩
  · exact Nat.le_refl _
  · omega
  · omega
structure Lv (N : NetD) (a t : Nat) (st : Ways × List Nat) : Prop where
  row : ∀ v r, st.1 v = some r → Row N a r ∧ lastN r = v ∧ r.length ≤ t + 1 ∧ ∀ x, Row N a x → lastN x = v → rle r x
  all : ∀ x, Row N a x → x.length ≤ t + 1 → (st.1 (lastN x)).isSome = true
  mem : ∀ u, u ∈ st.2 ↔ ∃ r, st.1 u = some r ∧ r.length = t + 1
  ord : st.2.Pairwise fun u u' => ∀ r r', st.1 u = some r → st.1 u' = some r' → lexlt r r'
theorem lv_zero (N : NetD) (a : Nat) : Lv N a 0 (lev (arcsOf N a) a 0) := by
  have ev : ∀ v, (lev (arcsOf N a) a 0).1 v = if v = a then some [a] else none := fun v => rfl
  refine ⟨fun v r h => ?_, fun x hx hl => ?_, fun u => ?_, List.pairwise_singleton _ _⟩
  · rw [ev] at h
    by_cases e : v = a
    · rw [if_pos e] at h
      cases h
      refine ⟨.start, e.symm ▸ rfl, Nat.le_refl _, fun x hx _ => ?_⟩
      rcases hx.split with rfl | ⟨y, b, rfl, h1, _⟩
      · exact .inl rfl
      · refine .inr (.inl ?_)
        have := h1.pos
        rw [List.length_append, List.length_singleton, List.length_singleton]
        omega
    · rw [if_neg e] at h; cases h
  · rcases hx.split with rfl | ⟨y, b, rfl, h1, _⟩
    · rw [lastN_one, ev, if_pos rfl]; rfl
    · have := h1.pos
      rw [List.length_append, List.length_singleton] at hl
      omega
  · show u ∈ [a] ↔ _
    rw [List.mem_singleton]
    constructor
    · intro e
      exact ⟨[a], by rw [ev, if_pos e], rfl⟩
    · rintro ⟨r, h, _⟩
      rw [ev] at h
      by_cases e : u = a
      · exact e
      · rw [if_neg e] at h; cases h
theorem mem_pairs {A : Nat → List Nat} {L : List Nat} {p : Nat × Nat} : p ∈ pairsOf A L ↔ p.1 ∈ L ∧ p.2 ∈ A p.1 := by
  unfold pairsOf
  rw [List.mem_flatMap]
  constructor
  · rintro ⟨u, hu, h⟩
    obtain ⟨v, hv, rfl⟩ := List.mem_map.mp h
    exact ⟨hu, hv⟩
  · rintro ⟨h1, h2⟩
    exact ⟨p.1, h1, List.mem_map.mpr ⟨p.2, h2, rfl⟩⟩
theorem pairs_pw {N : NetD} {a t : Nat} {st : Ways × List Nat} (h : Lv N a t st) : (pairsOf (arcsOf N a) st.2).Pairwise fun q q' => lexlt (wayP st.1 q) (wayP st.1 q') := by
  unfold pairsOf
  rw [List.pairwise_flatMap]
  refine ⟨fun u hu => ?_, List.Pairwise.imp_of_mem (fun {u u'} hu hu' hr p hp q hq => ?_) h.ord⟩
  · exact List.Pairwise.map _ (fun v v' hv => lex_one hv _) (arcs_pw N a u)
  · obtain ⟨v, _, rfl⟩ := List.mem_map.mp hp
    obtain ⟨v', _, rfl⟩ := List.mem_map.mp hq
    obtain ⟨r, h1, _⟩ := (h.mem u).mp hu
    obtain ⟨r', h2, _⟩ := (h.mem u').mp hu'
    unfold wayP
    show lexlt ((st.1 u).getD [] ++ [v]) ((st.1 u').getD [] ++ [v'])
    rw [h1, h2]
    exact lex_app1 _ _ (hr r r' h1 h2)
theorem find_least {W : Ways} {v : Nat} {p q : Nat × Nat} : ∀ {l : List (Nat × Nat)}, l.Pairwise (fun q q' => lexlt (wayP W q) (wayP W q')) → (l.find? fun p => p.2 == v) = some p → q ∈ l → q.2 = v → q = p ∨ lexlt (wayP W p) (wayP W q)
  | [], _, h, _, _ => by cases h
  | x :: t, hs, h, hq, e => by
    rw [List.pairwise_cons] at hs
    rw [List.find?_cons] at h
    cases hx : x.2 == v with
    | true =>
      rw [hx] at h
      cases h
      rcases List.mem_cons.mp hq with z | z
      · exact .inl z
      · exact .inr (hs.1 q z)
    | false =>
      rw [hx] at h
      rcases List.mem_cons.mp hq with z | z
      · rw [z] at e
        rw [e, beq_self_eq_true] at hx
        cases hx
      · exact find_least hs.2 h z e
theorem lv_succ {N : NetD} {a t : Nat} (ha : a < N.ks.length) (h : Lv N a t (lev (arcsOf N a) a t)) : Lv N a (t + 1) (lev (arcsOf N a) a (t + 1)) := by
  generalize hst : lev (arcsOf N a) a t = st at h
  have e1 : lev (arcsOf N a) a (t + 1) = (pairsOf (arcsOf N a) st.2).foldl visitP (st.1, []) := by
    show levStep (arcsOf N a) (lev (arcsOf N a) a t) = _
    rw [hst]
    exact foldl_pairs _ _ _
  have hL : ∀ p ∈ pairsOf (arcsOf N a) st.2, ∃ r, st.1 p.1 = some r ∧ r.length = t + 1 := fun p hp => (h.mem p.1).mp (mem_pairs.mp hp).1
  have M : Mid st.1 (pairsOf (arcsOf N a) st.2) ((pairsOf (arcsOf N a) st.2).foldl visitP (st.1, [])) := by
    have := Mid.fold (pairsOf (arcsOf N a) st.2) [] (Mid.start st.1) (by rw [List.nil_append]; exact pairs_pw h) fun p hp => by
      obtain ⟨r, hr, _⟩ := hL p hp
      rw [hr]; rfl
    rw [List.nil_append] at this
    exact this
  rw [e1]
  generalize hs2 : (pairsOf (arcsOf N a) st.2).foldl visitP (st.1, []) = st2 at M
  have hpw := pairs_pw h
  -- a node that is not yet there is in no row that is as short
  have notin : ∀ v, st.1 v = none → ∀ r, Row N a r → r.length ≤ t + 1 → v ∉ r := fun v hv r hr hl m => by
    obtain ⟨x, x1, x2, x3⟩ := hr.pre v m
    have := h.all x x1 (by omega)
    rw [x2, hv] at this
    cases this
  -- a row one longer comes from a pair
  have from_ : ∀ x, Row N a x → x.length ≤ t + 2 → st.1 (lastN x) = none → ∃ y b, x = y ++ [b] ∧ y.length = t + 1 ∧ ∃ r', st.1 (lastN y) = some r' ∧ r'.length = t + 1 ∧ rle r' y ∧ (lastN y, b) ∈ pairsOf (arcsOf N a) st.2 := fun x hx hl hv => by
    have hlen : ¬ x.length ≤ t + 1 := fun z => by
      have := h.all x hx z
      rw [hv] at this
      cases this
    rcases hx.split with rfl | ⟨y, b, rfl, y1, y2, o, hb⟩
    · rw [List.length_singleton] at hlen; omega
    · rw [List.length_append, List.length_singleton] at hl hlen
      rw [lastN_app] at hv
      have yl : y.length = t + 1 := by omega
      obtain ⟨r', hr'⟩ := Option.isSome_iff_exists.mp (h.all y y1 (by omega))
      obtain ⟨w1, w2, w3, w4⟩ := h.row _ _ hr'
      have hle := w4 y y1 rfl
      have hu : lastN y = a ∨ host N (lastN y) = false := y2.imp (fun z => by rw [z]; rfl) id
      have hadj := (okb_mem o).2
      have hr'l : r'.length = t + 1 := by
        rcases Nat.lt_or_ge r'.length (t + 1) with z | z
        · exfalso
          have hbn : b ∉ r' := notin b hv r' w1 w3
          have hx2 : Row N a (r' ++ [b]) := by
            refine .ext w1 ?_ (okb_of hbn (by rw [w2]; exact hadj)) hb
            rcases hu with q | q
            · exact .inl (w1.back (by rw [w2]; exact q))
            · exact .inr (by rw [w2]; exact q)
          have := h.all _ hx2 (by rw [List.length_append, List.length_singleton]; omega)
          rw [lastN_app, hv] at this
          cases this
        · omega
      exact ⟨y, b, rfl, yl, r', hr', hr'l, hle, mem_pairs.mpr ⟨(h.mem _).mpr ⟨r', hr', hr'l⟩, mem_arcs.mpr ⟨hu, hb, hadj⟩⟩⟩
  refine ⟨fun v r hr => ?_, fun x hx hl => ?_, fun u => ?_, M.ord⟩
  · rw [M.val v] at hr
    cases e0 : st.1 v with
    | some r0 =>
      rw [e0] at hr
      cases hr
      obtain ⟨w1, w2, w3, w4⟩ := h.row v r e0
      exact ⟨w1, w2, by omega, w4⟩
    | none =>
      rw [e0] at hr
      obtain ⟨p, hp, rfl⟩ := Option.map_eq_some_iff.mp hr
      have hpm := List.mem_of_find?_eq_some hp
      have hp2 : p.2 = v := by
        have := List.find?_some hp
        exact beq_iff_eq.mp this
      obtain ⟨ru, hru, hrul⟩ := hL p hpm
      obtain ⟨w1, w2, w3, w4⟩ := h.row p.1 ru hru
      obtain ⟨c1, c2, c3⟩ := mem_arcs.mp (mem_pairs.mp hpm).2
      have ew : wayP st.1 p = ru ++ [v] := by
        unfold wayP
        rw [hru, hp2]
        rfl
      rw [ew]
      have hvn : v ∉ ru := notin v e0 ru w1 w3
      have hrow : Row N a (ru ++ [v]) := by
        refine .ext w1 ?_ (okb_of hvn (by rw [w2, ← hp2]; exact c3)) (by rw [← hp2]; exact c2)
        rcases c1 with q | q
        · exact .inl (w1.back (by rw [w2]; exact q))
        · exact .inr (by rw [w2]; exact q)
      refine ⟨hrow, lastN_app _ _, by rw [List.length_append, List.length_singleton]; omega, fun x hx hv => ?_⟩
      by_cases hl : x.length ≤ t + 2
      · obtain ⟨y, b, rfl, yl, r', hr', hr'l, hle, hpair⟩ := from_ x hx hl (by rw [hv]; exact e0)
        rw [lastN_app] at hv
        have ewq : wayP st.1 (lastN y, b) = r' ++ [b] := by
          unfold wayP
          rw [hr']
          rfl
        have key : rle (ru ++ [v]) (r' ++ [b]) := by
          rcases find_least hpw hp hpair hv with z | z
          · rw [← ew, ← ewq, z]
            exact .inl rfl
          · rw [ew, ewq] at z
            exact .inr (.inr ⟨by rw [List.length_append, List.length_append, hrul, hr'l]; rfl, z⟩)
        have key2 : rle (r' ++ [b]) (y ++ [b]) := by
          rcases hle with z | z | ⟨_, z⟩
          · rw [z]; exact .inl rfl
          · omega
          · exact .inr (.inr ⟨by rw [List.length_append, List.length_append, yl, hr'l], lex_app1 _ _ z⟩)
        rcases key with z | z
        · rw [z]; exact key2
        · rcases key2 with z2 | z2
          · rw [← z2]; exact .inr z
          · exact .inr (rlt_trans z z2)
      · refine .inr (.inl ?_)
        rw [List.length_append, List.length_singleton]
        omega
  · rw [M.val]
    cases e0 : st.1 (lastN x) with
    | some r0 => rfl
    | none =>
      obtain ⟨y, b, rfl, yl, r', hr', hr'l, hle, hpair⟩ := from_ x hx hl e0
      rw [lastN_app]
      show (Option.map (wayP st.1) _).isSome = true
      rw [Option.isSome_map, List.find?_isSome]
      exact ⟨_, hpair, beq_iff_eq.mpr rfl⟩
  · rw [M.mem u]
    constructor
    · rintro ⟨e0, e2⟩
      have hv := M.val u
      rw [e0] at hv
      rw [hv] at e2
      obtain ⟨r, hr⟩ := Option.isSome_iff_exists.mp e2
      refine ⟨r, by rw [hv]; exact hr, ?_⟩
      obtain ⟨p, hp, rfl⟩ := Option.map_eq_some_iff.mp hr
      obtain ⟨ru, hru, hrul⟩ := hL p (List.mem_of_find?_eq_some hp)
      unfold wayP
      rw [hru, List.length_append]
      show ru.length + 1 = _
      rw [hrul]
    · rintro ⟨r, hr, hrl⟩
      refine ⟨?_, by rw [hr]; rfl⟩
      cases e0 : st.1 u with
      | none => rfl
      | some r0 =>
        have hv := M.val u
        rw [e0] at hv
        rw [hv] at hr
        cases hr
        obtain ⟨_, _, w3, _⟩ := h.row u r e0
        omega
theorem lv_all {N : NetD} {a : Nat} (ha : a < N.ks.length) : ∀ t, Lv N a t (lev (arcsOf N a) a t)
  | 0 => lv_zero N a
  | t + 1 => lv_succ ha (lv_all ha t)
/-- no level is longer than there are nodes -/
theorem lev_stop {N : NetD} {a : Nat} (ha : a < N.ks.length) : (lev (arcsOf N a) a N.ks.length).2 = [] := by
  have h := lv_all ha N.ks.length
  cases e : (lev (arcsOf N a) a N.ks.length).2 with
  | nil => rfl
  | cons u t =>
    obtain ⟨r, hr, hl⟩ := (h.mem u).mp (by rw [e]; exact List.mem_cons_self)
    obtain ⟨w1, _⟩ := h.row u r hr
    have := nodup_lt N.ks.length r w1.nodup (w1.lt ha)
    omega
/-- a row between hosts has at most two nodes more than there are switches -/
theorem nodup_sub : ∀ {l m : List Nat}, l.Nodup → (∀ x ∈ l, x ∈ m) → l.length ≤ m.length
  | [], _, _, _ => Nat.zero_le _
  | x :: l, m, hd, hs => by
    rw [List.nodup_cons] at hd
    have hx := hs x List.mem_cons_self
    have ih := nodup_sub (l := l) (m := m.erase x) hd.2 fun y hy => (List.mem_erase_of_ne (fun z => hd.1 (by rw [← z]; exact hy))).mpr (hs y (List.mem_cons_of_mem _ hy))
    rw [List.length_erase_of_mem hx] at ih
    have := List.length_pos_of_mem hx
    rw [List.length_cons]
    omega
theorem count_range (p : Nat → Bool) (ks : List Bool) (off : Nat) (hp : ∀ i, i < ks.length → p (off + i) = !(ks.getD i true)) : ((List.range' off ks.length).filter p).length = ks.count false := by
  induction ks generalizing off with
  | nil => rfl
  | cons b r ih =>
    have h0 := hp 0 (by rw [List.length_cons]; omega)
    have h0 : p off = !b := h0
    have ih := ih (off + 1) fun i hi => by
      have := hp (i + 1) (by rw [List.length_cons]; omega)
      rw [show off + 1 + i = off + (i + 1) by omega, this]
      rfl
    rw [List.length_cons, List.range'_succ, List.filter_cons, List.count_cons, h0]
    cases b with
    | true =>
      show ((List.range' (off + 1) r.length).filter p).length = _
      rw [ih]
      rfl
    | false =>
      show ((List.range' (off + 1) r.length).filter p).length + 1 = _
      rw [ih]
      rfl
theorem switches_len (N : NetD) : ((List.range N.ks.length).filter fun a => !host N a).length = N.ks.count false := by
  rw [List.range_eq_range']
  refine count_range _ N.ks 0 fun i _ => ?_
  unfold host
  rw [Nat.zero_add]
/-- all but the first and the last are switches -/
theorem Row.inner {N : NetD} {a : Nat} {r : List Nat} (h : Row N a r) (ha : a < N.ks.length) : ∃ m, (r = [a] ∧ m = []) ∨ (∃ b, r = a :: (m ++ [b])) ∧ m.Nodup ∧ ∀ x ∈ m, x < N.ks.length ∧ host N x = false := by
  induction h with
  | start => exact ⟨[], .inl ⟨rfl, rfl⟩⟩
  | @ext r b h1 h2 o hb ih =>
    obtain ⟨m, z⟩ := ih
    rcases z with ⟨z, _⟩ | ⟨⟨c, z⟩, m1, m2⟩
    · exact ⟨[], .inr ⟨⟨b, by rw [z]; rfl⟩, List.nodup_nil, fun x hx => by cases hx⟩⟩
    · refine ⟨m ++ [c], .inr ⟨⟨b, by rw [z]; rfl⟩, ?_, ?_⟩⟩
      · have := h1.nodup
        rw [z, List.nodup_cons] at this
        exact this.2
      · intro x hx
        rcases List.mem_append.mp hx with q | q
        · exact m2 x q
        · rw [List.mem_singleton.mp q]
          have hl : lastN r = c := by
            rw [z]
            exact lastN_app (a :: m) c
          refine ⟨h1.lt ha c (by rw [z]; simp), ?_⟩
          rcases h2 with y | y
          · rw [z] at y
            have := congrArg List.length y
            rw [List.length_cons, List.length_append] at this
            simp at this
          · rw [← hl]; exact y
theorem Row.short {N : NetD} {a : Nat} {r : List Nat} (h : Row N a r) (ha : a < N.ks.length) : r.length ≤ N.ks.count false + 2 := by
  obtain ⟨m, z⟩ := h.inner ha
  rcases z with ⟨z, _⟩ | ⟨⟨b, z⟩, m1, m2⟩
  · rw [z, List.length_singleton]; omega
  · have := nodup_sub (m := (List.range N.ks.length).filter fun a => !host N a) m1 fun x hx => by
      obtain ⟨y1, y2⟩ := m2 x hx
      exact List.mem_filter.mpr ⟨List.mem_range.mpr y1, by rw [y2]; rfl⟩
    rw [switches_len] at this
    rw [z, List.length_cons, List.length_append, List.length_singleton]
    omega
/-- THE POINT: the search's way is the first row found -/
theorem way_is_found {N : NetD} {a b T : Nat} (ha : a < N.ks.length) (ha2 : host N a = true) (hb : host N b = true) (hab : a ≠ b) (hT : N.ks.count false + 1 ≤ T) : (lev (arcsOf N a) a N.ks.length).1 b = (foundOf N T).find? (matchP a b) := by
  have h := lv_all ha N.ks.length
  have two : ∀ x, Row N a x → lastN x = b → 2 ≤ x.length := fun x hx e => by
    rcases hx.split with rfl | ⟨y, c, rfl, y1, _⟩
    · exact absurd e hab
    · have := y1.pos
      rw [List.length_append, List.length_singleton]
      omega
  have inF : ∀ x, Row N a x → lastN x = b → x ∈ foundOf N T := fun x hx e => by
    have := hx.short ha
    exact (mem_found _ _).mpr ⟨a, ha, ha2, hx, two x hx e, by omega, by rw [e]; exact hb⟩
  cases e : (lev (arcsOf N a) a N.ks.length).1 b with
  | none =>
    symm
    rw [List.find?_eq_none]
    intro x hx m
    obtain ⟨c, _, _, h3, _⟩ := (mem_found _ _).mp hx
    obtain ⟨rfl, e2⟩ := matchP_row h3 m
    have := h.all x h3 (by have := nodup_lt N.ks.length x h3.nodup (h3.lt ha); omega)
    rw [e2, e] at this
    cases this
  | some r =>
    obtain ⟨w1, w2, w3, w4⟩ := h.row b r e
    symm
    refine find_first (found_pw T) (inF r w1 w2) (row_matchP w1 w2) fun x hx m => ?_
    obtain ⟨c, _, _, h3, _⟩ := (mem_found _ _).mp hx
    obtain ⟨rfl, e2⟩ := matchP_row h3 m
    exact w4 x h3 e2
end My
/-! Rows as data: ==, < of pairs (len(row), row). -/
namespace My
open PySem PySem.Spec PyProof.Rows L2
def dList (r : List Nat) : PyData := .list (r.map fun (n : Nat) => PyData.int (n : Int))
def dPair (r : List Nat) : PyData := .tuple [.int ((r.length : Nat) : Int), dList r]
theorem dp_ints {K : PySem.W.Frag} {H : Hp} : ∀ r : List Nat, DpAll K H (natsV r) (r.map fun (n : Nat) => PyData.int (n : Int))
  | [] => .nil
  | n :: r => .cons (.int _) (dp_ints r)
theorem dp_list {K : PySem.W.Frag} {H : Hp} {a : Addr} {r : List Nat} (h : SqL K H a (natsV r)) : Dp K H (.ref a) (dList r) := .lst h (dp_ints r)
theorem canLay_ints : ∀ r : List Nat, PyData.canLayAll0 (r.map fun (n : Nat) => PyData.int (n : Int)) = true
  | [] => rfl
  | n :: r => by
    rw [List.map_cons, PyData.canLayAll0, canLay_ints r]
    rfl
theorem depth_ints : ∀ r : List Nat, PyData.depthAll (r.map fun (n : Nat) => PyData.int (n : Int)) = 0
  | [] => by rw [List.map_nil, PyData.depthAll]
  | n :: r => by
    rw [List.map_cons, PyData.depthAll, depth_ints r, PyData.depth]
    rfl
theorem depth_list (r : List Nat) : (dList r).depth = 1 := by
  unfold dList
  rw [PyData.depth, depth_ints]
theorem shaped_list (r : List Nat) : SeqAt.shaped (dList r) = true := by
  unfold SeqAt.shaped
  rw [depth_list]
  unfold dList
  rw [PyData.canLay0, canLay_ints]
  rfl
theorem shaped_none : SeqAt.shaped PyData.none = true := by decide +kernel
theorem eqv_list (r : List Nat) : PyData.eqv (dList r) (dList r) = true := SeqAt.eqv_refl _ (SeqAt.canLay_of_shaped (shaped_list r))
theorem eqv_none : PyData.eqv PyData.none PyData.none = true := by rw [PyData.eqv]
theorem alike_ints : ∀ r x : List Nat, PySem.W.alikeAll (r.map fun (n : Nat) => PyData.int (n : Int)) (x.map fun (n : Nat) => PyData.int (n : Int)) = true
  | [], x => by rw [List.map_nil, PySem.W.alikeAll]
  | n :: r, [] => by
    rw [List.map_cons, List.map_nil]
    rw [PySem.W.alikeAll]
  | n :: r, y :: x => by
    rw [List.map_cons, List.map_cons, PySem.W.alikeAll, alike_ints r x, PySem.W.alike]
    rfl
theorem alike_pair (r x : List Nat) : PySem.W.alike (dPair r) (dPair x) = true := by
  unfold dPair dList
  rw [PySem.W.alike, PySem.W.alikeAll, PySem.W.alikeAll, PySem.W.alikeAll, PySem.W.alike, PySem.W.alike, alike_ints]
  rfl
theorem depth_pair (r : List Nat) : (dPair r).depth = 2 := by
  unfold dPair
  rw [PyData.depth, PyData.depthAll, PyData.depthAll, PyData.depthAll, depth_list, PyData.depth]
  rfl
theorem eqv_int (i j : Int) : PyData.eqv (.int i) (.int j) = (i == j) := by rw [PyData.eqv]
theorem alike_int (i j : Int) : PySem.W.alike (.int i) (.int j) = true := by rw [PySem.W.alike]
/-- lists of ints: the greater one is not less -/
theorem ints_nlt : ∀ {b x : List Nat}, lexlt b x → PyProof.Rows.lexLt PyProof.Rows.itemOrd (PySem.W.keyToksAll (x.map fun (n : Nat) => PyData.int (n : Int))) (PySem.W.keyToksAll (b.map fun (n : Nat) => PyData.int (n : Int))) = false
  | [], _, h => h.elim
  | _ :: _, [], h => h.elim
  | n :: b, y :: x, h => by
    rw [List.map_cons, List.map_cons]
    by_cases e : y = n
    · rw [PySem.W.dataLt_all_yes (alike_int _ _) (by rw [eqv_int, e]; exact beq_self_eq_true _)]
      rcases h with h | ⟨_, h⟩
      · omega
      · exact ints_nlt h
    · rw [PySem.W.dataLt_all_no (alike_int _ _) (by rw [eqv_int]; exact beq_eq_false_iff_ne.mpr (by omega)), PySem.W.dataLt_int]
      rcases h with h | ⟨z, _⟩
      · exact decide_eq_false (by omega)
      · exact absurd z.symm e
theorem lex_len : ∀ {b x : List Nat}, lexlt b x → b.length = x.length → PyData.eqvAll (x.map fun (n : Nat) => PyData.int (n : Int)) (b.map fun (n : Nat) => PyData.int (n : Int)) = false
  | [], _, h, _ => h.elim
  | _ :: _, [], h, _ => h.elim
  | n :: b, y :: x, h, hl => by
    rw [List.map_cons, List.map_cons, PyData.eqvAll, eqv_int]
    rcases h with h | ⟨e, h⟩
    · rw [show (((y : Nat) : Int) == (n : Int)) = false from beq_eq_false_iff_ne.mpr (by omega)]
      rfl
    · rw [lex_len h (by simpa using hl), Bool.and_false]
theorem pair_nlt {b x : List Nat} (h : rlt b x) : PySem.W.dataLt (dPair x) (dPair b) = false := by
  unfold dPair
  rw [PySem.W.dataLt_tuple]
  by_cases e : x.length = b.length
  · rw [PySem.W.dataLt_all_yes (alike_int _ _) (by rw [eqv_int, e]; exact beq_self_eq_true _)]
    rcases h with h | ⟨_, h⟩
    · omega
    · have al : PySem.W.alike (dList x) (dList b) = true := by
        unfold dList
        rw [PySem.W.alike]
        exact alike_ints x b
      have ev : PyData.eqv (dList x) (dList b) = false := by
        unfold dList
        rw [PyData.eqv]
        exact lex_len h e.symm
      rw [PySem.W.dataLt_all_no al ev]
      unfold dList
      rw [PySem.W.dataLt_list]
      exact ints_nlt h
  · rw [PySem.W.dataLt_all_no (alike_int _ _) (by rw [eqv_int]; exact beq_eq_false_iff_ne.mpr (by omega)), PySem.W.dataLt_int]
    rcases h with h | ⟨z, _⟩
    · exact decide_eq_false (by omega)
    · exact absurd z.symm e
end My
namespace My
open PySem PySem.Spec PyProof.Rows L2
def top (i : Nat) : Stmt := PySem.Challenge.pw_metronet_k02_shortest_paths.main.body.getD i (.Pass ⟨0, 0, 0, 0⟩)
abbrev sDraw : Stmt := top 8
abbrev sCell : Stmt := top 9
/-- the built-in names that the module leaves -/
structure Blt (mg : Str → Option Value) : Prop where
  range : mg "range" = none
  len : mg "len" = none
  int : mg "int" = none
  list : mg "list" = none
  enum : mg "enumerate" = none
section
variable {P : Program} {w : World} {K : PySem.W.Frag} {mg : Str → Option Value} {base : Heap}
/-! ### _law_draw -/
theorem scDraw : FnScope ["cell", "many", "bound", "numbers", "k", "seed", "mixed"] ["cell", "many", "bound"] (defScope sDraw) := ⟨rfl, rfl, rfl, by decide +kernel, rfl, by decide +kernel, by decide +kernel⟩
def spDraw : Sp := fun vs H Q _ => ∃ (c b : Int) (m : Nat), vs = [.int c, .int (m : Int), .int b] ∧ m ≤ 1000 ∧ 0 < b ∧ b < 2 ^ 64 ∧
  ∀ (H' : Hp) (p : Addr) (ns : List Int), Same H H' → H p = none → H' p = some (.lst (ns.map V.int)) → ns.length = m → (∀ x ∈ ns, 0 ≤ x ∧ x < b) → Q (.ref p) H'
theorem ok_draw {f : Addr} {fd : FuncData} {k : Nat} (F : Fun K "_law_draw" "_law_draw" sDraw f fd) (T : Blt mg) : FnOk P w K mg base CX0 (k + 1) f fd ["cell", "many", "bound"] spDraw := by
  refine F.ok scDraw (fun vs H Q E h => ?_) (fun cdv A outer s H vs Q E hr h => ?_)
  · obtain ⟨c, b, m, rfl, _⟩ := h
    rfl
  · obtain ⟨c, b, m, rfl, hm, hb0, hb1, q⟩ := h
    have nd := scDraw.nd
    refine ⟨_, pss_cons (ps_set (i := 3) nd rfl (.inl rfl) (pe_lst pa_nil))
      (pss_cons (ps_if (pt_cmpR op_ge (pv 0) (pe_op op_pow pe_int pe_int) (nomark _))
        (pss_cons (ps_for PassesOwn.never rfl (pi_range1 (by rfl) T.range (pa_cons (pv 1) pa_nil)) (pg_name (i := 4) nd rfl (.inl rfl))
          (pss_cons (ps_expr (pe_bm PySem.F.plainAttrs_list PySem.F.slot_list_append PySem.F.type_list_append mt_append (pv 3)
              (pa_cons (pe_op op_mod (pe_callTy call_int1 (by rfl) T.int (by decide +kernel) (pa_cons (pv 0) pa_nil)) (pv 2)) pa_nil)))
          (pss_one (ps_set (i := 0) nd rfl (.inl rfl) (pe_op op_fdivW (pv 0) (pv 2))))))
        (pss_one (ps_ret (pv 3)))) pss_nil)
      (pss_cons (ps_set (i := 5) nd rfl (.inl rfl) (pe_op op_mod (pe_callTy call_int1 (by rfl) T.int (by decide +kernel) (pa_cons (pv 0) pa_nil)) pe_int))
      (pss_cons (ps_for PassesOwn.never rfl (pi_range1 (by rfl) T.range (pa_cons (pv 1) pa_nil)) (pg_name (i := 4) nd rfl (.inl rfl))
          (pss_cons (ps_set (i := 5) nd rfl (.inl rfl) (pe_op op_mod (pe_callTy call_int1 (by rfl) T.int (by decide +kernel)
              (pa_cons (pe_op op_add (pe_op op_add (pe_op op_mul (pv 5) pe_int) pe_int) (pv 4)) pa_nil)) pe_int))
          (pss_cons (ps_set (i := 6) nd rfl (.inl rfl) (pe_op op_mod (pe_callTy call_int1 (by rfl) T.int (by decide +kernel)
              (pa_cons (pe_op op_add (pe_op op_mul (pv 5) pe_int) (pe_op op_mul pe_int (pv 4))) pa_nil)) pe_int))
          (pss_one (ps_expr (pe_bm PySem.F.plainAttrs_list PySem.F.slot_list_append PySem.F.type_list_append mt_append (pv 3)
              (pa_cons (pe_op op_mod (pe_callTy call_int1 (by rfl) T.int (by decide +kernel) (pa_cons (pe_op op_fdiv (pv 6) pe_int) pa_nil)) (pv 2)) pa_nil)))))))
      (pss_one (ps_ret (pv 3)))))), ?_⟩
    -- numbers = []
    refine ⟨Nat.zero_le _, fun p np => ?_⟩
    have s1 : Same H (upd H p (.lst [])) := same_new np
    -- cell >= 10 ** 18
    refine ⟨_, rfl, _, _, rfl, rfl, ⟨by decide, by decide, by decide⟩, _, _, rfl, rfl, _, rfl, ite2 (fun _ => ?_) (fun _ => ?_)⟩
    · refine ⟨_, rfl, (m : Int), rfl, by omega, by omega, for_range (n := m) (fun i σ H' => ∃ (c' : Int) (ns : List Int) (v4 v5 v6 : Option V), σ = [some (.int c'), some (.int m), some (.int b), some (.ref p), v4, v5, v6] ∧
        Same H H' ∧ H' p = some (.lst (ns.map V.int)) ∧ ns.length = i ∧ ∀ x ∈ ns, 0 ≤ x ∧ x < b) ⟨c, [], none, none, none, rfl, s1, upd_same, rfl, fun x hx => by cases hx⟩ ?_ ?_⟩
      · rintro i σ H' hi ⟨c', ns, v4, v5, v6, rfl, sm, hp, hl, hx⟩
        refine ⟨_, rfl, .inl ⟨rfl, _, SqL.of hp⟩, _, rfl, .inl ⟨_, rfl, _, rfl, _, _, rfl, rfl, hb0, ?_⟩⟩
        refine ⟨p, _, _, rfl, rfl, hp, by rw [List.length_map]; exact small1000 (by omega), ?_⟩
        refine ⟨_, rfl, _, rfl, _, _, rfl, rfl, wide_div (b := 64) hb0 (by omega) (by decide) (by decide), ?_⟩
        refine ⟨c' / b, ns ++ [c' % b], _, v5, v6, rfl, same_mut sm np, ?_, by rw [List.length_append, hl]; rfl, ?_⟩
        · rw [upd_same, List.map_append]; rfl
        · intro x hm
          rcases List.mem_append.mp hm with h1 | h1
          · exact hx x h1
          · rw [List.mem_singleton.mp h1]
            exact ⟨Int.emod_nonneg _ (by omega), Int.emod_lt_of_pos _ hb0⟩
      · rintro σ H' ⟨c', ns, v4, v5, v6, rfl, sm, hp, hl, hx⟩
        exact ⟨_, rfl, q H' p ns sm np hp hl hx⟩
    · refine ⟨_, rfl, .inl ⟨_, rfl, _, _, rfl, rfl, (by show (0 : Int) < 2147483647; decide), ?_⟩⟩
      refine ⟨_, rfl, (m : Int), rfl, by omega, by omega, for_range (n := m) (fun i σ H' => ∃ (c' sd : Int) (ns : List Int) (v4 v6 : Option V), σ = [some (.int c'), some (.int m), some (.int b), some (.ref p), v4, some (.int sd), v6] ∧
        0 ≤ sd ∧ sd < 2147483647 ∧ Same H H' ∧ H' p = some (.lst (ns.map V.int)) ∧ ns.length = i ∧ ∀ x ∈ ns, 0 ≤ x ∧ x < b)
        ⟨c, c % 2147483647, [], none, none, rfl, Int.emod_nonneg _ (by decide), Int.emod_lt_of_pos _ (by decide), s1, upd_same, rfl, fun x hx => by cases hx⟩ ?_ ?_⟩
      · rintro i σ H' hi ⟨c', sd, ns, v4, v6, rfl, d0, d1, sm, hp, hl, hx⟩
        refine ⟨_, rfl, _, _, rfl, rfl, .inl ⟨by omega, by omega⟩, _, _, rfl, rfl, _, rfl, _, _, rfl, rfl, .inl ⟨_, rfl, _, _, rfl, rfl, (by show (0 : Int) < 2147483647; decide), ?_⟩⟩
        have e0 : 0 ≤ (sd * 48271 + 12345 + (0 + (i : Int))) % 2147483647 := Int.emod_nonneg _ (by decide)
        have e1 : (sd * 48271 + 12345 + (0 + (i : Int))) % 2147483647 < 2147483647 := Int.emod_lt_of_pos _ (by decide)
        refine ⟨_, rfl, _, _, rfl, rfl, .inl ⟨by omega, by omega⟩, _, rfl, _, _, rfl, rfl, .inl ⟨by decide, by decide⟩, _, _, rfl, rfl, .inl ⟨_, rfl, _, _, rfl, rfl, (by show (0 : Int) < 2147483629; decide), ?_⟩⟩
        refine ⟨_, rfl, .inl ⟨rfl, _, SqL.of hp⟩, _, rfl, _, _, rfl, rfl, ⟨by decide, by decide⟩, .inl ⟨_, rfl, _, rfl, _, _, rfl, rfl, hb0, ?_⟩⟩
        refine ⟨p, _, _, rfl, rfl, hp, by rw [List.length_map]; exact small1000 (by omega), ?_⟩
        refine ⟨c', _, ns ++ [((sd * 48271 + 12345 + (0 + (i : Int))) % 2147483647 * 69621 + 977 * (0 + (i : Int))) % 2147483629 / 3 % b], _, _, rfl, e0, e1, same_mut sm np, ?_, by rw [List.length_append, hl]; rfl, ?_⟩
        · rw [upd_same, List.map_append]; rfl
        · intro x hm
          rcases List.mem_append.mp hm with h1 | h1
          · exact hx x h1
          · rw [List.mem_singleton.mp h1]
            exact ⟨Int.emod_nonneg _ (by omega), Int.emod_lt_of_pos _ hb0⟩
      · rintro σ H' ⟨c', sd, ns, v4, v6, rfl, d0, d1, sm, hp, hl, hx⟩
        exact ⟨_, rfl, q H' p ns sm np hp hl hx⟩
/-! ### _law_cell -/
theorem scCell : FnScope ["script", "k"] ["script", "k"] (defScope sCell) := ⟨rfl, rfl, rfl, by decide +kernel, rfl, by decide +kernel, by decide +kernel⟩
def spCell (K : PySem.W.Frag) : Sp := fun vs H Q _ => ∃ (a : Addr) (ns : List Int) (j : Nat), vs = [.ref a, .int (j : Int)] ∧ SqL K H a (ns.map V.int) ∧ Q (.int (ns.getD j 0)) H
theorem ok_cell {f : Addr} {fd : FuncData} {k : Nat} (F : Fun K "_law_cell" "_law_cell" sCell f fd) (T : Blt mg) : FnOk P w K mg base CX0 (k + 1) f fd ["script", "k"] (spCell K) := by
  refine F.ok scCell (fun vs H Q E h => ?_) (fun cdv A outer s H vs Q E hr h => ?_)
  · obtain ⟨a, ns, j, rfl, _⟩ := h
    rfl
  · obtain ⟨a, ns, j, rfl, hS, q⟩ := h
    refine ⟨_, pss_cons (ps_if (pt_cmpR op_lt (pv 1) (pe_callB call_len_seq (by rfl) T.len PySem.boot_len (pa_cons (pv 0) pa_nil)) (nomark _))
        (pss_one (ps_ret (pe_ix ix_list (pv 0) (pv 1) (fun _ _ => rfl)))) pss_nil) (pss_one (ps_ret pe_int)), ?_⟩
    refine ⟨_, rfl, _, rfl, a, _, rfl, .inl hS, _, _, rfl, rfl, _, rfl, ite2 (fun e => ?_) (fun e => ?_)⟩
    · have hj : j < ns.length := by
        have := of_decide_eq_true e
        rw [List.length_map] at this
        omega
      refine ⟨_, rfl, _, rfl, a, _, _, _, rfl, rfl, hS, atI_int hj, ?_⟩
      rw [List.getD_eq_getElem?_getD, List.getElem?_eq_getElem hj] at q
      exact q
    · have hj : ns.length ≤ j := by
        rcases Nat.lt_or_ge j ns.length with h | h
        · exact absurd (decide_eq_true (by rw [List.length_map]; omega)) e
        · exact h
      rw [List.getD_eq_getElem?_getD, List.getElem?_eq_none hj] at q
      exact q
end
end My
namespace My
open PySem PySem.Spec PyProof.Rows L2
abbrev sNet : Stmt := top 2
abbrev sInit : Stmt := inClass sNet 0
abbrev sNb : Stmt := inClass sNet 3
section
variable {P : Program} {w : World} {K : PySem.W.Frag} {mg : Str → Option Value} {base : Heap}
/-! ### Net.__init__ -/
theorem scInit : FnScope ["self", "kinds", "lines", "processing", "error", "a", "b", "ticks"] ["self", "kinds", "lines", "processing", "error"] (defScope sInit) := ⟨rfl, rfl, rfl, by decide +kernel, rfl, by decide +kernel, by decide +kernel⟩
abbrev FunInit (K : PySem.W.Frag) (f : Addr) (fd : FuncData) : Prop := FunD K "__init__" "Net.__init__" (defArgs sInit) (defBody sInit) (defScope sInit) [] [("processing", .int 0), ("error", .int 0)] f fd
def spInit (K : PySem.W.Frag) (C : Addr) : Sp := fun vs H Q _ => ∃ (p dx l0 l1 : Addr) (ts : List Addr) (N : NetD), vs = [.ref p, .ref l0, .ref l1, .int N.pr, .int N.er] ∧ H p = some (.ins C dx []) ∧
  SqL K H l0 (N.ks.map kindV) ∧ SqL K H l1 (ts.map V.ref) ∧ LinesAt K H ts N.ls ∧ N.ls.length ≤ 1000 ∧
  ∀ H', (∀ b o, H b = some o → b ≠ p → H' b = some o) → NetAt K C H' p N → Q .non H'
theorem ok_init {f C : Addr} {fd : FuncData} {k : Nat} (F : FunInit K f fd) (T : Blt mg) (c : NetC K C) : FnOk P w K mg base CX0 (k + 1) f fd ["self", "kinds", "lines", "processing", "error"] (spInit K C) := by
  refine F.ok scInit (fun vs H Q E h => ?_) (fun cdv A outer s H vs Q E hr h => ?_)
  · obtain ⟨p, dx, l0, l1, ts, N, rfl, _⟩ := h
    rfl
  · obtain ⟨p, dx, l0, l1, ts, N, rfl, hp, h0, h1, hts, hlen, q⟩ := h
    have nd := scInit.nd
    have hu := hu_of hr
    refine ⟨_, PSs.nox (pss_cons (ps_fld (pv 0) (pe_callTy call_list_of (by rfl) T.list (by decide +kernel) (pa_cons (pv 1) pa_nil)) rfl)
      (pss_cons (ps_fld (pv 0) (pe_callTy call_list_of (by rfl) T.list (by decide +kernel) (pa_cons (pv 2) pa_nil)) rfl)
      (pss_cons (ps_fld (pv 0) (pv 3) rfl) (pss_cons (ps_fld (pv 0) (pv 4) rfl) (pss_cons (ps_fld (pv 0) pe_dnewT rfl)
      (pss_one (ps_for PassesOwn.never rfl (pi_list (pe_fld (pv 0) rfl))
        (pg_tup rfl (pgs_cons (pg_name (i := 5) nd rfl (.inl rfl)) (pgs_cons (pg_name (i := 6) nd rfl (.inl rfl)) (pgs_cons (pg_name (i := 7) nd rfl (.inl rfl)) pgs_nil))))
        (pss_cons (ps_dput hu (pe_fld (pv 0) rfl) (pe_tup (pa_cons (pv 5) (pa_cons (pv 6) pa_nil))) (pv 7) rfl)
        (pss_one (ps_dput hu (pe_fld (pv 0) rfl) (pe_tup (pa_cons (pv 6) (pa_cons (pv 5) pa_nil))) (pv 7) rfl)))))))))), ?_⟩
    have pnn : ∀ {H1 : Hp} {a : Addr} {u : HO}, H1 p = some u → H1 a = none → p ≠ a := fun e n => ne_of_none e n
    -- self.kinds = list(kinds)
    refine ⟨_, rfl, l0, _, rfl, .inl h0, fun lk nk => ?_⟩
    have npk := pnn hp nk
    refine ⟨_, rfl, p, C, dx, [], rfl, (by rw [upd_ne npk]; exact hp), c.cl, c.n1, (by show 0 < 1000; decide), ?_⟩
    have k1 : But p H _ := but_new (u := .ins C dx (putF "kinds" (.ref lk) [])) (o := .lst (N.ks.map kindV)) nk
    have a1 : (upd (upd H lk (.lst (N.ks.map kindV))) p (.ins C dx (putF "kinds" (.ref lk) []))) lk = some (.lst (N.ks.map kindV)) := by rw [upd_ne npk.symm, upd_same]
    have p1 : (upd (upd H lk (.lst (N.ks.map kindV))) p (.ins C dx (putF "kinds" (.ref lk) []))) p = some (.ins C dx (putF "kinds" (.ref lk) [])) := upd_same
    generalize (upd (upd H lk (.lst (N.ks.map kindV))) p (.ins C dx (putF "kinds" (.ref lk) []))) = H1 at k1 a1 p1 ⊢
    rw [f1] at p1
    -- self.lines = list(lines)
    refine ⟨_, rfl, l1, ts.map V.ref, rfl, .inl (k1.seq hp h1), fun ll nl => ?_⟩
    have npl := pnn p1 nl
    refine ⟨_, rfl, p, C, dx, _, rfl, (by rw [upd_ne npl]; exact p1), c.cl, c.n2, (by show 1 < 1000; decide), ?_⟩
    have k2 : But p H1 _ := but_new (u := .ins C dx (putF "lines" (.ref ll) [(("kinds" : Str), V.ref lk)])) (o := .lst (ts.map V.ref)) nl
    have b2 : (upd (upd H1 ll (.lst (ts.map V.ref))) p (.ins C dx (putF "lines" (.ref ll) [(("kinds" : Str), V.ref lk)]))) ll = some (.lst (ts.map V.ref)) := by rw [upd_ne npl.symm, upd_same]
    have p2 : (upd (upd H1 ll (.lst (ts.map V.ref))) p (.ins C dx (putF "lines" (.ref ll) [(("kinds" : Str), V.ref lk)]))) p = some (.ins C dx (putF "lines" (.ref ll) [(("kinds" : Str), V.ref lk)])) := upd_same
    generalize (upd (upd H1 ll (.lst (ts.map V.ref))) p (.ins C dx (putF "lines" (.ref ll) [(("kinds" : Str), V.ref lk)]))) = H2 at k2 b2 p2 ⊢
    rw [f2] at p2
    have a2 := k2 _ _ a1 npk.symm
    have q2 := k1.trans k2
    -- self.processing, self.error
    refine ⟨_, rfl, _, rfl, p, C, dx, _, rfl, p2, c.cl, c.n3, (by show 2 < 1000; decide), ?_⟩
    refine ⟨_, rfl, _, rfl, p, C, dx, _, rfl, upd_same, c.cl, c.n4, (by rw [f3]; show 3 < 1000; decide), ?_⟩
    have k3 : But p H2 _ := but_self (u := .ins C dx (putF "processing" (.int N.pr) [(("kinds" : Str), V.ref lk), ("lines", V.ref ll)]))
    have k4 : But p _ _ := but_self (H := upd H2 p (.ins C dx (putF "processing" (.int N.pr) [(("kinds" : Str), V.ref lk), ("lines", V.ref ll)]))) (u := .ins C dx (putF "error" (.int N.er) (putF "processing" (.int N.pr) [(("kinds" : Str), V.ref lk), ("lines", V.ref ll)])))
    have q4 := (q2.trans k3).trans k4
    have k34 := k3.trans k4
    have p4 : (upd (upd H2 p (.ins C dx (putF "processing" (.int N.pr) [(("kinds" : Str), V.ref lk), ("lines", V.ref ll)]))) p (.ins C dx (putF "error" (.int N.er) (putF "processing" (.int N.pr) [(("kinds" : Str), V.ref lk), ("lines", V.ref ll)])))) p = some (.ins C dx (putF "error" (.int N.er) (putF "processing" (.int N.pr) [(("kinds" : Str), V.ref lk), ("lines", V.ref ll)]))) := upd_same
    clear k3 k4
    generalize (upd (upd H2 p (.ins C dx (putF "processing" (.int N.pr) [(("kinds" : Str), V.ref lk), ("lines", V.ref ll)]))) p (.ins C dx (putF "error" (.int N.er) (putF "processing" (.int N.pr) [(("kinds" : Str), V.ref lk), ("lines", V.ref ll)])))) = H4 at k34 q4 p4 ⊢
    rw [f3, f4] at p4
    have a4 := k34 _ _ a2 npk.symm
    have b4 := k34 _ _ b2 npl.symm
    -- self._delays = {}
    refine fun ld nd5 => ?_
    have npd := pnn p4 nd5
    refine ⟨_, rfl, p, C, dx, _, rfl, (by rw [upd_ne npd]; exact p4), c.cl, c.n5, (by show 4 < 1000; decide), ?_⟩
    rw [f5]
    have k5 : But p H4 _ := but_new (u := .ins C dx (netF lk ll N.pr N.er ld)) (o := .dT []) nd5
    have c5 : (upd (upd H4 ld (.dT [])) p (.ins C dx (netF lk ll N.pr N.er ld))) ld = some (.dT []) := by rw [upd_ne npd.symm, upd_same]
    have p5 : (upd (upd H4 ld (.dT [])) p (.ins C dx (netF lk ll N.pr N.er ld))) p = some (.ins C dx (netF lk ll N.pr N.er ld)) := upd_same
    generalize (upd (upd H4 ld (.dT [])) p (.ins C dx (netF lk ll N.pr N.er ld))) = H5 at k5 c5 p5 ⊢
    have a5 := k5 _ _ a4 npk.symm
    have b5 := k5 _ _ b4 npl.symm
    have q5 := q4.trans k5
    have ldH : H ld = none := by
      cases z : H ld with
      | none => rfl
      | some u => rw [q4 _ _ z npd.symm] at nd5; cases nd5
    have nkd : lk ≠ ld := fun z => by rw [z, nd5] at a4; cases a4
    have nld : ll ≠ ld := fun z => by rw [z, nd5] at b4; cases b4
    have tlen : ts.length = N.ls.length := hts.length
    -- the loop
    refine ⟨_, rfl, p, C, dx, _, _, rfl, p5, c.cl, c.n2, g2, ll, rfl, ⟨_, SqL.of b5⟩, for_list (K := K) (a := ll) (xs := ts.map V.ref) (fun i σ H' => ∃ (v5 v6 v7 : Option V), σ = [some (.ref p), some (.ref l0), some (.ref l1), some (.int N.pr), some (.int N.er), v5, v6, v7] ∧
      But p H H' ∧ H' p = some (.ins C dx (netF lk ll N.pr N.er ld)) ∧ H' lk = some (.lst (N.ks.map kindV)) ∧ H' ll = some (.lst (ts.map V.ref)) ∧ H' ld = some (.dT (delaysOf (N.ls.take i))))
      ⟨none, none, none, rfl, q5, p5, a5, b5, c5⟩ (fun i σ H' _ ⟨_, _, _, _, _, _, _, hl, _⟩ => SqL.of hl) ?_ ?_⟩
    · rintro i x σ H' hi ⟨v5, v6, v7, rfl, kb, hp', hk', hl', hd'⟩
      rw [List.getElem?_map] at hi
      cases ht : ts[i]? with
      | none => rw [ht] at hi; cases hi
      | some t =>
        rw [ht] at hi
        cases hi
        obtain ⟨l, el, hT⟩ := Paired.at hts ht
        have hT' := kb.tup hp hT
        refine ⟨t, _, rfl, hT', rfl, _, _, rfl, _, _, rfl, _, _, rfl, rfl, ?_⟩
        have hsz : (delaysOf (N.ls.take i)).length ≤ 2000 := by
          have := delays_len (N.ls.take i)
          rw [List.length_take] at this
          omega
        -- self._delays[a, b] = ticks
        refine ⟨_, rfl, _, rfl, p, C, dx, _, _, rfl, hp', c.cl, c.n5, g5, _, rfl, _, rfl, by show 2 ≤ sizeLine; decide, fun k1 nk1 => ?_⟩
        have z1 := same_new (o := .tup [.int (l.1 : Int), .int (l.2.1 : Int)]) nk1
        refine ⟨ld, _, rfl, DPut.t (k := key2 l.1 l.2.1) (z1 _ _ hd') upd_same (szl (by omega)), ?_⟩
        have nk1d : ld ≠ k1 := ne_of_none hd' nk1
        have pd' : p ≠ ld := npd
        refine ⟨_, rfl, _, rfl, p, C, dx, _, _, rfl, by rw [upd_ne pd']; exact z1 _ _ hp', c.cl, c.n5, g5, _, rfl, _, rfl, by show 2 ≤ sizeLine; decide, fun k2 nk2 => ?_⟩
        have z2 := same_new (o := .tup [.int (l.2.1 : Int), .int (l.1 : Int)]) nk2
        refine ⟨ld, _, rfl, DPut.t (k := key2 l.2.1 l.1) (z2 _ _ upd_same) upd_same (szl (by have := length_putK (delaysOf (N.ls.take i)) (key2 l.1 l.2.1) (V.int l.2.2); omega)), ?_⟩
        have all : ∀ b o, H' b = some o → b ≠ ld → (upd (upd (upd (upd H' k1 (.tup [.int (l.1 : Int), .int (l.2.1 : Int)])) ld (.dT (putK (delaysOf (N.ls.take i)) (key2 l.1 l.2.1) (.int l.2.2)))) k2 (.tup [.int (l.2.1 : Int), .int (l.1 : Int)])) ld
            (.dT (putK (putK (delaysOf (N.ls.take i)) (key2 l.1 l.2.1) (.int l.2.2)) (key2 l.2.1 l.1) (.int l.2.2)))) b = some o := fun b o e n => by
          rw [upd_ne n]
          refine z2 _ _ ?_
          rw [upd_ne n]
          exact z1 _ _ e
        refine ⟨_, _, _, rfl, fun b o e n => all _ _ (kb _ _ e n) (ne_of_none e ldH), all _ _ hp' pd', all _ _ hk' nkd, all _ _ hl' nld, ?_⟩
        rw [upd_same, take_snoc el, delays_snoc]
        rfl
    · rintro σ H' ⟨v5, v6, v7, rfl, kb, hp', hk', hl', hd'⟩
      rw [List.length_map, tlen, List.take_length] at hd'
      exact q H' kb ⟨dx, lk, ll, ld, ts, hp', hk', hl', Paired.imp hts fun _ _ z => kb.tup hp z, hd'⟩
/-! ### Net.neighbours -/
theorem scNb : FnScope ["self", "a", "b"] ["self", "a"] (defScope sNb) := ⟨rfl, rfl, rfl, by decide +kernel, rfl, by decide +kernel, by decide +kernel⟩
def spNb (K : PySem.W.Frag) (C : Addr) : Sp := fun vs H Q _ => ∃ (p : Addr) (a : Nat) (N : NetD), vs = [.ref p, .int (a : Int)] ∧ NetAt K C H p N ∧ N.ks.length ≤ 1000 ∧
  ∀ (H' : Hp) (D : Addr), Same H H' → H D = none → H' D = some (.lst (natsV (nbs N a))) → Q (.ref D) H'
theorem ok_nb {f C : Addr} {fd : FuncData} {k : Nat} (F : Fun K "neighbours" "Net.neighbours" sNb f fd) (T : Blt mg) (c : NetC K C) : FnOk P w K mg base CX0 (k + 1) f fd ["self", "a"] (spNb K C) := by
  refine F.ok scNb (fun vs H Q E h => ?_) (fun cdv A outer s H vs Q E hr h => ?_)
  · obtain ⟨p, a, N, rfl, _⟩ := h
    rfl
  · obtain ⟨p, a, N, rfl, hN, hlen, q⟩ := h
    have nd := scNb.nd
    have hu := hu_of hr
    refine ⟨_, pss_one (ps_ret (pe_lc (own := [("b", 2)]) (g := gName 2) rfl nd
      (pi_range1 (by rfl) T.range (pa_cons (pe_callB call_len_seq (by rfl) T.len PySem.boot_len (pa_cons (pe_fld (pv 0) rfl) pa_nil)) pa_nil))
      (blkOk_by (own := [("b", 2)]) (N := ["self", "a", "b"]) (sc := defScope sNb) (by decide +kernel))
      (fun _ _ _ _ _ => pg_name (i := 2) nd rfl (Or.inl rfl))
      (fun _ _ _ _ _ => pts_one (pt_cmp (pc_din hu (pe_tup (pa_cons (pv 1) (pa_cons (pv 2) pa_nil))) (pe_fldK (K := K) (pv 0)))))
      (fun _ _ _ _ _ => pv 2))), ?_⟩
    obtain ⟨dx, lk, ll, ld, ts, e1, e2, e3, e4, e5⟩ := id hN
    refine ⟨_, rfl, p, C, dx, _, _, rfl, e1, c.cl, c.n1, g1, lk, _, rfl, .inl (SqL.of e2), _, rfl, by omega, by rw [List.length_map]; omega, fun D nD => ?_⟩
    have sD := same_new (o := .lst []) nD
    have en : (N.ks.map kindV).length = N.ks.length := List.length_map ..
    refine lc_range (lo := 0) (n := (N.ks.map kindV).length) (fun i H' => Same H H' ∧ H' D = some (.lst (natsV ((List.range i).filter (adj N a))))) ⟨sD, upd_same⟩ ?_ ?_
    · rintro i H' hi ⟨sm, hD⟩
      refine ⟨rfl, ?_⟩
      refine ⟨_, rfl, _, rfl, by show 2 ≤ sizeLine; decide, fun t nt => ?_⟩
      have st := same_new (o := .tup [.int (a : Int), .int (0 + (i : Int))]) nt
      have e5t := st _ _ (sm _ _ e5)
      have nDt : D ≠ t := ne_of_none hD nt
      refine ⟨_, rfl, p, C, dx, _, _, rfl, st _ _ (sm _ _ e1), c.cl, c.n5, g5, ld, valV (delaysOf N.ls) (key2 a i), rfl, ?_, _, rfl, ?_⟩
      · refine DGet.t e5t (k := key2 a i) ?_
        rw [upd_same, Int.zero_add]
        rfl
      · rw [adj_val]
        refine ite2 (fun ea => ?_) (fun ea => ?_)
        · refine ⟨_, rfl, _, by rw [upd_ne nDt]; exact hD, ?_, ?_, ?_⟩
          · rw [natsV, List.length_map]
            have := List.length_filter_le (adj N a) (List.range i)
            rw [List.length_range] at this
            exact small1000 (by omega)
          · exact fun b o e => by
              rw [upd_ne (ne_of_none e nD)]
              exact st _ _ (sm _ _ e)
          · rw [upd_same, List.range_succ, List.filter_append, List.filter_cons, if_pos ea, natsV, natsV, List.map_append, Int.zero_add]
            rfl
        · refine ⟨fun b o e => st _ _ (sm _ _ e), ?_⟩
          rw [upd_ne nDt, List.range_succ, List.filter_append, List.filter_cons, if_neg ea]
          simpa using hD
    · rintro H' ⟨sm, hD⟩
      rw [en] at hD
      exact q H' D sm nD hD
end
end My
namespace My
open PySem PySem.Spec PyProof.Rows L2
abbrev sLNet : Stmt := top 10
/-- how Net(..) is called by its keywords -/
abbrev KBNet (K : PySem.W.Frag) (fd : FuncData) (mv : List Value) : Prop := KBn K fd ["self", "kinds", "lines", "processing", "error"] 3 ["processing", "error"] (fun us ws => us ++ ws) (fun vs zs => vs ++ zs)
theorem kb_net {K : PySem.W.Frag} {f : Addr} {fd : FuncData} (F : FunInit K f fd) : KBn K fd ["self", "kinds", "lines", "processing", "error"] 3 ["processing", "error"] (fun us ws => us ++ ws) (fun vs zs => vs ++ zs) := by
  obtain ⟨mv, h⟩ := F.kbinds0 (ps := ["self", "kinds", "lines", "processing", "error"]) 3 ["processing", "error"] [] (fun us _ ws => us ++ ws) (by simp) (fun q hq => by cases hq) (fun r1 _ r3 => r1.append r3)
    (fun D doc pm an cdv ct us mv ws h1 _ h3 => match us, ws, h1, h3 with | [_, _, _], [_, _], _, _ => rfl)
  exact h
section
variable {P : Program} {w : World} {K : PySem.W.Frag} {mg : Str → Option Value} {base : Heap}
theorem scLNet : FnScope ["cell", "more", "numbers", "hosts", "switches", "kinds", "k", "pairs", "a", "b", "draws", "lines", "near"] ["cell", "more"] (defScope sLNet) := ⟨rfl, rfl, rfl, by decide +kernel, rfl, by decide +kernel, by decide +kernel⟩
def spLNet (K : PySem.W.Frag) (C : Addr) : Sp := fun vs H Q _ => ∃ (c m : Int), vs = [.int c, .int m] ∧
  ∀ (H' : Hp) (p : Addr) (N : NetD), Same H H' → H p = none → NetAt K C H' p N → NetWf N → Q (.ref p) H'
/-- what a def's caller knows of it -/
structure Callee (P : Program) (w : World) (K : PySem.W.Frag) (mg : Str → Option Value) (base : Heap) (k : Nat) (x : Str) (ps : List Str) (sp : Sp) (f : Addr) (fd : FuncData) : Prop where
  ok : FnOk P w K mg base CX0 k f fd ps sp
  mg : mg x = some (.ref f)
  kp : PySem.W.keepIn K (.ref f) = true
  b : Binds K fd ps []
structure NetMk (P : Program) (w : World) (K : PySem.W.Frag) (mg : Str → Option Value) (base : Heap) (C f : Addr) (fd : FuncData) : Prop where
  ok : FnOk P w K mg base CX0 1 f fd ["self", "kinds", "lines", "processing", "error"] (spInit K C)
  mg : mg "Net" = some (.ref C)
  mkC : Mk K C f
  kb : KBn K fd ["self", "kinds", "lines", "processing", "error"] 3 ["processing", "error"] (fun us ws => us ++ ws) (fun vs zs => vs ++ zs)
theorem er_at {z : Int} (h0 : 0 ≤ z) (h1 : z < 4) : ∃ e : Int, atI [V.int 0, V.int 1, V.int 0, V.int 2] z = some (.int e) ∧ 0 ≤ e ∧ e ≤ 2 := by
  have : z = 0 ∨ z = 1 ∨ z = 2 ∨ z = 3 := by omega
  rcases this with rfl | rfl | rfl | rfl
  · exact ⟨0, rfl, by decide, by decide⟩
  · exact ⟨1, rfl, by decide, by decide⟩
  · exact ⟨0, rfl, by decide, by decide⟩
  · exact ⟨2, rfl, by decide, by decide⟩
theorem ok_lnet {f C fD fI : Addr} {fd fdD fdI : FuncData} {k : Nat} (F : Fun K "_law_net" "_law_net" sLNet f fd) (T : Blt mg) (D : Callee P w K mg base 1 "_law_draw" ["cell", "many", "bound"] spDraw fD fdD) (G : NetMk P w K mg base C fI fdI) :
    FnOk P w K mg base CX0 (k + 3) f fd ["cell", "more"] (spLNet K C) := by
  refine F.ok scLNet (fun vs H Q E h => ?_) (fun cdv A outer s H vs Q E hr h => ?_)
  · obtain ⟨c, m, rfl, _⟩ := h
    rfl
  · obtain ⟨c, m, rfl, q⟩ := h
    have nd := scLNet.nd
    have hr1 : Room 1 _ := hr.mono (by omega)
    have hr2 : Room 2 _ := hr.mono (by omega)
    refine ⟨_, pss_cons (ps_set (i := 2) nd rfl (.inl rfl) (pe_call D.ok hr1 (by rfl) D.mg D.kp D.b .nil pass0 (pa_cons (pv 0) (pa_cons pe_int (pa_cons (pe_op op_shl pe_int pe_int) pa_nil))))) <| pss_cons (ps_set (i := 3) nd rfl (.inl rfl) (pe_op op_add pe_int (pe_op op_mod (pe_ix ix_list (pv 2) pe_int (fun _ _ => rfl)) pe_int))) <| pss_cons (ps_set (i := 4) nd rfl (.inl rfl) (pe_op op_add pe_int (pe_op op_mod (pe_ix ix_list (pv 2) pe_int (fun _ _ => rfl)) pe_int))) <| pss_cons (ps_set (i := 5) nd rfl (.inl rfl) (pe_op op_rep (pe_lst (pa_cons pe_str pa_nil)) (pv 3))) <| pss_cons (ps_for PassesOwn.never rfl (pi_range1 (by rfl) T.range (pa_cons (pv 4) pa_nil)) (pg_name (i := 6) nd rfl (.inl rfl)) (pss_one (ps_expr (pe_bm PySem.F.plainAttrs_list PySem.F.slot_list_insert PySem.F.type_list_insert mt_insert (pv 5) (pa_cons (pe_op op_mod (pe_ix ix_list (pv 2) (pe_op op_add pe_int (pv 6)) (fun _ _ => rfl)) (pe_op op_add (pe_callB call_len_seq (by rfl) T.len PySem.boot_len (pa_cons (pv 5) pa_nil)) pe_int)) (pa_cons pe_str pa_nil)))))) <| pss_cons (ps_set (i := 7) nd rfl (.inl rfl) (pe_lst pa_nil)) <| pss_cons (ps_for PassesOwn.never rfl (pi_range1 (by rfl) T.range (pa_cons (pe_callB call_len_seq (by rfl) T.len PySem.boot_len (pa_cons (pv 5) pa_nil)) pa_nil)) (pg_name (i := 8) nd rfl (.inl rfl)) (pss_one (ps_for PassesOwn.never rfl (pi_range1 (by rfl) T.range (pa_cons (pv 8) pa_nil)) (pg_name (i := 9) nd rfl (.inl rfl)) (pss_one (ps_if (PW.pt (pw_or (pt_cmpR op_eq (pe_ix ix_list (pv 5) (pv 8) (fun _ _ => rfl)) pe_str (nomark _)) (pw_or1 (pt_cmpR op_eq (pe_ix ix_list (pv 5) (pv 9) (fun _ _ => rfl)) pe_str (nomark _))))) (pss_one (ps_expr (pe_bm PySem.F.plainAttrs_list PySem.F.slot_list_append PySem.F.type_list_append mt_append (pv 7) (pa_cons (pe_tup (pa_cons (pv 8) (pa_cons (pv 9) pa_nil))) pa_nil)))) (pss_nil)))))) <| pss_cons (ps_set (i := 10) nd rfl (.inl rfl) (pe_call D.ok hr1 (by rfl) D.mg D.kp D.b .nil pass0 (pa_cons (pv 1) (pa_cons (pe_op op_mul pe_int (pe_callB call_len_seq (by rfl) T.len PySem.boot_len (pa_cons (pv 7) pa_nil))) (pa_cons (pe_op op_shl pe_int pe_int) pa_nil))))) <| pss_cons (ps_set (i := 11) nd rfl (.inl rfl) (pe_lst pa_nil)) <| pss_cons (ps_for PassesOwn.never rfl (pi_range1 (by rfl) T.range (pa_cons (pe_callB call_len_seq (by rfl) T.len PySem.boot_len (pa_cons (pv 7) pa_nil)) pa_nil)) (pg_name (i := 6) nd rfl (.inl rfl)) (pss_cons (ps_asg (pe_ix ix_list (pv 7) (pv 6) (fun _ _ => rfl)) (pg_tup rfl (pgs_cons (pg_name (i := 8) nd rfl (.inl rfl)) (pgs_cons (pg_name (i := 9) nd rfl (.inl rfl)) pgs_nil)))) <| pss_cons (ps_set (i := 12) nd rfl (.inl rfl) (pe_cmpR op_ne (pe_ix ix_list (pv 5) (pv 8) (fun _ _ => rfl)) (pe_ix ix_list (pv 5) (pv 9) (fun _ _ => rfl)) (nomark _))) <| pss_one (ps_if (PW.pt (pw_or (pt_cmpR op_lt (pe_op op_mod (pe_ix ix_list (pv 10) (pe_op op_mul pe_int (pv 6)) (fun _ _ => rfl)) pe_int) pe_int (nomark _)) (pw_or1 (PW.pt (pw_and (pt_val (pv 12)) (pw_and1 (pt_cmpR op_eq (pe_op op_mod (pe_ix ix_list (pv 10) (pe_op op_mul pe_int (pv 6)) (fun _ _ => rfl)) pe_int) pe_int (nomark _)))))))) (pss_one (ps_if (pt_cmpR op_eq (pe_op op_mod (pe_ix ix_list (pv 10) (pe_op op_add (pe_op op_mul pe_int (pv 6)) pe_int) (fun _ _ => rfl)) pe_int) pe_int (nomark _)) (pss_one (ps_expr (pe_bm PySem.F.plainAttrs_list PySem.F.slot_list_append PySem.F.type_list_append mt_append (pv 11) (pa_cons (pe_tup (pa_cons (pv 8) (pa_cons (pv 9) (pa_cons (pe_op op_mod (pe_op op_fdiv (pe_ix ix_list (pv 10) (pe_op op_add (pe_op op_mul pe_int (pv 6)) pe_int) (fun _ _ => rfl)) pe_int) pe_int) pa_nil)))) pa_nil)))) (pss_one (ps_expr (pe_bm PySem.F.plainAttrs_list PySem.F.slot_list_append PySem.F.type_list_append mt_append (pv 11) (pa_cons (pe_tup (pa_cons (pv 9) (pa_cons (pv 8) (pa_cons (pe_op op_mod (pe_op op_fdiv (pe_ix ix_list (pv 10) (pe_op op_add (pe_op op_mul pe_int (pv 6)) pe_int) (fun _ _ => rfl)) pe_int) pe_int) pa_nil)))) pa_nil)))))) (pss_nil)))) <| pss_cons (ps_if (pt_cmpR op_eq (pe_op op_mod (pe_ix ix_list (pv 2) pe_int (fun _ _ => rfl)) pe_int) pe_int (nomark _)) (pss_one (ps_for PassesOwn.never rfl (pi_range1 (by rfl) T.range (pa_cons (pe_callB call_len_seq (by rfl) T.len PySem.boot_len (pa_cons (pv 5) pa_nil)) pa_nil)) (pg_name (i := 8) nd rfl (.inl rfl)) (pss_one (ps_for PassesOwn.never rfl (pi_range1 (by rfl) T.range (pa_cons (pv 8) pa_nil)) (pg_name (i := 9) nd rfl (.inl rfl)) (pss_one (ps_if (PW.pt (pw_and (pt_cmpR op_eq (pe_ix ix_list (pv 5) (pv 8) (fun _ _ => rfl)) pe_str (nomark _)) (pw_and (pt_cmpR op_eq (pe_ix ix_list (pv 5) (pv 9) (fun _ _ => rfl)) pe_str (nomark _)) (pw_and1 (pt_cmpR op_lt (pe_callB call_len_seq (by rfl) T.len PySem.boot_len (pa_cons (pv 11) pa_nil)) pe_int (nomark _)))))) (pss_one (ps_expr (pe_bm PySem.F.plainAttrs_list PySem.F.slot_list_append PySem.F.type_list_append mt_append (pv 11) (pa_cons (pe_tup (pa_cons (pv 8) (pa_cons (pv 9) (pa_cons (pe_op op_mod (pe_ix ix_list (pv 2) pe_int (fun _ _ => rfl)) pe_int) pa_nil)))) pa_nil)))) (pss_nil))))))) (pss_nil)) <| pss_one (ps_ret (pe_makeK G.mkC G.ok hr2 (by rfl) G.mg G.kb pass0 (pa_cons (pv 5) (pa_cons (pv 11) pa_nil)) (pk_cons (pe_op op_mod (pe_op op_fdiv (pe_ix ix_list (pv 2) pe_int (fun _ _ => rfl)) pe_int) pe_int) (pk_cons (pe_ix ix_list (pe_lst (pa_cons pe_int (pa_cons pe_int (pa_cons pe_int (pa_cons pe_int pa_nil))))) (pe_op op_mod (pe_ix ix_list (pv 2) pe_int (fun _ _ => rfl)) pe_int) (fun _ _ => rfl)) pk_nil)))), ?_⟩
    -- numbers
    refine ⟨_, rfl, _, _, rfl, rfl, ⟨by decide, by decide, by decide⟩, c, _, 8, rfl, by decide, by decide, by decide, fun H1 pn ns s1 npn hn ln bn => ?_⟩
    have bd : ∀ j, j < 8 → 0 ≤ ns.getD j 0 ∧ ns.getD j 0 < 1048576 := fun j hj => bn _ (getD_mem (by omega))
    -- hosts, switches
    refine ⟨_, rfl, pn, _, _, _, rfl, rfl, SqL.of hn, atI_ints (j := 0) rfl (by omega), _, _, rfl, rfl, (by show (0 : Int) < 3; decide), _, _, rfl, rfl, ?_⟩
    refine ⟨_, rfl, pn, _, _, _, rfl, rfl, SqL.of hn, atI_ints (j := 1) rfl (by omega), _, _, rfl, rfl, (by show (0 : Int) < 3; decide), _, _, rfl, rfl, ?_⟩
    have x0 : 0 ≤ ns.getD 0 0 % 3 := Int.emod_nonneg _ (by decide)
    have x1 : ns.getD 0 0 % 3 < 3 := Int.emod_lt_of_pos _ (by decide)
    have y0 : 0 ≤ ns.getD 1 0 % 3 := Int.emod_nonneg _ (by decide)
    have y1 : ns.getD 1 0 % 3 < 3 := Int.emod_lt_of_pos _ (by decide)
    have hh : 2 ≤ (2 + ns.getD 0 0 % 3).toNat ∧ (2 + ns.getD 0 0 % 3).toNat ≤ 4 := by omega
    have hs : 1 ≤ (1 + ns.getD 1 0 % 3).toNat ∧ (1 + ns.getD 1 0 % 3).toNat ≤ 3 := by omega
    -- kinds = ["host"] * hosts
    refine ⟨by show 1 ≤ sizeLine; decide, fun p0 np0 => ?_⟩
    have s2 : Same H1 (upd H1 p0 (.lst [V.str "host"])) := same_new np0
    refine ⟨_, rfl, p0, _, _, rfl, rfl, upd_same, by omega, by omega, (by show 1 * (2 + ns.getD 0 0 % 3).toNat ≤ sizeLine; exact sz (by omega)), fun pk npk => ?_⟩
    have s3 := same_new (o := .lst (List.replicate (2 + ns.getD 0 0 % 3).toNat [V.str "host"]).flatten) npk
    have hn2 := (s2.trans s3) _ _ hn
    have hk0 : (upd (upd H1 p0 (.lst [V.str "host"])) pk (.lst (List.replicate (2 + ns.getD 0 0 % 3).toNat [V.str "host"]).flatten)) pk = some (.lst ((List.replicate (2 + ns.getD 0 0 % 3).toNat true).map kindV)) := by
      rw [upd_same, rep_flat, List.map_replicate]
      rfl
    have S2 := (s1.trans s2).trans s3
    have npkH : H pk = none := (s1.trans s2).free npk
    have nnk : pn ≠ pk := ne_of_none (s2 _ _ hn) npk
    generalize (upd (upd H1 p0 (.lst [V.str "host"])) pk (.lst (List.replicate (2 + ns.getD 0 0 % 3).toNat [V.str "host"]).flatten)) = H2 at S2 hn2 hk0 ⊢
    clear s2 s3 np0 npk
    -- the switches are put in
    refine ⟨_, rfl, 1 + ns.getD 1 0 % 3, rfl, by omega, by omega, for_range (n := (1 + ns.getD 1 0 % 3).toNat) (fun i σ H' => ∃ (v6 : Option V) (ks : List Bool), σ = [some (.int c), some (.int m), some (.ref pn), some (.int (2 + ns.getD 0 0 % 3)), some (.int (1 + ns.getD 1 0 % 3)), some (.ref pk), v6, none, none, none, none, none, none] ∧
      But pk H2 H' ∧ H' pk = some (.lst (ks.map kindV)) ∧ ks.count true = (2 + ns.getD 0 0 % 3).toNat ∧ ks.count false = i) ⟨none, _, rfl, But.refl _ _, hk0, List.count_replicate_self, by rw [List.count_replicate]; rfl⟩ ?_ ?_⟩
    · rintro i σ H' hi ⟨v6, ks, rfl, kb, hk, c1, c0⟩
      have lk := len_count ks
      have hn' := kb _ _ hn2 nnk
      refine ⟨_, rfl, .inl ⟨rfl, _, SqL.of hk⟩, _, rfl, _, rfl, _, _, rfl, rfl, pn, _, _, _, rfl, rfl, SqL.of hn', atI_ints (j := 2 + i) (by omega) (by omega), _, rfl, pk, _, rfl, .inl (SqL.of hk), _, _, rfl, rfl, _, _, rfl, rfl, (by rw [List.length_map]; omega), ?_⟩
      rw [List.length_map]
      have z0 : 0 ≤ ns.getD (2 + i) 0 % ((ks.length : Int) + 1) := Int.emod_nonneg _ (by omega)
      have z1 : ns.getD (2 + i) 0 % ((ks.length : Int) + 1) < (ks.length : Int) + 1 := Int.emod_lt_of_pos _ (by omega)
      refine ⟨pk, _, _, _, rfl, rfl, hk, szl (by rw [List.length_map]; omega), z0, by omega, ?_⟩
      refine ⟨_, ks.take (ns.getD (2 + i) 0 % ((ks.length : Int) + 1)).toNat ++ [false] ++ ks.drop (ns.getD (2 + i) 0 % ((ks.length : Int) + 1)).toNat, rfl, kb.trans but_self, ?_, ?_, ?_⟩
      · rw [upd_same, List.map_append, List.map_append, List.map_take, List.map_drop]
        rfl
      · rw [count_ins, c1]
        rfl
      · rw [count_ins, c0]
        rfl
    rintro σ H3 ⟨v6, ks, rfl, kb3, hk3, c1, c0⟩
    have lk := len_count ks
    have lks : ks.length ≤ 7 := by omega
    have lkm : (ks.map kindV).length = ks.length := List.length_map ..
    have S3 := same_but S2 npkH kb3
    have hn3 := kb3 _ _ hn2 nnk
    -- pairs = []
    refine ⟨Nat.zero_le _, fun pp npp => ?_⟩
    have s4 := same_new (o := .lst []) npp
    have nppH := S3.free npp
    have S4 := S3.trans s4
    have hk4 := s4 _ _ hk3
    have hn4 := s4 _ _ hn3
    have nkp : pk ≠ pp := ne_of_none hk3 npp
    have nnp : pn ≠ pp := ne_of_none hn3 npp
    have hp4 : (upd H3 pp (.lst [])) pp = some (.lst []) := upd_same
    generalize (upd H3 pp (.lst [])) = H4 at S4 hk4 hn4 hp4 ⊢
    clear s4 npp
    -- the pairs
    refine ⟨_, rfl, pk, _, rfl, .inl (SqL.of hk4), _, rfl, by omega, by omega, for_range (n := (ks.map kindV).length) (fun i σ H' => ∃ (v8 v9 : Option V) (ts : List Addr) (ps : List (Nat × Nat)), σ = [some (.int c), some (.int m), some (.ref pn), some (.int (2 + ns.getD 0 0 % 3)), some (.int (1 + ns.getD 1 0 % 3)), some (.ref pk), v6, some (.ref pp), v8, v9, none, none, none] ∧
      But pp H4 H' ∧ H' pp = some (.lst (ts.map V.ref)) ∧ PairsAt K H' ts ps ∧ PInv ks ps i 0) ⟨none, none, [], [], rfl, But.refl _ _, hp4, .nil, PInv.nil⟩ ?_ ?_⟩
    · rintro i σ H' hi ⟨v8, v9, ts, ps, rfl, kb, hp, ht, hI⟩
      rw [lkm] at hi
      rw [Int.zero_add]
      refine ⟨_, rfl, (i : Int), rfl, by omega, by omega, for_range (n := i) (fun j σ H' => ∃ (v9 : Option V) (ts : List Addr) (ps : List (Nat × Nat)), σ = [some (.int c), some (.int m), some (.ref pn), some (.int (2 + ns.getD 0 0 % 3)), some (.int (1 + ns.getD 1 0 % 3)), some (.ref pk), v6, some (.ref pp), some (.int (i : Int)), v9, none, none, none] ∧
        But pp H4 H' ∧ H' pp = some (.lst (ts.map V.ref)) ∧ PairsAt K H' ts ps ∧ PInv ks ps i j) ⟨v9, ts, ps, rfl, kb, hp, ht, hI⟩ ?_ ?_⟩
      · rintro j σ H5 hj ⟨v9, ts, ps, rfl, kb, hp, ht, hI⟩
        rw [Int.zero_add]
        have hk5 := kb _ _ hk4 nkp
        refine or_read (a := decide (kindV (ks.getD i true) = V.str "switch")) (b := decide (kindV (ks.getD j true) = V.str "switch")) (fun Q q => ?_) (fun Q q => ?_) ?_
        · exact ⟨_, rfl, _, rfl, pk, _, _, _, rfl, rfl, SqL.of hk5, atI_kind rfl hi, rfl, _, rfl, q⟩
        · exact ⟨_, rfl, _, rfl, pk, _, _, _, rfl, rfl, SqL.of hk5, atI_kind rfl (by omega), rfl, _, rfl, q⟩
        · refine ite2 (fun e => ?_) (fun e => ?_)
          · have e2 : ks.getD i true = false ∨ ks.getD j true = false := by
              rw [Bool.or_eq_true] at e
              exact e.imp (fun z => kind_sw (of_decide_eq_true z)) (fun z => kind_sw (of_decide_eq_true z))
            refine ⟨_, rfl, .inl ⟨rfl, _, SqL.of hp⟩, _, rfl, _, rfl, by show 2 ≤ sizeLine; decide, fun t nt => ?_⟩
            have st := same_new (o := .tup [V.int (i : Int), V.int (j : Int)]) nt
            have hp' := st _ _ hp
            have nf := hI.few
            have lt := ht.length
            refine ⟨pp, _, _, rfl, rfl, hp', szl (by rw [List.length_map]; omega), ?_⟩
            refine ⟨_, ts ++ [t], ps ++ [(i, j)], rfl, kb.trans (but_app nt), ?_, ?_, hI.snoc hi hj e2⟩
            · rw [upd_same, List.map_append]
              rfl
            · have kb2 : But pp (upd H5 t (.tup [V.int (i : Int), V.int (j : Int)])) (upd (upd H5 t (.tup [V.int (i : Int), V.int (j : Int)])) pp (.lst (ts.map V.ref ++ [V.ref t]))) := but_self
              exact PairsAt.snoc (PairsAt.mono ht fun a b z => kb2.tupL hp' (same_tup st z)) (kb2.tupL hp' (SqT.of upd_same))
          · exact ⟨_, ts, ps, rfl, kb, hp, ht, hI.skip⟩
      · rintro σ H5 ⟨v9, ts, ps, rfl, kb, hp, ht, hI⟩
        exact ⟨_, v9, ts, ps, rfl, kb, hp, ht, hI.next (by omega)⟩
    rintro σ H5 ⟨v8, v9, ts, ps, rfl, kb5, hp5, ht5, hI⟩
    rw [lkm] at hI
    have S5 := same_but S4 nppH kb5
    have hk5 := kb5 _ _ hk4 nkp
    have hn5 := kb5 _ _ hn4 nnp
    have ltp : ts.length = ps.length := ht5.length
    have lpm : (ts.map V.ref).length = ps.length := by rw [List.length_map]; exact ltp
    have nf := hI.few
    -- draws
    refine ⟨_, rfl, _, rfl, pp, _, rfl, .inl (SqL.of hp5), _, _, rfl, rfl, .inl ⟨by decide, by decide⟩, _, _, rfl, rfl, ⟨by decide, by decide, by decide⟩, m, 1048576, 2 * ps.length, ?_, by omega, by decide, by decide, fun H6 pd ds s6 npd hd ld bdd => ?_⟩
    · rw [lpm]
      rfl
    have S6 := S5.trans s6
    have hk6 := s6 _ _ hk5
    have hn6 := s6 _ _ hn5
    have hp6 := s6 _ _ hp5
    have ht6 : PairsAt K H6 ts ps := PairsAt.mono ht5 fun _ _ z => same_tup s6 z
    -- lines = []
    refine ⟨Nat.zero_le _, fun pl npl => ?_⟩
    have s7 := same_new (o := .lst []) npl
    have nplH := S6.free npl
    have S7 := S6.trans s7
    have hk7 := s7 _ _ hk6
    have hn7 := s7 _ _ hn6
    have hp7 := s7 _ _ hp6
    have hd7 := s7 _ _ hd
    have ht7 : PairsAt K (upd H6 pl (.lst [])) ts ps := PairsAt.mono ht6 fun _ _ z => same_tup s7 z
    have nkl : pk ≠ pl := ne_of_none hk6 npl
    have nnl : pn ≠ pl := ne_of_none hn6 npl
    have npl' : pp ≠ pl := ne_of_none hp6 npl
    have ndl : pd ≠ pl := ne_of_none hd npl
    have hl7 : (upd H6 pl (.lst [])) pl = some (.lst []) := upd_same
    generalize (upd H6 pl (.lst [])) = H7 at S7 hk7 hn7 hp7 hd7 ht7 hl7 ⊢
    clear s7 npl
    -- the lines
    refine ⟨_, rfl, pp, _, rfl, .inl (SqL.of hp7), _, rfl, by omega, by omega, for_range (n := (ts.map V.ref).length) (fun i σ H' => ∃ (v6 v8 v9 v12 : Option V) (us : List Addr) (ls : List (Nat × Nat × Int)), σ = [some (.int c), some (.int m), some (.ref pn), some (.int (2 + ns.getD 0 0 % 3)), some (.int (1 + ns.getD 1 0 % 3)), some (.ref pk), v6, some (.ref pp), v8, v9, some (.ref pd), some (.ref pl), v12] ∧
      But pl H7 H' ∧ H' pl = some (.lst (us.map V.ref)) ∧ LinesAt K H' us ls ∧ LInv ps ls i) ⟨v6, v8, v9, none, [], [], rfl, But.refl _ _, hl7, .nil, LInv.nil⟩ ?_ ?_⟩
    · rintro i σ H8 hi ⟨v6, v8, v9, v12, us, ls, rfl, kb, hl, hu, hL⟩
      rw [lpm] at hi
      rw [Int.zero_add]
      have hp8 := kb _ _ hp7 npl'
      have hk8 := kb _ _ hk7 nkl
      have hd8 := kb _ _ hd7 ndl
      have eti : ts[i]? = some ts[i] := List.getElem?_eq_getElem (by omega)
      obtain ⟨pr, epr, hT⟩ := Paired.at ht7 eti
      have hT8 := kb.tupL hl7 hT
      obtain ⟨pa, pb⟩ := pr
      obtain ⟨o1, o2, o3, o4⟩ := hI.ok _ (List.mem_of_getElem? epr)
      have o1 : pb < pa := o1
      have o2 : pa < ks.length := o2
      have eix : atI (ts.map V.ref) (i : Int) = some (V.ref ts[i]) := atI_nat (by rw [List.getElem?_map, eti]; rfl)
      refine ⟨_, rfl, _, rfl, pp, _, _, _, rfl, rfl, SqL.of hp8, eix, ts[i], _, rfl, hT8, rfl, _, _, rfl, _, _, rfl, rfl, ?_⟩
      refine ⟨_, rfl, _, rfl, pk, _, _, _, rfl, rfl, SqL.of hk8, atI_kind rfl o2, _, rfl, _, rfl, pk, _, _, _, rfl, rfl, SqL.of hk8, atI_kind rfl (by omega), rfl, ?_⟩
      have ix0 : atI (ds.map V.int) (2 * (i : Int)) = some (.int (ds.getD (2 * i) 0)) := atI_ints (by omega) (by omega)
      have ix1 : atI (ds.map V.int) (2 * (i : Int) + 1) = some (.int (ds.getD (2 * i + 1) 0)) := atI_ints (by omega) (by omega)
      have few := hL.few
      have lu : us.length = ls.length := hu.length
      have t0 : 0 ≤ ds.getD (2 * i + 1) 0 / 2 % 4 := Int.emod_nonneg _ (by decide)
      have t1 : ds.getD (2 * i + 1) 0 / 2 % 4 < 4 := Int.emod_lt_of_pos _ (by decide)
      dsimp only [gName]
      refine or_read (a := decide (ds.getD (2 * i) 0 % 5 < 3)) (b := (!decide (kindV (ks.getD pa true) = kindV (ks.getD pb true))) && decide (V.int (ds.getD (2 * i) 0 % 5) = V.int 3)) (fun Q q => ?_) (fun Q q => ?_) ?_
      · exact ⟨_, rfl, _, rfl, _, _, rfl, rfl, .inl ⟨by decide, by decide⟩, pd, _, _, _, rfl, rfl, SqL.of hd8, ix0, _, _, rfl, rfl, (by show (0 : Int) < 5; decide), _, _, rfl, rfl, _, rfl, q⟩
      · refine and_read (fun Q q => ?_) (fun _ Q q => ?_) q
        · exact ⟨_, rfl, _, rfl, q⟩
        · exact ⟨_, rfl, _, rfl, _, _, rfl, rfl, .inl ⟨by decide, by decide⟩, pd, _, _, _, rfl, rfl, SqL.of hd8, ix0, _, _, rfl, rfl, (by show (0 : Int) < 5; decide), rfl, _, rfl, q⟩
      · refine ite2 (fun _ => ?_) (fun _ => ?_)
        · refine ⟨_, rfl, _, rfl, _, _, rfl, rfl, .inl ⟨by decide, by decide⟩, _, _, rfl, rfl, pd, _, _, _, rfl, rfl, SqL.of hd8, ix1, _, _, rfl, rfl, (by show (0 : Int) < 2; decide), rfl, _, rfl, ite2 (fun _ => ?_) (fun _ => ?_)⟩
          · refine ⟨_, rfl, .inl ⟨rfl, _, SqL.of hl⟩, _, rfl, _, rfl, _, rfl, _, rfl, _, _, rfl, rfl, .inl ⟨by decide, by decide⟩, _, _, rfl, rfl, pd, _, _, _, rfl, rfl, SqL.of hd8, ix1, _, _, rfl, rfl, ⟨by decide, by decide⟩, _, _, rfl, rfl, (by show (0 : Int) < 4; decide), by show 3 ≤ sizeLine; decide, fun t nt => ?_⟩
            have st := same_new (o := .tup [V.int (pa : Int), V.int (pb : Int), V.int (ds.getD (2 * i + 1) 0 / 2 % 4)]) nt
            have hl' := st _ _ hl
            refine ⟨pl, _, _, rfl, rfl, hl', szl (by rw [List.length_map]; omega), ?_⟩
            refine ⟨_, _, _, _, us ++ [t], ls ++ [(pa, pb, ds.getD (2 * i + 1) 0 / 2 % 4)], rfl, kb.trans (but_app nt), ?_, ?_, hL.snoc hI.nd (by rw [norm_gt o1]; exact epr) ⟨t0, Int.le_of_lt t1⟩⟩
            · rw [upd_same, List.map_append]
              rfl
            · have kb2 : But pl (upd H8 t (.tup [V.int (pa : Int), V.int (pb : Int), V.int (ds.getD (2 * i + 1) 0 / 2 % 4)])) (upd (upd H8 t (.tup [V.int (pa : Int), V.int (pb : Int), V.int (ds.getD (2 * i + 1) 0 / 2 % 4)])) pl (.lst (us.map V.ref ++ [V.ref t]))) := but_self
              exact LinesAt.snoc (LinesAt.mono hu fun a b z => kb2.tupL hl' (same_tup st z)) (kb2.tupL hl' (SqT.of upd_same))
          · refine ⟨_, rfl, .inl ⟨rfl, _, SqL.of hl⟩, _, rfl, _, rfl, _, rfl, _, rfl, _, _, rfl, rfl, .inl ⟨by decide, by decide⟩, _, _, rfl, rfl, pd, _, _, _, rfl, rfl, SqL.of hd8, ix1, _, _, rfl, rfl, ⟨by decide, by decide⟩, _, _, rfl, rfl, (by show (0 : Int) < 4; decide), by show 3 ≤ sizeLine; decide, fun t nt => ?_⟩
            have st := same_new (o := .tup [V.int (pb : Int), V.int (pa : Int), V.int (ds.getD (2 * i + 1) 0 / 2 % 4)]) nt
            have hl' := st _ _ hl
            refine ⟨pl, _, _, rfl, rfl, hl', szl (by rw [List.length_map]; omega), ?_⟩
            refine ⟨_, _, _, _, us ++ [t], ls ++ [(pb, pa, ds.getD (2 * i + 1) 0 / 2 % 4)], rfl, kb.trans (but_app nt), ?_, ?_, hL.snoc hI.nd (by rw [norm_lt o1]; exact epr) ⟨t0, Int.le_of_lt t1⟩⟩
            · rw [upd_same, List.map_append]
              rfl
            · have kb2 : But pl (upd H8 t (.tup [V.int (pb : Int), V.int (pa : Int), V.int (ds.getD (2 * i + 1) 0 / 2 % 4)])) (upd (upd H8 t (.tup [V.int (pb : Int), V.int (pa : Int), V.int (ds.getD (2 * i + 1) 0 / 2 % 4)])) pl (.lst (us.map V.ref ++ [V.ref t]))) := but_self
              exact LinesAt.snoc (LinesAt.mono hu fun a b z => kb2.tupL hl' (same_tup st z)) (kb2.tupL hl' (SqT.of upd_same))
        · exact ⟨_, _, _, _, us, ls, rfl, kb, hl, hu, hL.skip⟩
    rintro σ H8 ⟨v6, v8, v9, v12, us, ls, rfl, kb8, hl8, hu8, hL⟩
    rw [lpm] at hL
    have hH : HInv ks ps ls 0 0 := hL.host (by omega)
    have hn8 := kb8 _ _ hn7 nnl
    have hk8 := kb8 _ _ hk7 nkl
    -- the end, from any such state
    have fin : ∀ (H9 : Hp) (us : List Addr) (ls : List (Nat × Nat × Int)), But pl H7 H9 → H9 pl = some (.lst (us.map V.ref)) → LinesAt K H9 us ls → LsOk ks.length ls →
        ∀ (H10 : Hp), Same H9 H10 → ∀ (x dx : Addr), H10 x = none → H10 dx = none → dx ≠ x → ∀ er : Int, 0 ≤ er → er ≤ 2 →
          spInit K C [.ref x, .ref pk, .ref pl, .int (ns.getD 6 0 / 5 % 3), .int er] (upd (upd H10 dx (.own x)) x (.ins C dx [])) (fun v H' => v = .non ∧ Q (.ref x) H') E0 := by
      intro H9 us ls kb hl hu hL H10 s10 x dx nx ndx ne er e0 e1
      have S9 : Same H H9 := same_but S7 nplH kb
      have z : ∀ b o, H10 b = some o → b ≠ x ∧ (upd (upd H10 dx (.own x)) x (.ins C dx [])) b = some o := fun b o e => by
        have h1 := ne_of_none e nx
        exact ⟨h1, by rw [upd_ne h1, upd_ne (ne_of_none e ndx)]; exact e⟩
      have zs : Same H10 (upd (upd H10 dx (.own x)) x (.ins C dx [])) := fun b o e => (z b o e).2
      refine ⟨x, dx, pk, pl, us, ⟨ks, ls, ns.getD 6 0 / 5 % 3, er⟩, rfl, upd_same, SqL.of (zs _ _ (s10 _ _ (kb _ _ hk7 nkl))), SqL.of (zs _ _ (s10 _ _ hl)), LinesAt.mono hu fun a ys t => same_tup zs (same_tup s10 t), ?_, fun H' kb' hN => ⟨rfl, ?_⟩⟩
      · have := hL.few
        show ls.length ≤ 1000
        omega
      · refine q H' x _ (fun b o e => ?_) (S9.free (s10.free nx)) hN ⟨by show 2 ≤ ks.count true; omega, by show ks.count true ≤ 4; omega, by show 1 ≤ ks.count false; omega, by show ks.count false ≤ 3; omega, hL, Int.emod_nonneg _ (by decide), ?_, e0, e1⟩
        · obtain ⟨z1, z2⟩ := z b o (s10 _ _ (S9 _ _ e))
          exact kb' b o z2 z1
        · have : ns.getD 6 0 / 5 % 3 < 3 := Int.emod_lt_of_pos _ (by decide)
          show ns.getD 6 0 / 5 % 3 ≤ 2
          omega
    have u0 : 0 ≤ ns.getD 7 0 % 4 := Int.emod_nonneg _ (by decide)
    have u1 : ns.getD 7 0 % 4 < 4 := Int.emod_lt_of_pos _ (by decide)
    obtain ⟨er, ee, er0, er1⟩ := er_at u0 u1
    -- if numbers[5] % 7 == 0
    refine ⟨_, rfl, pn, _, _, _, rfl, rfl, SqL.of hn8, atI_ints (j := 5) rfl (by omega), _, _, rfl, rfl, (by show (0 : Int) < 7; decide), rfl, _, rfl, ite2 (fun _ => ?_) (fun _ => ?_)⟩
    · refine ⟨_, rfl, pk, _, rfl, .inl (SqL.of hk8), _, rfl, by omega, by omega, for_range (n := (ks.map kindV).length) (fun i σ H' => ∃ (v8 v9 : Option V) (us : List Addr) (ls : List (Nat × Nat × Int)), σ = [some (.int c), some (.int m), some (.ref pn), some (.int (2 + ns.getD 0 0 % 3)), some (.int (1 + ns.getD 1 0 % 3)), some (.ref pk), v6, some (.ref pp), v8, v9, some (.ref pd), some (.ref pl), v12] ∧
        But pl H7 H' ∧ H' pl = some (.lst (us.map V.ref)) ∧ LinesAt K H' us ls ∧ HInv ks ps ls i 0) ⟨v8, v9, us, ls, rfl, kb8, hl8, hu8, hH⟩ ?_ ?_⟩
      · rintro i σ H9 hi ⟨v8, v9, us, ls, rfl, kb, hl, hu, hL⟩
        rw [lkm] at hi
        rw [Int.zero_add]
        refine ⟨_, rfl, (i : Int), rfl, by omega, by omega, for_range (n := i) (fun j σ H' => ∃ (v9 : Option V) (us : List Addr) (ls : List (Nat × Nat × Int)), σ = [some (.int c), some (.int m), some (.ref pn), some (.int (2 + ns.getD 0 0 % 3)), some (.int (1 + ns.getD 1 0 % 3)), some (.ref pk), v6, some (.ref pp), some (.int (i : Int)), v9, some (.ref pd), some (.ref pl), v12] ∧
          But pl H7 H' ∧ H' pl = some (.lst (us.map V.ref)) ∧ LinesAt K H' us ls ∧ HInv ks ps ls i j) ⟨v9, us, ls, rfl, kb, hl, hu, hL⟩ ?_ ?_⟩
        · rintro j σ H9 hj ⟨v9, us, ls, rfl, kb, hl, hu, hL⟩
          rw [Int.zero_add]
          have hk9 := kb _ _ hk7 nkl
          have hn9 := kb _ _ hn7 nnl
          have lu : us.length = ls.length := hu.length
          have few := hL.few
          refine and_read (a := decide (kindV (ks.getD i true) = V.str "host")) (b := decide (kindV (ks.getD j true) = V.str "host") && decide ((((us.map V.ref).length : Nat) : Int) < 20)) (fun Q q => ?_) (fun _ Q q => ?_) ?_
          · exact ⟨_, rfl, _, rfl, pk, _, _, _, rfl, rfl, SqL.of hk9, atI_kind rfl hi, rfl, _, rfl, q⟩
          · refine and_read (fun Q q => ?_) (fun _ Q q => ?_) q
            · exact ⟨_, rfl, _, rfl, pk, _, _, _, rfl, rfl, SqL.of hk9, atI_kind rfl (by omega), rfl, _, rfl, q⟩
            · exact ⟨_, rfl, pl, _, rfl, .inl (SqL.of hl), _, _, rfl, rfl, _, rfl, q⟩
          · refine ite2 (fun e => ?_) (fun e => ?_)
            · rw [Bool.and_eq_true, Bool.and_eq_true] at e
              obtain ⟨e1, e2, e3⟩ := e
              have e1 := kind_ho (of_decide_eq_true e1)
              have e2 := kind_ho (of_decide_eq_true e2)
              have e3 := of_decide_eq_true e3
              rw [List.length_map] at e3
              have t0 : 0 ≤ ns.getD 6 0 % 5 := Int.emod_nonneg _ (by decide)
              have t1 : ns.getD 6 0 % 5 < 5 := Int.emod_lt_of_pos _ (by decide)
              refine ⟨_, rfl, .inl ⟨rfl, _, SqL.of hl⟩, _, rfl, _, rfl, _, rfl, pn, _, _, _, rfl, rfl, SqL.of hn9, atI_ints (j := 6) rfl (by omega), _, _, rfl, rfl, (by show (0 : Int) < 5; decide), by show 3 ≤ sizeLine; decide, fun t nt => ?_⟩
              have st := same_new (o := .tup [V.int (i : Int), V.int (j : Int), V.int (ns.getD 6 0 % 5)]) nt
              have hl' := st _ _ hl
              refine ⟨pl, _, _, rfl, rfl, hl', szl (by rw [List.length_map]; omega), ?_⟩
              refine ⟨_, us ++ [t], ls ++ [(i, j, ns.getD 6 0 % 5)], rfl, kb.trans (but_app nt), ?_, ?_, hL.snoc hI hi hj e1 e2 ⟨t0, by omega⟩ (by omega)⟩
              · rw [upd_same, List.map_append]
                rfl
              · have kb2 : But pl (upd H9 t (.tup [V.int (i : Int), V.int (j : Int), V.int (ns.getD 6 0 % 5)])) (upd (upd H9 t (.tup [V.int (i : Int), V.int (j : Int), V.int (ns.getD 6 0 % 5)])) pl (.lst (us.map V.ref ++ [V.ref t]))) := but_self
                exact LinesAt.snoc (LinesAt.mono hu fun a b z => kb2.tupL hl' (same_tup st z)) (kb2.tupL hl' (SqT.of upd_same))
            · exact ⟨_, us, ls, rfl, kb, hl, hu, hL.skip⟩
        · rintro σ H9 ⟨v9, us, ls, rfl, kb, hl, hu, hL⟩
          exact ⟨_, v9, us, ls, rfl, kb, hl, hu, hL.next⟩
      · rintro σ H9 ⟨v8, v9, us, ls, rfl, kb, hl, hu, hL⟩
        have hn9 := kb _ _ hn7 nnl
        refine ⟨_, rfl, _, rfl, _, rfl, pn, _, _, _, rfl, rfl, SqL.of hn9, atI_ints (j := 6) rfl (by omega), _, _, rfl, rfl, ⟨by decide, by decide⟩, _, _, rfl, rfl, (by show (0 : Int) < 3; decide), by show 4 ≤ sizeLine; decide, fun pe npe => ?_⟩
        have se := same_new (o := .lst [V.int 0, V.int 1, V.int 0, V.int 2]) npe
        refine ⟨_, rfl, pn, _, _, _, rfl, rfl, SqL.of (se _ _ hn9), atI_ints (j := 7) rfl (by omega), _, _, rfl, rfl, (by show (0 : Int) < 4; decide), pe, _, _, _, rfl, rfl, SqL.of upd_same, ee, rfl, rfl, fun x dx nx ndx ne => ?_⟩
        exact fin H9 us ls kb hl hu (hL.ok hI) _ se x dx nx ndx ne er er0 er1
    · refine ⟨_, rfl, _, rfl, _, rfl, pn, _, _, _, rfl, rfl, SqL.of hn8, atI_ints (j := 6) rfl (by omega), _, _, rfl, rfl, ⟨by decide, by decide⟩, _, _, rfl, rfl, (by show (0 : Int) < 3; decide), by show 4 ≤ sizeLine; decide, fun pe npe => ?_⟩
      have se := same_new (o := .lst [V.int 0, V.int 1, V.int 0, V.int 2]) npe
      refine ⟨_, rfl, pn, _, _, _, rfl, rfl, SqL.of (se _ _ hn8), atI_ints (j := 7) rfl (by omega), _, _, rfl, rfl, (by show (0 : Int) < 4; decide), pe, _, _, _, rfl, rfl, SqL.of upd_same, ee, rfl, rfl, fun x dx nx ndx ne => ?_⟩
      exact fin H8 us ls kb8 hl8 hu8 (hH.ok hI) _ se x dx nx ndx ne er er0 er1
end
end My
namespace My
open PySem PySem.Spec PyProof.Rows L2
abbrev sJoined : Stmt := top 11
abbrev sPaths : Stmt := top 12
section
variable {P : Program} {w : World} {K : PySem.W.Frag} {mg : Str → Option Value} {base : Heap}
/-! ### _law_joined -/
theorem scJ : FnScope ["net", "a", "b", "first", "second", "ticks"] ["net", "a", "b"] (defScope sJoined) := ⟨rfl, rfl, rfl, by decide +kernel, rfl, by decide +kernel, by decide +kernel⟩
def spJoined (K : PySem.W.Frag) (C : Addr) : Sp := fun vs H Q _ => ∃ (p : Addr) (a b : Nat) (N : NetD), vs = [.ref p, .int (a : Int), .int (b : Int)] ∧ NetAt K C H p N ∧ Q (optV (joined N a b)) H
theorem ok_joined {f C : Addr} {fd : FuncData} {k : Nat} (F : Fun K "_law_joined" "_law_joined" sJoined f fd) (c : NetC K C) : FnOk P w K mg base CX0 (k + 1) f fd ["net", "a", "b"] (spJoined K C) := by
  refine F.ok scJ (fun vs H Q E h => ?_) (fun cdv A outer s H vs Q E hr h => ?_)
  · obtain ⟨p, a, b, N, rfl, _⟩ := h
    rfl
  · obtain ⟨p, a, b, N, rfl, hN, q⟩ := h
    have nd := scJ.nd
    refine ⟨_, pss_cons (ps_for PassesOwn.never rfl (pi_list (pe_fld (pv 0) rfl)) (pg_tup rfl (pgs_cons (pg_name (i := 3) nd rfl (.inl rfl)) (pgs_cons (pg_name (i := 4) nd rfl (.inl rfl)) (pgs_cons (pg_name (i := 5) nd rfl (.inl rfl)) pgs_nil)))) (pss_one (ps_if (PW.pt (pw_or (PW.pt (pw_and (pt_cmpR op_eq (pv 3) (pv 1) (nomark _)) (pw_and1 (pt_cmpR op_eq (pv 4) (pv 2) (nomark _))))) (pw_or1 (PW.pt (pw_and (pt_cmpR op_eq (pv 3) (pv 2) (nomark _)) (pw_and1 (pt_cmpR op_eq (pv 4) (pv 1) (nomark _)))))))) (pss_one (ps_ret (pv 5))) (pss_nil)))) <| pss_one (ps_ret pe_non), ?_⟩
    obtain ⟨dx, lk, ll, ld, ts, e1, e2, e3, e4, e5⟩ := id hN
    have tlen : ts.length = N.ls.length := e4.length
    refine ⟨_, rfl, p, C, dx, _, _, rfl, e1, c.cl, c.n2, g2, ll, rfl, ⟨_, SqL.of e3⟩, for_list (K := K) (a := ll) (xs := ts.map V.ref) (fun i σ H' => ∃ (v3 v4 v5 : Option V), σ = [some (.ref p), some (.int (a : Int)), some (.int (b : Int)), v3, v4, v5] ∧ H' = H ∧ (N.ls.take i).find? (hits a b) = none)
      ⟨none, none, none, rfl, rfl, rfl⟩ (fun i σ H' _ ⟨_, _, _, _, z, _⟩ => by rw [z]; exact SqL.of e3) ?_ ?_⟩
    · rintro i x σ H' hi ⟨v3, v4, v5, rfl, rfl, hf⟩
      rw [List.getElem?_map] at hi
      cases ht : ts[i]? with
      | none => rw [ht] at hi; cases hi
      | some t =>
        rw [ht] at hi
        cases hi
        obtain ⟨l, el, hT⟩ := Paired.at e4 ht
        refine ⟨t, _, rfl, hT, rfl, _, _, rfl, _, _, rfl, _, _, rfl, rfl, ?_⟩
        have eb : (decide (V.int (l.1 : Int) = V.int (a : Int)) && decide (V.int (l.2.1 : Int) = V.int (b : Int)) || decide (V.int (l.1 : Int) = V.int (b : Int)) && decide (V.int (l.2.1 : Int) = V.int (a : Int))) = hits a b l := by
          rw [dec_nat, dec_nat, dec_nat, dec_nat]
          rfl
        refine or_read (a := decide (V.int (l.1 : Int) = V.int (a : Int)) && decide (V.int (l.2.1 : Int) = V.int (b : Int))) (b := decide (V.int (l.1 : Int) = V.int (b : Int)) && decide (V.int (l.2.1 : Int) = V.int (a : Int))) (fun Q q => ?_) (fun Q q => ?_) ?_
        · exact and_read (fun Q q => ⟨_, rfl, _, rfl, rfl, _, rfl, q⟩) (fun _ Q q => ⟨_, rfl, _, rfl, rfl, _, rfl, q⟩) q
        · exact and_read (fun Q q => ⟨_, rfl, _, rfl, rfl, _, rfl, q⟩) (fun _ Q q => ⟨_, rfl, _, rfl, rfl, _, rfl, q⟩) q
        · rw [eb]
          refine ite2 (fun e => ?_) (fun e => ?_)
          · have ej : joined N a b = some l.2.2 := by
              unfold joined
              rw [find_take (hits a b) el hf e]
              rfl
            rw [ej] at q
            exact ⟨_, rfl, q⟩
          · exact ⟨_, _, _, rfl, rfl, find_skip (hits a b) el hf e⟩
    · rintro σ H' ⟨v3, v4, v5, rfl, rfl, hf⟩
      rw [List.length_map, tlen, List.take_length] at hf
      have ej : joined N a b = none := by
        unfold joined
        rw [hf]
        rfl
      rw [ej] at q
      exact q
/-! ### _law_paths -/
theorem scP : FnScope ["net", "most", "found", "rows", "turn", "longer", "row", "b", "a"] ["net", "most"] (defScope sPaths) := ⟨rfl, rfl, rfl, by decide +kernel, rfl, by decide +kernel, by decide +kernel⟩
def spPaths (K : PySem.W.Frag) (C : Addr) : Sp := fun vs H Q _ => ∃ (p : Addr) (m : Nat) (N : NetD), vs = [.ref p, .int ((m : Int) + 1)] ∧ NetAt K C H p N ∧ N.ks.length ≤ 7 ∧ m ≤ 4 ∧
  ∀ (H' : Hp) (pf : Addr) (fs : List Addr), Same H H' → H pf = none → H' pf = some (.lst (fs.map V.ref)) → RowsAt H' fs (foundOf N m) → Q (.ref pf) H'
theorem ok_paths {f C fJ : Addr} {fd fdJ : FuncData} {k : Nat} (F : Fun K "_law_paths" "_law_paths" sPaths f fd) (T : Blt mg) (c : NetC K C) (J : Callee P w K mg base 1 "_law_joined" ["net", "a", "b"] (spJoined K C) fJ fdJ) :
    FnOk P w K mg base CX0 (k + 2) f fd ["net", "most"] (spPaths K C) := by
  refine F.ok scP (fun vs H Q E h => ?_) (fun cdv A outer s H vs Q E hr h => ?_)
  · obtain ⟨p, m, N, rfl, _⟩ := h
    rfl
  · obtain ⟨p, m, N, rfl, hN, hn, hm, q⟩ := h
    have nd := scP.nd
    have hr1 : Room 1 _ := hr.mono (by omega)
    refine ⟨_, pss_cons (ps_set (i := 2) nd rfl (.inl rfl) (pe_lst pa_nil)) <| pss_cons (ps_setLc (i := 3) (own := [("a", 8)]) (g := gName 8) rfl nd rfl rfl (sw_true rfl rfl rfl (by decide +kernel)) (pi_range1 (by rfl) T.range (pa_cons (pe_callB call_len_seq (by rfl) T.len PySem.boot_len (pa_cons (pe_fld (pv 0) rfl) pa_nil)) pa_nil)) (blkOk_by (own := [("a", 8)]) (N := ["net", "most", "found", "rows", "turn", "longer", "row", "b", "a"]) (sc := defScope sPaths) (by decide +kernel)) (fun _ _ _ _ _ => pg_name (i := 8) nd rfl (Or.inl rfl)) (fun _ _ _ _ _ => pts_one (pt_cmpR op_eq (pe_ix (ix_listK (K := K)) (pe_fldK (K := K) (pv 0)) (pv 8) (fun _ _ => rfl)) pe_str (nomark _))) (fun _ _ _ _ _ => (pe_lst (pa_cons (pv 8) pa_nil)))) <| pss_cons (ps_for PassesOwn.never rfl (pi_range1 (by rfl) T.range (pa_cons (pe_op op_sub (pv 1) pe_int) pa_nil)) (pg_name (i := 4) nd rfl (.inl rfl)) (pss_cons (ps_set (i := 5) nd rfl (.inl rfl) (pe_lst pa_nil)) <| pss_cons (ps_for PassesOwn.never rfl (pi_list (pv 3)) (pg_name (i := 6) nd rfl (.inl rfl)) (pss_one (ps_for PassesOwn.never rfl (pi_range1 (by rfl) T.range (pa_cons (pe_callB call_len_seq (by rfl) T.len PySem.boot_len (pa_cons (pe_fld (pv 0) rfl) pa_nil)) pa_nil)) (pg_name (i := 7) nd rfl (.inl rfl)) (pss_one (ps_if (PW.pt (pw_and (pt_cmpR op_notIn_seq (pv 7) (pv 6) rfl) (pw_and1 (pt_cmpR op_notN (pe_call J.ok hr1 (by rfl) J.mg J.kp J.b .nil pass0 (pa_cons (pv 0) (pa_cons (pe_ix ix_list (pv 6) (pe_op op_sub (pe_callB call_len_seq (by rfl) T.len PySem.boot_len (pa_cons (pv 6) pa_nil)) pe_int) (fun _ _ => rfl)) (pa_cons (pv 7) pa_nil)))) pe_non (nomark _))))) (pss_one (ps_if (pt_cmpR op_eq (pe_ix ix_list (pe_fld (pv 0) rfl) (pv 7) (fun _ _ => rfl)) pe_str (nomark _)) (pss_one (ps_expr (pe_bm PySem.F.plainAttrs_list PySem.F.slot_list_append PySem.F.type_list_append mt_append (pv 2) (pa_cons (pe_op op_cat (pv 6) (pe_lst (pa_cons (pv 7) pa_nil))) pa_nil)))) (pss_one (ps_expr (pe_bm PySem.F.plainAttrs_list PySem.F.slot_list_append PySem.F.type_list_append mt_append (pv 5) (pa_cons (pe_op op_cat (pv 6) (pe_lst (pa_cons (pv 7) pa_nil))) pa_nil)))))) (pss_nil)))))) <| pss_one (ps_set (i := 3) nd rfl (.inl rfl) (pv 5)))) <| pss_one (ps_ret (pv 2)), ?_⟩
    have eN := hN
    obtain ⟨dx, lk, ll, ld, ts, e1, e2, e3, e4, e5⟩ := hN
    have en : (N.ks.map kindV).length = N.ks.length := List.length_map ..
    -- found = []
    refine ⟨Nat.zero_le _, fun pf npf => ?_⟩
    have s1 := same_new (o := .lst []) npf
    have hf1 : (upd H pf (.lst [])) pf = some (.lst []) := upd_same
    generalize (upd H pf (.lst [])) = H1 at s1 hf1 ⊢
    -- rows = [[a] for a in range(len(net.kinds)) if net.kinds[a] == "host"]
    refine ⟨_, rfl, p, C, dx, _, _, rfl, s1 _ _ e1, c.cl, c.n1, g1, lk, _, rfl, .inl (SqL.of (s1 _ _ e2)), _, rfl, by omega, by omega, fun D nD => ?_⟩
    have nfD : pf ≠ D := ne_of_none hf1 nD
    refine lc_range (lo := 0) (n := (N.ks.map kindV).length) (fun i H' => Same H H' ∧ H' pf = some (.lst []) ∧ ∃ rs : List Addr, H' D = some (.lst (rs.map V.ref)) ∧ RowsAt H' rs (((List.range i).filter (host N)).map fun a => [a]) ∧ rs.length ≤ i)
      ⟨s1.trans (same_new nD), by rw [upd_ne nfD]; exact hf1, [], upd_same, .nil, Nat.le_refl _⟩ ?_ ?_
    · rintro i H' hi ⟨sm, hf, rs, hD, hR, hl⟩
      rw [en] at hi
      rw [Int.zero_add]
      refine ⟨rfl, ?_⟩
      refine ⟨_, rfl, p, C, dx, _, _, rfl, sm _ _ e1, c.cl, c.n1, g1, _, rfl, lk, _, _, _, rfl, rfl, SqL.of (sm _ _ e2), atI_kind rfl hi, rfl, _, rfl, ?_⟩
      have eb : decide (kindV (N.ks.getD i true) = V.str "host") = host N i := by
        unfold host
        cases N.ks.getD i true <;> decide +kernel
      rw [eb]
      refine ite2 (fun e => ?_) (fun e => ?_)
      · refine ⟨_, rfl, by show 1 ≤ sizeLine; decide, fun t nt => ?_⟩
        have st := same_new (o := .lst [V.int (i : Int)]) nt
        have hD' := st _ _ hD
        refine ⟨_, hD', szl (by rw [List.length_map]; omega), ?_⟩
        have kb : But D (upd H' t (.lst [V.int (i : Int)])) (upd (upd H' t (.lst [V.int (i : Int)])) D (.lst (rs.map V.ref ++ [V.ref t]))) := but_self
        have ntD : t ≠ D := fun z => by rw [z, hD] at nt; cases nt
        refine ⟨same_but (sm.trans st) (s1.free nD) kb, kb _ _ (st _ _ hf) nfD, rs ++ [t], ?_, ?_, by rw [List.length_append, List.length_singleton]; omega⟩
        · rw [upd_same, List.map_append]
          rfl
        · rw [filt_succ, if_pos e]
          refine RowsAt.snoc ((hR.same st).but hD' kb) (by simp) ?_
          rw [upd_ne ntD, upd_same]
          rfl
      · refine ⟨sm, hf, rs, hD, ?_, by omega⟩
        rw [filt_succ, if_neg e, List.append_nil]
        exact hR
    rintro H2 ⟨s2, hf2, rs, hD2, hR2, _⟩
    rw [en] at hR2
    -- the turns
    refine ⟨_, rfl, _, _, rfl, rfl, (m : Int) + 1 - 1, rfl, by omega, by omega, for_range (n := ((m : Int) + 1 - 1).toNat) (fun t σ H' => ∃ (pr : Addr) (rs fs : List Addr) (v4 v5 v6 v7 v8 : Option V), σ = [some (.ref p), some (.int ((m : Int) + 1)), some (.ref pf), some (.ref pr), v4, v5, v6, v7, v8] ∧
      Same H H' ∧ pr ≠ pf ∧ H' pf = some (.lst (fs.map V.ref)) ∧ RowsAt H' fs (foundOf N t) ∧ H' pr = some (.lst (rs.map V.ref)) ∧ RowsAt H' rs (rowsOf N t))
      ⟨D, rs, [], _, _, _, _, _, rfl, s2, nfD.symm, hf2, .nil, hD2, hR2⟩ ?_ ?_⟩
    · rintro t σ H3 ht ⟨pr, rs, fs, v4, v5, v6, v7, v8, rfl, s3, nrf, hf3, hF3, hr3, hR3⟩
      have ht4 : t < 4 := by omega
      have lrs : rs.length = (rowsOf N t).length := hR3.length
      have lfs : fs.length = (foundOf N t).length := hF3.length
      have b1 := rows_len N hn t
      have b2 := found_len N hn t
      have b3 : 8 ^ (t + 1) ≤ 8 ^ 4 := Nat.pow_le_pow_right (by decide) (by omega)
      have b4 : (8 : Nat) ^ 4 = 4096 := by decide
      -- longer = []
      refine ⟨Nat.zero_le _, fun pl npl => ?_⟩
      have s4 := same_new (o := .lst []) npl
      have nfl : pf ≠ pl := ne_of_none hf3 npl
      have nrl : pr ≠ pl := ne_of_none hr3 npl
      have nplH := s3.free npl
      have hl4 : (upd H3 pl (.lst [])) pl = some (.lst []) := upd_same
      have hf4 := s4 _ _ hf3
      have hr4 := s4 _ _ hr3
      have hF4 := hF3.same s4
      have hR4 := hR3.same s4
      have S4 := s3.trans s4
      generalize (upd H3 pl (.lst [])) = H4 at s4 hl4 hf4 hr4 hF4 hR4 S4 ⊢
      -- for row in rows
      refine ⟨_, rfl, pr, rfl, ⟨_, SqL.of hr4⟩, for_list (K := K) (a := pr) (xs := rs.map V.ref) (fun i σ H' => ∃ (fs ls : List Addr) (v6 v7 : Option V), σ = [some (.ref p), some (.int ((m : Int) + 1)), some (.ref pf), some (.ref pr), some (.int (0 + (t : Int))), some (.ref pl), v6, v7, v8] ∧
        Same H H' ∧ H' pf = some (.lst (fs.map V.ref)) ∧ RowsAt H' fs (foundOf N t ++ ((rowsOf N t).take i).flatMap (exH N)) ∧ H' pl = some (.lst (ls.map V.ref)) ∧ RowsAt H' ls (((rowsOf N t).take i).flatMap (exS N)) ∧ H' pr = some (.lst (rs.map V.ref)) ∧ RowsAt H' rs (rowsOf N t))
        ⟨fs, [], v6, v7, rfl, S4, hf4, by simpa using hF4, hl4, .nil, hr4, hR4⟩ (fun i σ H' _ ⟨_, _, _, _, _, _, _, _, _, _, z, _⟩ => SqL.of z) ?_ ?_⟩
      · rintro i x σ H5 hi ⟨fs, ls, v6, v7, rfl, s5, hf5, hF5, hl5, hL5, hr5, hR5⟩
        rw [List.getElem?_map] at hi
        cases htr : rs[i]? with
        | none => rw [htr] at hi; cases hi
        | some ra =>
          rw [htr] at hi
          cases hi
          obtain ⟨row, erow, rne, hrow⟩ := Paired.at hR5 htr
          have hii : i < (rowsOf N t).length := (List.getElem?_eq_some_iff.mp erow).1
          have f1 := len_flat (exH N) 7 (fun a => Nat.le_trans (exH_len N a) hn) ((rowsOf N t).take i)
          have f2 := len_flat (exS N) 7 (fun a => Nat.le_trans (exS_len N a) hn) ((rowsOf N t).take i)
          have f3 : ((rowsOf N t).take i).length ≤ 4096 := by rw [List.length_take]; omega
          refine ⟨_, rfl, p, C, dx, _, _, rfl, s5 _ _ e1, c.cl, c.n1, g1, lk, _, rfl, .inl (SqL.of (s5 _ _ e2)), _, rfl, by omega, by omega, for_range (n := (N.ks.map kindV).length) (fun j σ H' => ∃ (fs ls : List Addr) (v7 : Option V), σ = [some (.ref p), some (.int ((m : Int) + 1)), some (.ref pf), some (.ref pr), some (.int (0 + (t : Int))), some (.ref pl), some (.ref ra), v7, v8] ∧
            Same H H' ∧ H' pf = some (.lst (fs.map V.ref)) ∧ RowsAt H' fs (foundOf N t ++ ((rowsOf N t).take i).flatMap (exH N) ++ ((List.range j).filter fun b => okb N row b && host N b).map fun b => row ++ [b]) ∧
            H' pl = some (.lst (ls.map V.ref)) ∧ RowsAt H' ls (((rowsOf N t).take i).flatMap (exS N) ++ ((List.range j).filter fun b => okb N row b && !host N b).map fun b => row ++ [b]) ∧ H' pr = some (.lst (rs.map V.ref)) ∧ RowsAt H' rs (rowsOf N t) ∧ H' ra = some (.lst (natsV row)))
            ⟨fs, ls, v7, rfl, s5, hf5, by simpa using hF5, hl5, by simpa using hL5, hr5, hR5, hrow⟩ ?_ ?_⟩
          · rintro j σ H6 hj ⟨fs, ls, v7, rfl, s6, hf6, hF6, hl6, hL6, hr6, hR6, hrow6⟩
            rw [en] at hj
            rw [Int.zero_add]
            have lf := hF6.length
            have ll' := hL6.length
            rw [List.length_append, List.length_append, List.length_map] at lf
            rw [List.length_append, List.length_map] at ll'
            have lq1 := List.length_filter_le (fun b => okb N row b && host N b) (List.range j)
            have lq2 := List.length_filter_le (fun b => okb N row b && !host N b) (List.range j)
            rw [List.length_range] at lq1 lq2
            have rl : 0 < row.length := List.length_pos_iff.mpr rne
            have rlc : row.length ≤ 100 := by rw [rows_row N t row (List.mem_of_getElem? erow)]; omega
            have elast : atI (natsV row) (((natsV row).length : Int) - 1) = some (.int ((lastN row : Nat) : Int)) := by
              have h1 : row.length - 1 < row.length := by omega
              have h2 : (((natsV row).length : Int) - 1) = ((row.length - 1 : Nat) : Int) := by rw [natsV_len]; omega
              rw [h2]
              exact atI_nat (natsV_at (getD_at 0 h1))
            refine and_read (a := !(row.contains j)) (b := adj N (lastN row) j) (fun Q q => ?_) (fun _ Q q => ?_) ?_
            · refine ⟨_, rfl, _, rfl, ra, natsV row, rfl, .inl (SqL.of hrow6), rfl, natsV_flat row, _, rfl, ?_⟩
              show Q (!inV (V.int (j : Int)) (natsV row)) H6
              rw [natsV_in]
              exact q
            · refine ⟨_, rfl, _, rfl, _, rfl, ra, _, rfl, .inl (SqL.of hrow6), _, _, rfl, rfl, ra, _, _, _, rfl, rfl, SqL.of hrow6, elast, _, rfl, p, lastN row, j, N, rfl, eN.same s6, ?_⟩
              refine ⟨rfl, _, rfl, ?_⟩
              rw [optV_non, joined_some]
              exact q
            · show (if okb N row j = true then _ else _)
              refine ite2 (fun e => ?_) (fun e => ?_)
              · have eb : decide (kindV (N.ks.getD j true) = V.str "host") = host N j := by
                  unfold host
                  cases N.ks.getD j true <;> decide +kernel
                refine ⟨_, rfl, p, C, dx, _, _, rfl, s6 _ _ e1, c.cl, c.n1, g1, _, rfl, lk, _, _, _, rfl, rfl, SqL.of (s6 _ _ e2), atI_kind rfl hj, rfl, _, rfl, ?_⟩
                rw [eb]
                refine ite2 (fun eh => ?_) (fun eh => ?_)
                · refine ⟨_, rfl, .inl ⟨rfl, _, SqL.of hf6⟩, _, rfl, _, rfl, by show 1 ≤ sizeLine; decide, fun u nu => ?_⟩
                  have su := same_new (o := .lst [V.int (j : Int)]) nu
                  refine ⟨ra, u, _, _, rfl, rfl, su _ _ hrow6, upd_same, sz (by rw [natsV_len]; show row.length + 1 ≤ 100000; omega), fun y ny => ?_⟩
                  have sy := same_new (o := .lst (natsV row ++ [V.int (j : Int)])) ny
                  have suy := su.trans sy
                  refine ⟨pf, _, _, rfl, rfl, suy _ _ hf6, szl (by rw [List.length_map]; omega), ?_⟩
                  have hy : (upd (upd H6 u (.lst [V.int (j : Int)])) y (.lst (natsV row ++ [V.int (j : Int)]))) y = some (.lst (natsV (row ++ [j]))) := by rw [upd_same, natsV_app]
                  have nyf : y ≠ pf := fun z => by rw [z, su _ _ hf6] at ny; cases ny
                  generalize (upd (upd H6 u (.lst [V.int (j : Int)])) y (.lst (natsV row ++ [V.int (j : Int)]))) = H7 at suy hy ⊢
                  have kb : But pf H7 (upd H7 pf (.lst (fs.map V.ref ++ [V.ref y]))) := but_self
                  have hf7 := suy _ _ hf6
                  refine ⟨fs ++ [y], ls, _, rfl, same_but (s6.trans suy) npf kb, by rw [upd_same, List.map_append]; rfl, ?_, kb _ _ (suy _ _ hl6) nfl.symm, ?_, kb _ _ (suy _ _ hr6) nrf, (hR6.same suy).but hf7 kb, kb _ _ (suy _ _ hrow6) (row_ne rne (suy _ _ hrow6) hf7)⟩
                  · rw [filt_succ, if_pos (by rw [e, eh]; rfl), ← List.append_assoc]
                    exact RowsAt.snoc ((hF6.same suy).but hf7 kb) (by simp) (kb _ _ hy nyf)
                  · rw [filt_succ, if_neg (by rw [e, eh]; decide), List.append_nil]
                    exact (hL6.same suy).but hf7 kb
                · have eh' : host N j = false := Bool.eq_false_iff.mpr eh
                  refine ⟨_, rfl, .inl ⟨rfl, _, SqL.of hl6⟩, _, rfl, _, rfl, by show 1 ≤ sizeLine; decide, fun u nu => ?_⟩
                  have su := same_new (o := .lst [V.int (j : Int)]) nu
                  refine ⟨ra, u, _, _, rfl, rfl, su _ _ hrow6, upd_same, sz (by rw [natsV_len]; show row.length + 1 ≤ 100000; omega), fun y ny => ?_⟩
                  have sy := same_new (o := .lst (natsV row ++ [V.int (j : Int)])) ny
                  have suy := su.trans sy
                  refine ⟨pl, _, _, rfl, rfl, suy _ _ hl6, szl (by rw [List.length_map]; omega), ?_⟩
                  have hy : (upd (upd H6 u (.lst [V.int (j : Int)])) y (.lst (natsV row ++ [V.int (j : Int)]))) y = some (.lst (natsV (row ++ [j]))) := by rw [upd_same, natsV_app]
                  have nyl : y ≠ pl := fun z => by rw [z, su _ _ hl6] at ny; cases ny
                  generalize (upd (upd H6 u (.lst [V.int (j : Int)])) y (.lst (natsV row ++ [V.int (j : Int)]))) = H7 at suy hy ⊢
                  have kb : But pl H7 (upd H7 pl (.lst (ls.map V.ref ++ [V.ref y]))) := but_self
                  have hl7 := suy _ _ hl6
                  refine ⟨fs, ls ++ [y], _, rfl, same_but (s6.trans suy) nplH kb, kb _ _ (suy _ _ hf6) nfl, ?_, by rw [upd_same, List.map_append]; rfl, ?_, kb _ _ (suy _ _ hr6) nrl, (hR6.same suy).but hl7 kb, kb _ _ (suy _ _ hrow6) (row_ne rne (suy _ _ hrow6) hl7)⟩
                  · rw [filt_succ, if_neg (by rw [e, eh']; decide), List.append_nil]
                    exact (hF6.same suy).but hl7 kb
                  · rw [filt_succ, if_pos (by rw [e, eh']; rfl), ← List.append_assoc]
                    exact RowsAt.snoc ((hL6.same suy).but hl7 kb) (by simp) (kb _ _ hy nyl)
              · have e' : okb N row j = false := Bool.eq_false_iff.mpr e
                refine ⟨fs, ls, _, rfl, s6, hf6, ?_, hl6, ?_, hr6, hR6, hrow6⟩
                · rw [filt_succ, if_neg (by rw [e']; simp), List.append_nil]
                  exact hF6
                · rw [filt_succ, if_neg (by rw [e']; simp), List.append_nil]
                  exact hL6
          · rintro σ H6 ⟨fs, ls, v7, rfl, s6, hf6, hF6, hl6, hL6, hr6, hR6, hrow6⟩
            rw [en] at hF6 hL6
            refine ⟨fs, ls, _, v7, rfl, s6, hf6, ?_, hl6, ?_, hr6, hR6⟩
            · rw [flat_take (exH N) erow, ← List.append_assoc]
              exact hF6
            · rw [flat_take (exS N) erow]
              exact hL6
      · rintro σ H5 ⟨fs, ls, v6, v7, rfl, s5, hf5, hF5, hl5, hL5, hr5, hR5⟩
        rw [List.length_map, lrs, List.take_length] at hF5 hL5
        refine ⟨_, rfl, pl, ls, fs, _, _, _, _, _, rfl, s5, nfl.symm, hf5, hF5, hl5, hL5⟩
    · rintro σ H3 ⟨pr, rs, fs, v4, v5, v6, v7, v8, rfl, s3, nrf, hf3, hF3, hr3, hR3⟩
      have em : ((m : Int) + 1 - 1).toNat = m := by omega
      rw [em] at hF3
      exact ⟨_, rfl, q H3 pf fs s3 npf hf3 hF3⟩
end
end My
namespace My
open PySem PySem.Spec PyProof.Rows L2
abbrev sShort : Stmt := top 4
abbrev sNext : Stmt := top 5
abbrev sWay : Stmt := top 6
section
variable {P : Program} {w : World} {K : PySem.W.Frag} {mg : Str → Option Value} {base : Heap}
/-! ### next_nodes -/
theorem scNext : FnScope ["net", "first", "arcs", "node", "kind"] ["net", "first"] (defScope sNext) := ⟨rfl, rfl, rfl, by decide +kernel, rfl, by decide +kernel, by decide +kernel⟩
def spNext (K : PySem.W.Frag) (C : Addr) : Sp := fun vs H Q _ => ∃ (p : Addr) (a : Nat) (N : NetD), vs = [.ref p, .int (a : Int)] ∧ NetAt K C H p N ∧ N.ks.length ≤ 1000 ∧
  ∀ (H' : Hp) (d : Addr), Same H H' → H d = none → ArcsAt H' d (arcsOf N a) N.ks.length → Q (.ref d) H'
structure MethOf (P : Program) (w : World) (K : PySem.W.Frag) (mg : Str → Option Value) (base : Heap) (k : Nat) (ps : List Str) (sp : Sp) (f : Addr) (fd : FuncData) : Prop where
  ok : FnOk P w K mg base CX0 k f fd ps sp
  b : Binds K fd ps []
theorem ok_next {f C fN : Addr} {fd fdN : FuncData} {k : Nat} (F : Fun K "next_nodes" "next_nodes" sNext f fd) (T : Blt mg) (c : NetC K C) (mN : Meth K C "neighbours" fN) (GN : MethOf P w K mg base 1 ["self", "a"] (spNb K C) fN fdN) :
    FnOk P w K mg base CX0 (k + 2) f fd ["net", "first"] (spNext K C) := by
  refine F.ok scNext (fun vs H Q E h => ?_) (fun cdv A outer s H vs Q E hr h => ?_)
  · obtain ⟨p, a, N, rfl, _⟩ := h
    rfl
  · obtain ⟨p, a, N, rfl, hN, hn, q⟩ := h
    have nd := scNext.nd
    have hu := hu_of hr
    have hr1 : Room 1 _ := hr.mono (by omega)
    refine ⟨_, pss_cons (ps_set (i := 2) nd rfl (.inl rfl) pe_dnewK) <| pss_cons (ps_for PassesOwn.never rfl (pi_enum (by rfl) T.enum (pa_cons (pe_fld (pv 0) rfl) pa_nil)) (pg_tup rfl (pgs_cons (pg_name (i := 3) nd rfl (.inl rfl)) (pgs_cons (pg_name (i := 4) nd rfl (.inl rfl)) pgs_nil))) (pss_one (ps_dput hu (pv 2) (pv 3) (pe_ifExp (PW.pt (pw_or (pt_cmpR op_eq (pv 3) (pv 1) (nomark _)) (pw_or1 (pt_cmpR op_eq (pv 4) pe_str (nomark _))))) (pe_meth (pv 0) c.cl mN GN.ok hr1 GN.b .nil pass0 (pa_cons (pv 3) pa_nil)) (pe_lst pa_nil)) rfl))) <| pss_one (ps_ret (pv 2)), ?_⟩
    have eN := hN
    obtain ⟨dx, lk, ll, ld, ts, e1, e2, e3, e4, e5⟩ := hN
    have en : (N.ks.map kindV).length = N.ks.length := List.length_map ..
    -- arcs = {}
    refine fun d nd0 => ?_
    have s1 := same_new (o := .dK []) nd0
    have hd1 : (upd H d (.dK [])) d = some (.dK []) := upd_same
    generalize (upd H d (.dK [])) = H1 at s1 hd1 ⊢
    refine ⟨_, rfl, p, C, dx, _, _, rfl, s1 _ _ e1, c.cl, c.n1, g1, lk, _, rfl, SqL.of (s1 _ _ e2), for_it (walk_enum (K := K) (a := lk) (xs := N.ks.map kindV)) (fun i σ H' => ∃ (v3 v4 : Option V) (kvs : List (Key × V)), σ = [some (.ref p), some (.int (a : Int)), some (.ref d), v3, v4] ∧
      Same H H' ∧ H' d = some (.dK kvs) ∧ kvs.length ≤ i ∧ ∀ x, x < i → ∃ l, valV kvs (Sum.inl (x : Int)) = some (.ref l) ∧ H' l = some (.lst (natsV (arcsOf N a x))))
      ⟨none, none, [], rfl, s1, hd1, Nat.le_refl _, fun x hx => absurd hx (Nat.not_lt_zero _)⟩ (fun i σ H' _ ⟨_, _, _, _, sm, _⟩ => SqL.of (sm _ _ e2)) ?_ ?_⟩
    · rintro i x σ H2 H3 hi ⟨v3, v4, kvs, rfl, sm, hd, hlen, hk⟩ ⟨t, y, z, rfl, nt, rfl, hy, hz⟩
      rw [en] at hi
      cases hy
      have ez : z = kindV (N.ks.getD i true) := by
        have hz : (N.ks.map kindV)[i]? = some z := hz
        rw [List.getElem?_map, getD_at true hi] at hz
        exact (Option.some.inj hz).symm
      subst ez
      have st := same_new (o := .tup [V.int ((i : Nat) : Int), kindV (N.ks.getD i true)]) nt
      refine ⟨t, _, rfl, SqT.of upd_same, rfl, _, _, rfl, _, _, rfl, rfl, ?_⟩
      have nxt : ∀ (H4 : Hp) (l : Addr), Same (upd H2 t (.tup [V.int ((i : Nat) : Int), kindV (N.ks.getD i true)])) H4 → H4 l = some (.lst (natsV (arcsOf N a i))) → 
          Same H (upd H4 d (.dK (putK kvs (Sum.inl (i : Int)) (.ref l)))) ∧ H4 d = some (.dK kvs) ∧ (putK kvs (Sum.inl (i : Int)) (.ref l)).length ≤ i + 1 ∧
          ∀ x, x < i + 1 → ∃ l', valV (putK kvs (Sum.inl (i : Int)) (.ref l)) (Sum.inl (x : Int)) = some (.ref l') ∧ (upd H4 d (.dK (putK kvs (Sum.inl (i : Int)) (.ref l)))) l' = some (.lst (natsV (arcsOf N a x))) := fun H4 l s4 hl => by
        have ndl : ∀ (l' : Addr) (r : List Nat), H4 l' = some (.lst (natsV r)) → l' ≠ d := fun l' r e => ne_of e (s4 _ _ (st _ _ hd)) (by intro z; cases z)
        refine ⟨same_mut ((sm.trans st).trans s4) nd0, s4 _ _ (st _ _ hd), by have := length_putK kvs (Sum.inl (i : Int)) (.ref l); omega, fun x hx => ?_⟩
        by_cases e : x = i
        · subst e
          exact ⟨l, by rw [valV_put, if_pos rfl], by rw [upd_ne (ndl l _ hl)]; exact hl⟩
        · obtain ⟨l', h1, h2⟩ := hk x (by omega)
          have h2' := s4 _ _ (st _ _ h2)
          refine ⟨l', ?_, by rw [upd_ne (ndl l' _ h2')]; exact h2'⟩
          rw [valV_put, if_neg fun z => e (by injection z with z; omega)]
          exact h1
      have eb : (decide (V.int (i : Int) = V.int (a : Int)) || decide (kindV (N.ks.getD i true) = V.str "switch")) = (decide (i = a) || !host N i) := by
        rw [dec_nat]
        congr 1
        unfold host
        cases N.ks.getD i true <;> decide +kernel
      refine or_read (a := decide (V.int (i : Int) = V.int (a : Int))) (b := decide (kindV (N.ks.getD i true) = V.str "switch")) (fun Q q => ⟨_, rfl, _, rfl, rfl, _, rfl, q⟩) (fun Q q => ⟨_, rfl, rfl, _, rfl, q⟩) ?_
      rw [eb]
      refine ite2 (fun e => ?_) (fun e => ?_)
      · refine ⟨_, rfl, p, dx, _, rfl, st _ _ (sm _ _ e1), g6, _, rfl, p, i, N, rfl, eN.same (sm.trans st), hn, fun H4 l s4 nl hl => ?_⟩
        have ea : arcsOf N a i = nbs N i := if_pos e
        rw [← ea] at hl
        obtain ⟨z1, z2, z3, z4⟩ := nxt H4 l s4 hl
        refine ⟨_, rfl, _, rfl, d, _, rfl, DPut.k (k := Sum.inl (i : Int)) z2 (small1000 (by omega)), _, _, _, rfl, z1, upd_same, z3, z4⟩
      · refine ⟨Nat.zero_le _, fun l nl => ?_⟩
        have ea : arcsOf N a i = [] := if_neg e
        obtain ⟨z1, z2, z3, z4⟩ := nxt _ l (same_new (o := .lst []) nl) (by rw [ea]; exact upd_same)
        refine ⟨_, rfl, _, rfl, d, _, rfl, DPut.k (k := Sum.inl (i : Int)) z2 (small1000 (by omega)), _, _, _, rfl, z1, upd_same, z3, z4⟩
    · rintro σ H' ⟨v3, v4, kvs, rfl, sm, hd, hlen, hk⟩
      rw [en] at hk
      exact ⟨_, rfl, q H' d sm nd0 ⟨kvs, hd, hk⟩⟩
/-! ### find_way -/
theorem scWay : FnScope ["arcs", "start", "goal", "ways", "level", "reached", "place", "head"] ["arcs", "start", "goal"] (defScope sWay) := ⟨rfl, rfl, rfl, by decide +kernel, rfl, by decide +kernel, by decide +kernel⟩
def spWay : Sp := fun vs H Q _ => ∃ (d : Addr) (s g n T : Nat) (A : Nat → List Nat), vs = [.ref d, .int (s : Int), .int (g : Int)] ∧ ArcsAt H d A n ∧ n ≤ 100 ∧ s < n ∧ (∀ a, a < n → ∀ b ∈ A a, b < n) ∧ T ≤ 50 ∧ (lev A s T).2 = [] ∧
  ∀ (H' : Hp) (v : V), Same H H' → WayV H H' ((lev A s T).1 g) v → Q v H'
theorem ok_way {f : Addr} {fd : FuncData} {k : Nat} (F : Fun K "find_way" "find_way" sWay f fd) : FnOk P w K mg base CX0 (k + 1) f fd ["arcs", "start", "goal"] spWay := by
  refine F.ok scWay (fun vs H Q E h => ?_) (fun cdv A outer s H vs Q E hr h => ?_)
  · obtain ⟨d, s, g, n, T, A, rfl, _⟩ := h
    rfl
  · obtain ⟨d, s, g, n, T, A, rfl, hA, hn, hs, hAn, hT, hend, q⟩ := h
    have nd := scWay.nd
    have hu := hu_of hr
    refine ⟨_, pss_cons (ps_set (i := 3) nd rfl (.inl rfl) (pe_disp (pps_cons (pv 1) (pe_lst (pa_cons (pv 1) pa_nil)) pps_nil) (by rfl) (by rfl) (fun z => by cases z) (by decide))) <| pss_cons (ps_set (i := 4) nd rfl (.inl rfl) (pe_lst (pa_cons (pv 1) pa_nil))) <| pss_cons (ps_while PassesOwn.never (pt_truth (pv 4) (by intro _; rfl)) (pss_cons (ps_set (i := 5) nd rfl (.inl rfl) (pe_lst pa_nil)) <| pss_cons (ps_for PassesOwn.never rfl (pi_list (pv 4)) (pg_name (i := 6) nd rfl (.inl rfl)) (pss_one (ps_for PassesOwn.never rfl (pi_list (pe_dget hu (pv 0) (pv 6) (fun _ _ => rfl))) (pg_name (i := 7) nd rfl (.inl rfl)) (pss_one (ps_if (pt_cmp (pc_dnotin hu (pv 7) (pv 3))) (pss_cons (ps_dput hu (pv 3) (pv 7) (pe_op op_cat (pe_dget hu (pv 3) (pv 6) (fun _ _ => rfl)) (pe_lst (pa_cons (pv 7) pa_nil))) rfl) <| pss_one (ps_expr (pe_bm PySem.F.plainAttrs_list PySem.F.slot_list_append PySem.F.type_list_append mt_append (pv 5) (pa_cons (pv 7) pa_nil)))) (pss_nil)))))) <| pss_one (ps_set (i := 4) nd rfl (.inl rfl) (pv 5)))) <| pss_one (ps_ret (pe_dget1 hu (pv 3) (pv 2) ⟨rfl, rfl, rfl, rfl⟩)), ?_⟩
    -- ways = {start: [start]}
    refine fun pd npd => ⟨_, rfl, _, rfl, by show 1 ≤ sizeLine; decide, fun l0 nl0 => ?_⟩
    have s1 := same_new (o := .dK []) npd
    have s2 := same_new (o := .lst [V.int (s : Int)]) nl0
    have hpd2 : (upd (upd H pd (.dK [])) l0 (.lst [V.int (s : Int)])) pd = some (.dK []) := s2 _ _ upd_same
    refine ⟨hpd2, [(Sum.inl (s : Int), V.ref l0)], rfl, by show 1 ≤ 15; decide, ?_⟩
    have hl2 : (upd (upd H pd (.dK [])) l0 (.lst [V.int (s : Int)])) l0 = some (.lst (natsV [s])) := upd_same
    have nl0H := s1.free nl0
    have s12 := s1.trans s2
    generalize (upd (upd H pd (.dK [])) l0 (.lst [V.int (s : Int)])) = H2 at s12 hpd2 hl2 ⊢
    have w0 : ∀ q, l0 ≠ q → WaysAt H (upd H2 pd (.dK (mergeK [] [(Sum.inl (s : Int), V.ref l0)]))) pd (lev A s 0).1 1 q := fun q nq => by
      have z : WaysAt H H2 pd (fun _ => none) 0 q := ⟨[], hpd2, Nat.le_refl _, fun _ _ => rfl, fun v r e => by cases e⟩
      have y := z.put (v := s) (r := [s]) (l := l0) hpd2 rfl (Nat.le_refl _) hl2 nl0H nq
      have e : (lev A s 0).1 = setW (fun _ => none) s [s] := rfl
      rw [e]
      exact y
    have S3 : Same H (upd H2 pd (.dK (mergeK [] [(Sum.inl (s : Int), V.ref l0)]))) := same_mut s12 npd
    have hl3 : (upd H2 pd (.dK (mergeK [] [(Sum.inl (s : Int), V.ref l0)]))) l0 = some (.lst (natsV [s])) := by
      rw [upd_ne (ne_of hl2 hpd2 (by intro z; cases z))]; exact hl2
    generalize (upd H2 pd (.dK (mergeK [] [(Sum.inl (s : Int), V.ref l0)]))) = H3 at w0 S3 hl3 ⊢
    -- level = [start]
    refine ⟨_, rfl, by show 1 ≤ sizeLine; decide, fun pl npl => ?_⟩
    have s4 := same_new (o := .lst [V.int (s : Int)]) npl
    have nl0l : l0 ≠ pl := ne_of_none hl3 npl
    have hpl4 : (upd H3 pl (.lst [V.int (s : Int)])) pl = some (.lst (natsV (lev A s 0).2)) := upd_same
    have w4 : WaysAt H (upd H3 pl (.lst [V.int (s : Int)])) pd (lev A s 0).1 (1 + n * 0) pl := (w0 pl nl0l).mono (fun kvs e => s4 _ _ e) fun l r n e => ⟨s4 _ _ e, n⟩
    have S4 := S3.trans s4
    have npl' := S3.free npl
    generalize (upd H3 pl (.lst [V.int (s : Int)])) = H4 at s4 hpl4 w4 S4 ⊢
    -- while level
    refine ⟨fun m σ H' => ∃ (t : Nat) (pl : Addr) (v5 v6 v7 : Option V), m = T - t ∧ t ≤ T ∧ σ = [some (.ref d), some (.int (s : Int)), some (.int (g : Int)), some (.ref pd), some (.ref pl), v5, v6, v7] ∧ Same H H' ∧ H pl = none ∧ H' pl = some (.lst (natsV (lev A s t).2)) ∧ WaysAt H H' pd (lev A s t).1 (1 + n * t) pl,
      ⟨T, 0, pl, none, none, none, rfl, Nat.zero_le _, rfl, S4, npl', hpl4, w4⟩, ?_⟩
    rintro m σ H5 ⟨t, pl, v5, v6, v7, rfl, ht, rfl, S5, nplH, hpl5, w5⟩
    refine ⟨_, rfl, !(natsV (lev A s t).2).isEmpty, .inl ⟨_, SqL.of hpl5, rfl⟩, ?_⟩
    refine ite2 (fun eb => ?_) (fun eb => ?_)
    · have htT : t < T := by
        rcases Nat.lt_or_ge t T with z | z
        · exact z
        · have e : t = T := by omega
          rw [e, hend] at eb
          cases eb
      refine ⟨fun σ H' => ∃ (pl : Addr) (v5 v6 v7 : Option V), σ = [some (.ref d), some (.int (s : Int)), some (.int (g : Int)), some (.ref pd), some (.ref pl), v5, v6, v7] ∧ Same H H' ∧ H pl = none ∧ H' pl = some (.lst (natsV (lev A s (t + 1)).2)) ∧ WaysAt H H' pd (lev A s (t + 1)).1 (1 + n * (t + 1)) pl,
        fun σ' H' ⟨pl, v5, v6, v7, z1, z2, z3, z4, z5⟩ => ⟨T - (t + 1), by omega, t + 1, pl, v5, v6, v7, rfl, htT, z1, z2, z3, z4, z5⟩, ?_⟩
      -- reached = []
      refine ⟨Nat.zero_le _, fun pr npr => ?_⟩
      have s6 := same_new (o := .lst []) npr
      have nprH := S5.free npr
      have nlr : pl ≠ pr := ne_of_none hpl5 npr
      have hpr6 : (upd H5 pr (.lst [])) pr = some (.lst (natsV [])) := upd_same
      have hpl6 := s6 _ _ hpl5
      have w6 : WaysAt H (upd H5 pr (.lst [])) pd (lev A s t).1 (1 + n * t) pr := w5.mono (fun kvs e => s6 _ _ e) fun l r _ e => ⟨s6 _ _ e, ne_of_none e npr⟩
      have S6 := S5.trans s6
      generalize (upd H5 pr (.lst [])) = H6 at hpr6 hpl6 w6 S6 ⊢
      have pg := lev_prog hs hAn t
      have pg0 : Prog n ((lev A s t).1, ([] : List Nat)) := ⟨List.nodup_nil, fun v hv => by cases hv⟩
      -- for place in level
      refine ⟨_, rfl, pl, rfl, ⟨_, SqL.of hpl6⟩, for_list (K := K) (a := pl) (xs := natsV (lev A s t).2) (fun i σ H' => ∃ (v6 v7 : Option V), σ = [some (.ref d), some (.int (s : Int)), some (.int (g : Int)), some (.ref pd), some (.ref pl), some (.ref pr), v6, v7] ∧ Same H H' ∧ H' pl = some (.lst (natsV (lev A s t).2)) ∧
        H' pr = some (.lst (natsV (((lev A s t).2.take i).foldl (fun s u => (A u).foldl (visit u) s) ((lev A s t).1, [])).2)) ∧ WaysAt H H' pd (((lev A s t).2.take i).foldl (fun s u => (A u).foldl (visit u) s) ((lev A s t).1, [])).1 (1 + n * t + (((lev A s t).2.take i).foldl (fun s u => (A u).foldl (visit u) s) ((lev A s t).1, [])).2.length) pr)
        ⟨v6, v7, rfl, S6, hpl6, hpr6, w6⟩ (fun i σ H' _ ⟨_, _, _, _, z, _⟩ => SqL.of z) ?_ ?_⟩
      · rintro i x σ H7 hi ⟨v6, v7, rfl, S7, hpl7, hpr7, w7⟩
        obtain ⟨u, hu', rfl⟩ : ∃ u, (lev A s t).2[i]? = some u ∧ x = .int (u : Int) := by
          unfold natsV at hi
          rw [List.getElem?_map] at hi
          cases e : (lev A s t).2[i]? with
          | none => rw [e] at hi; cases hi
          | some u => rw [e] at hi; exact ⟨u, rfl, (Option.some.inj hi).symm⟩
        have hun := (pg.lt u (List.mem_of_getElem? hu')).1
        have hus := (pg.lt u (List.mem_of_getElem? hu')).2
        have pgi : Prog n (((lev A s t).2.take i).foldl (fun s u => (A u).foldl (visit u) s) ((lev A s t).1, [])) := Prog.fold2 _ pg0 fun y hy => hAn y (pg.lt y (List.mem_of_mem_take hy)).1
        obtain ⟨kva, ha1, ha2⟩ := hA.same S7
        obtain ⟨la, ha3, ha4⟩ := ha2 u hun
        have laH : H la ≠ none := by
          obtain ⟨kvb, hb1, hb2⟩ := hA
          obtain ⟨lb, hb3, hb4⟩ := hb2 u hun
          have := S7 _ _ hb1
          rw [ha1] at this
          cases this
          rw [ha3] at hb3
          cases hb3
          rw [hb4]
          simp
        refine ⟨_, rfl, _, rfl, d, .ref la, rfl, (by rw [← ha3]; exact DGet.k (k := Sum.inl (u : Int)) ha1), la, rfl, ⟨_, SqL.of ha4⟩, ?_⟩
        generalize hst : ((lev A s t).2.take i).foldl (fun s u => (A u).foldl (visit u) s) ((lev A s t).1, []) = st at hpr7 w7 pgi
        have husi : ∃ ru, st.1 u = some ru := by
          obtain ⟨ru, e⟩ := Option.isSome_iff_exists.mp hus
          exact ⟨ru, by rw [← hst]; exact keep_fold2 _ e⟩
        obtain ⟨ru, eru⟩ := husi
        refine for_list (K := K) (a := la) (xs := natsV (A u)) (fun j σ H' => ∃ (v7 : Option V), σ = [some (.ref d), some (.int (s : Int)), some (.int (g : Int)), some (.ref pd), some (.ref pl), some (.ref pr), some (.int (u : Int)), v7] ∧ Same H H' ∧ H' pl = some (.lst (natsV (lev A s t).2)) ∧
          H' pr = some (.lst (natsV (((A u).take j).foldl (visit u) st).2)) ∧ WaysAt H H' pd (((A u).take j).foldl (visit u) st).1 (1 + n * t + (((A u).take j).foldl (visit u) st).2.length) pr)
          ⟨v7, rfl, S7, hpl7, hpr7, w7⟩ (fun j σ H' _ ⟨_, _, S, _⟩ => ?_) ?_ ?_
        · obtain ⟨kvb, hb1, hb2⟩ := hA.same S
          have h1 : H la = some (.lst (natsV (A u))) := by
            obtain ⟨kvc, hc1, hc2⟩ := hA
            obtain ⟨lc, hc3, hc4⟩ := hc2 u hun
            have := S7 _ _ hc1
            rw [ha1] at this
            cases this
            rw [ha3] at hc3
            cases hc3
            exact hc4
          exact SqL.of (S _ _ h1)
        · rintro j x σ H8 hj ⟨v7, rfl, S8, hpl8, hpr8, w8⟩
          obtain ⟨hd, hjd, rfl⟩ : ∃ hd, (A u)[j]? = some hd ∧ x = .int (hd : Int) := by
            unfold natsV at hj
            rw [List.getElem?_map] at hj
            cases e : (A u)[j]? with
            | none => rw [e] at hj; cases hj
            | some y => rw [e] at hj; exact ⟨y, rfl, (Option.some.inj hj).symm⟩
          have hdn := hAn u hun hd (List.mem_of_getElem? hjd)
          have pgj : Prog n (((A u).take j).foldl (visit u) st) := pgi.fold _ fun y hy => hAn u hun y (List.mem_of_mem_take hy)
          have efold := foldl_take (visit u) st hjd
          have eru8 : (((A u).take j).foldl (visit u) st).1 u = some ru := keep_fold _ eru
          generalize (((A u).take j).foldl (visit u) st) = st2 at hpr8 w8 pgj efold eru8
          have lj := pgj.len
          obtain ⟨o, og, os, _⟩ := w8.get hd
          refine ⟨_, rfl, _, rfl, pd, o, rfl, og, _, rfl, ?_⟩
          rw [os]
          refine ite2 (fun e => ?_) (fun e => ?_)
          · have ev : ¬ (st2.1 hd).isSome = true := by
              intro z; rw [z] at e; cases e
            have evn : st2.1 hd = none := by
              cases z : st2.1 hd with
              | none => rfl
              | some y => exact absurd (by rw [z]; rfl) ev
            rw [efold, visit_none ev, eru8]
            obtain ⟨kvs, k1, k2, k3, k4⟩ := id w8
            obtain ⟨klen, lu, k5, k6, k7, k8⟩ := k4 u ru eru8
            -- ways[head] = ways[place] + [head]
            refine ⟨_, rfl, _, rfl, pd, .ref lu, rfl, (by rw [← k5]; exact DGet.k (k := Sum.inl (u : Int)) k1), _, rfl, by show 1 ≤ sizeLine; decide, fun p1 np1 => ?_⟩
            have sp1 := same_new (o := .lst [V.int (hd : Int)]) np1
            have hnt : n * t ≤ 100 * 50 := Nat.mul_le_mul hn (by omega)
            refine ⟨lu, p1, _, _, rfl, rfl, sp1 _ _ k6, upd_same, sz (by rw [natsV_len]; show ru.length + 1 ≤ 100000; omega), fun p2 np2 => ?_⟩
            have sp2 := same_new (o := .lst (natsV ru ++ [V.int (hd : Int)])) np2
            have sp := sp1.trans sp2
            have hp2 : (upd (upd H8 p1 (.lst [V.int (hd : Int)])) p2 (.lst (natsV ru ++ [V.int (hd : Int)]))) p2 = some (.lst (natsV (ru ++ [hd]))) := by rw [upd_same, natsV_app]
            have np2H := (S8.trans sp1).free np2
            have np2r : p2 ≠ pr := fun z => by rw [z, sp1 _ _ hpr8] at np2; cases np2
            generalize (upd (upd H8 p1 (.lst [V.int (hd : Int)])) p2 (.lst (natsV ru ++ [V.int (hd : Int)]))) = H9 at sp hp2 ⊢
            have w9 : WaysAt H H9 pd st2.1 (1 + n * t + st2.2.length) pr := w8.mono (fun kvs e => sp _ _ e) fun l r n e => ⟨sp _ _ e, n⟩
            have k19 := sp _ _ k1
            have wput := w9.put (v := hd) (r := ru ++ [hd]) (l := p2) k19 evn (by rw [List.length_append, List.length_singleton]; omega) hp2 np2H np2r
            refine ⟨_, rfl, _, rfl, pd, _, rfl, DPut.k (k := Sum.inl (hd : Int)) k19 (szl (by omega)), ?_⟩
            have S10 : Same H (upd H9 pd (.dK (putK kvs (Sum.inl (hd : Int)) (.ref p2)))) := same_mut (S8.trans sp) npd
            have hpr10 : (upd H9 pd (.dK (putK kvs (Sum.inl (hd : Int)) (.ref p2)))) pr = some (.lst (natsV st2.2)) := by
              have z := sp _ _ hpr8
              rw [upd_ne (ne_of z k19 (by intro y; cases y))]
              exact z
            have hpl10 : (upd H9 pd (.dK (putK kvs (Sum.inl (hd : Int)) (.ref p2)))) pl = some (.lst (natsV (lev A s t).2)) := by
              have z := sp _ _ hpl8
              rw [upd_ne (ne_of z k19 (by intro y; cases y))]
              exact z
            generalize (upd H9 pd (.dK (putK kvs (Sum.inl (hd : Int)) (.ref p2)))) = H10 at wput S10 hpr10 hpl10 ⊢
            -- reached.append(head)
            refine ⟨_, rfl, .inl ⟨rfl, _, SqL.of hpr10⟩, _, rfl, pr, _, _, rfl, rfl, hpr10, szl (by rw [natsV_len]; omega), ?_⟩
            refine ⟨_, rfl, same_mut S10 nprH, by rw [upd_ne nlr]; exact hpl10, by rw [upd_same, natsV_app], ?_⟩
            refine WaysAt.mono (H := H10) (q := pr) (m := 1 + n * t + (st2.2 ++ [hd]).length) ?_ (fun kvs e => ?_) fun l r n e => ?_
            · rw [List.length_append, List.length_singleton, ← Nat.add_assoc]
              exact wput
            · rw [upd_ne (ne_of e hpr10 (by intro y; cases y))]
              exact e
            · exact ⟨by rw [upd_ne n]; exact e, n⟩
          · have ev : (st2.1 hd).isSome = true := by
              cases z : (st2.1 hd).isSome with
              | true => rfl
              | false => rw [z] at e; exact absurd rfl e
            rw [efold, visit_some ev]
            exact ⟨_, rfl, S8, hpl8, hpr8, w8⟩
        · rintro σ H8 ⟨v7, rfl, S8, hpl8, hpr8, w8⟩
          rw [natsV_len, List.take_length] at hpr8 w8
          refine ⟨_, _, rfl, S8, hpl8, ?_, ?_⟩
          · rw [foldl_take _ _ hu', hst]
            exact hpr8
          · rw [foldl_take _ _ hu', hst]
            exact w8
      · rintro σ H7 ⟨v6, v7, rfl, S7, hpl7, hpr7, w7⟩
        rw [natsV_len, List.take_length] at hpr7 w7
        have pge : Prog n (lev A s (t + 1)) := lev_prog hs hAn (t + 1)
        have le := pge.len
        refine ⟨_, rfl, pr, _, _, _, rfl, S7, nprH, hpr7, ?_⟩
        obtain ⟨kvs, k1, k2, k3, k4⟩ := w7
        refine ⟨kvs, k1, ?_, k3, k4⟩
        have k2' : kvs.length ≤ 1 + n * t + (lev A s (t + 1)).2.length := k2
        rw [Nat.mul_add, Nat.mul_one]
        omega
    · have e0 : (lev A s t).2 = [] := by
        cases z : (lev A s t).2 with
        | nil => rfl
        | cons y r => rw [z] at eb; exact absurd rfl eb
      rw [lev_same e0 ht] at q
      obtain ⟨o, og, _, ov⟩ := w5.get g
      refine ⟨_, rfl, pd, rfl, ?_, _, rfl, o, og, q H5 _ S5 ov⟩
      obtain ⟨kvs, k1, _⟩ := w5
      exact .inl ⟨kvs, .inl k1⟩
/-! ### shortest_path -/
theorem scShort : FnScope ["net", "first", "last"] ["net", "first", "last"] (defScope sShort) := ⟨rfl, rfl, rfl, by decide +kernel, rfl, by decide +kernel, by decide +kernel⟩
def spShort (K : PySem.W.Frag) (C : Addr) : Sp := fun vs H Q _ => ∃ (p : Addr) (a b T : Nat) (N : NetD), vs = [.ref p, .int (a : Int), .int (b : Int)] ∧ NetAt K C H p N ∧ N.ks.length ≤ 100 ∧ a < N.ks.length ∧ T ≤ 50 ∧ (lev (arcsOf N a) a T).2 = [] ∧
  ∀ (H' : Hp) (v : V), Same H H' → WayV H H' ((lev (arcsOf N a) a T).1 b) v → Q v H'
theorem arcs_lt {N : NetD} {first a b : Nat} (h : b ∈ arcsOf N first a) : b < N.ks.length := by
  unfold arcsOf at h
  split at h
  · exact List.mem_range.mp (List.mem_filter.mp h).1
  · cases h
theorem ok_short {f C fW fA : Addr} {fd fdW fdA : FuncData} {k : Nat} (F : Fun K "shortest_path" "shortest_path" sShort f fd) (GW : Callee P w K mg base 1 "find_way" ["arcs", "start", "goal"] spWay fW fdW) (GA : Callee P w K mg base 2 "next_nodes" ["net", "first"] (spNext K C) fA fdA) :
    FnOk P w K mg base CX0 (k + 3) f fd ["net", "first", "last"] (spShort K C) := by
  refine F.ok scShort (fun vs H Q E h => ?_) (fun cdv A outer s H vs Q E hr h => ?_)
  · obtain ⟨p, a, b, T, N, rfl, _⟩ := h
    rfl
  · obtain ⟨p, a, b, T, N, rfl, hN, hn, ha, hT, hend, q⟩ := h
    have nd := scShort.nd
    have hr1 : Room 1 _ := hr.mono (by omega)
    have hr2 : Room 2 _ := hr.mono (by omega)
    refine ⟨_, pss_one (ps_ret (pe_call GW.ok hr1 (by rfl) GW.mg GW.kp GW.b .nil pass0 (pa_cons (pe_call GA.ok hr2 (by rfl) GA.mg GA.kp GA.b .nil pass0 (pa_cons (pv 0) (pa_cons (pv 1) pa_nil))) (pa_cons (pv 1) (pa_cons (pv 2) pa_nil))))), ?_⟩
    refine ⟨_, rfl, _, rfl, p, a, N, rfl, hN, by omega, fun H1 d s1 nd1 hA => ?_⟩
    refine ⟨_, rfl, _, rfl, d, a, b, N.ks.length, T, arcsOf N a, rfl, hA, hn, ha, fun x _ y hy => arcs_lt hy, hT, hend, fun H2 v s2 hv => ?_⟩
    refine q H2 v (s1.trans s2) ?_
    unfold WayV at hv ⊢
    cases e : (lev (arcsOf N a) a T).1 b with
    | none => rw [e] at hv; exact hv
    | some r =>
      rw [e] at hv
      obtain ⟨l, h1, h2, h3⟩ := hv
      exact ⟨l, h1, s1.free h2, h3⟩
end
end My
namespace My
open PySem PySem.Spec PyProof.Rows L2
abbrev sLaw : Stmt := top 13
theorem or_read' {t u : TT} {σ : L2.St} {H : Hp} {Q : Bool → Hp → Prop} {a b : Bool} (ht : ∀ Q : Bool → Hp → Prop, Q a H → t σ H Q) (hu : a = false → ∀ Q : Bool → Hp → Prop, Q b H → u σ H Q) (h : Q (a || b) H) : tOr t u σ H Q := by
  refine ht _ ?_
  cases a with
  | true => exact iteT h
  | false => exact iteF (hu rfl _ h)
section
variable {P : Program} {w : World} {K : PySem.W.Frag} {mg : Str → Option Value} {base : Heap}
theorem scLaw : FnScope ["script", "net", "paths", "hosts", "first", "last", "best", "path", "told", "a"] ["script"] (defScope sLaw) := ⟨rfl, rfl, rfl, by decide +kernel, rfl, by decide +kernel, by decide +kernel⟩
def spLaw (K : PySem.W.Frag) : Sp := fun vs H Q _ => ∃ (a : Addr) (ns : List Int), vs = [.ref a] ∧ SqL K H a (ns.map V.int) ∧ ns.length ≤ 63 ∧ ∀ H', Q (.bl true) H'
/-- what stands in best's slot -/
def BestV (H : Hp) (o : Option (List Nat)) (v : V) : Prop := match o with
  | none => v = .non
  | some r => ∃ l, v = .ref l ∧ H l = some (.lst (natsV r))
theorem BestV.same {H H' : Hp} {o : Option (List Nat)} {v : V} (h : BestV H o v) (e : Same H H') : BestV H' o v := by
  cases o with
  | none => exact h
  | some r =>
    obtain ⟨l, h1, h2⟩ := h
    exact ⟨l, h1, e _ _ h2⟩
theorem WayV.best {H H' : Hp} {o : Option (List Nat)} {v : V} (h : WayV H H' o v) : BestV H' o v := by
  cases o with
  | none => exact h
  | some r =>
    obtain ⟨l, h1, _, h2⟩ := h
    exact ⟨l, h1, h2⟩
def optD : Option (List Nat) → PyData
  | none => .none
  | some r => dList r
theorem best_dp {H : Hp} {o : Option (List Nat)} {v : V} (h : BestV H o v) : Dp K H v (optD o) := by
  cases o with
  | none =>
    cases h
    exact .non
  | some r =>
    obtain ⟨l, rfl, h2⟩ := h
    exact dp_list (SqL.of h2)
theorem best_shaped (o : Option (List Nat)) : SeqAt.shaped (optD o) = true := by
  cases o with
  | none => exact shaped_none
  | some r => exact shaped_list r
theorem best_eqv (o : Option (List Nat)) : PyData.eqv (optD o) (optD o) = true := by
  cases o with
  | none => exact eqv_none
  | some r => exact eqv_list r
theorem law_ne {H : Hp} {o : Option (List Nat)} {x y : V} {Q : VK} (hx : BestV H o x) (hy : BestV H o y) (q : Q (.bl false) H) : rNeD K x y H Q := by
  refine ⟨_, _, best_dp hx, best_dp hy, best_shaped o, best_shaped o, ?_⟩
  rw [best_eqv]
  exact q
theorem ok_law {f C fC fN fP fS : Addr} {fd fdC fdN fdP fdS : FuncData} {k : Nat} (F : Fun K "law" "law" sLaw f fd) (T : Blt mg) (c : NetC K C) (GC : Callee P w K mg base 1 "_law_cell" ["script", "k"] (spCell K) fC fdC) (GN : Callee P w K mg base 3 "_law_net" ["cell", "more"] (spLNet K C) fN fdN)
    (GP : Callee P w K mg base 2 "_law_paths" ["net", "most"] (spPaths K C) fP fdP) (GS : Callee P w K mg base 3 "shortest_path" ["net", "first", "last"] (spShort K C) fS fdS) : FnOk P w K mg base CX0 (k + 4) f fd ["script"] (spLaw K) := by
  refine F.ok scLaw (fun vs H Q E h => ?_) (fun cdv A outer s H vs Q E hr h => ?_)
  · obtain ⟨a, ns, rfl, _⟩ := h
    rfl
  · obtain ⟨a, ns, rfl, hS, hlen, q⟩ := h
    have nd := scLaw.nd
    have hr1 : Room 1 _ := hr.mono (by omega)
    have hr2 : Room 2 _ := hr.mono (by omega)
    have hr3 : Room 3 _ := hr.mono (by omega)
    have hu64 : _ + 64 < cLine := hr.units
    refine ⟨_, pss_cons (ps_set (i := 1) nd rfl (.inr rfl) (pe_call GN.ok hr3 (by rfl) GN.mg GN.kp GN.b .nil pass0 (pa_cons (pe_call GC.ok hr1 (by rfl) GC.mg GC.kp GC.b .nil pass0 (pa_cons (pv 0) (pa_cons pe_int pa_nil))) (pa_cons (pe_call GC.ok hr1 (by rfl) GC.mg GC.kp GC.b .nil pass0 (pa_cons (pv 0) (pa_cons pe_int pa_nil))) pa_nil)))) <| pss_cons (ps_set (i := 2) nd rfl (.inl rfl) (pe_call GP.ok hr2 (by rfl) GP.mg GP.kp GP.b .nil pass0 (pa_cons (pv 1) (pa_cons pe_int pa_nil)))) <| pss_cons (ps_setLc (i := 3) (own := [("a", 9)]) (g := gName 9) rfl nd rfl rfl (sw_true rfl rfl rfl (by decide +kernel)) (pi_range1 (by rfl) T.range (pa_cons (pe_callB call_len_seq (by rfl) T.len PySem.boot_len (pa_cons (pe_fld (pv 1) rfl) pa_nil)) pa_nil)) (blkOk_by (own := [("a", 9)]) (N := ["script", "net", "paths", "hosts", "first", "last", "best", "path", "told", "a"]) (sc := defScope sLaw) (by decide +kernel)) (fun _ _ _ _ _ => pg_name (i := 9) nd rfl (Or.inl rfl)) (fun _ _ _ _ _ => pts_one (pt_cmpR op_eq (pe_ix (ix_listK (K := K)) (pe_fldK (K := K) (pv 1)) (pv 9) (fun _ _ => rfl)) pe_str (nomark _))) (fun _ _ _ _ _ => (pv 9))) <| pss_cons (ps_for PassesOwn.never rfl (pi_list (pv 3)) (pg_name (i := 4) nd rfl (.inl rfl)) (pss_one (ps_for PassesOwn.never rfl (pi_list (pv 3)) (pg_name (i := 5) nd rfl (.inl rfl)) (pss_one (ps_if (pt_cmpR op_ne (pv 4) (pv 5) (nomark _)) (pss_cons (ps_set (i := 6) nd rfl (.inl rfl) pe_non) <| pss_cons (ps_for PassesOwn.never rfl (pi_list (pv 2)) (pg_name (i := 7) nd rfl (.inl rfl)) (pss_one (ps_if (PW.pt (pw_and (pt_cmpR op_eq (pe_ix ix_list (pv 7) pe_int (fun _ _ => rfl)) (pv 4) (nomark _)) (pw_and1 (pt_cmpR op_eq (pe_ix ix_list (pv 7) (pe_op op_sub (pe_callB call_len_seq (by rfl) T.len PySem.boot_len (pa_cons (pv 7) pa_nil)) pe_int) (fun _ _ => rfl)) (pv 5) (nomark _))))) (pss_one (ps_if (PW.pt (pw_or (pt_cmpR op_isN (pv 6) pe_non (nomark _)) (pw_or1 (pt_cmpR (op_ltD hu64) (pe_tup (pa_cons (pe_callB call_len_seq (by rfl) T.len PySem.boot_len (pa_cons (pv 7) pa_nil)) (pa_cons (pv 7) pa_nil))) (pe_tup (pa_cons (pe_callB call_len_seq (by rfl) T.len PySem.boot_len (pa_cons (pv 6) pa_nil)) (pa_cons (pv 6) pa_nil))) (nomark _))))) (pss_one (ps_set (i := 6) nd rfl (.inl rfl) (pv 7))) (pss_nil))) (pss_nil)))) <| pss_cons (ps_set (i := 8) nd rfl (.inl rfl) (pe_call GS.ok hr3 (by rfl) GS.mg GS.kp GS.b .nil pass0 (pa_cons (pv 1) (pa_cons (pv 4) (pa_cons (pv 5) pa_nil))))) <| pss_cons (ps_if (pt_cmpR (op_neD hu64) (pv 8) (pv 6) (nomark _)) (pss_one (ps_ret pe_bl)) (pss_nil)) <| pss_one (ps_if (pt_cmpR op_notN (pv 8) pe_non (nomark _)) (pss_cons (ps_expr (pe_bm PySem.F.plainAttrs_list PySem.F.slot_list_append PySem.F.type_list_append mt_append (pv 8) (pa_cons pe_int pa_nil))) <| pss_one (ps_if (pt_cmpR (op_neD hu64) (pe_call GS.ok hr3 (by rfl) GS.mg GS.kp GS.b .nil pass0 (pa_cons (pv 1) (pa_cons (pv 4) (pa_cons (pv 5) pa_nil)))) (pv 6) (nomark _)) (pss_one (ps_ret pe_bl)) (pss_nil))) (pss_nil))) (pss_nil)))))) <| pss_one (ps_ret pe_bl), ?_⟩
    -- net
    refine ⟨_, rfl, a, ns, 0, rfl, hS, _, rfl, a, ns, 1, rfl, hS, _, _, rfl, fun H1 p N s1 np hN wf => ?_⟩
    have lk := len_count N.ks
    have n7 : N.ks.length ≤ 7 := by have := wf.h1; have := wf.s1; omega
    -- paths
    refine ⟨_, rfl, p, 4, N, rfl, hN, n7, Nat.le_refl _, fun H2 pf fs s2 npf hf hF => ?_⟩
    have hN2 := hN.same s2
    have eN := hN2
    obtain ⟨dx, lk0, ll, ld, ts, e1, e2, e3, e4, e5⟩ := hN2
    have en : (N.ks.map kindV).length = N.ks.length := List.length_map ..
    -- hosts
    refine ⟨_, rfl, p, C, dx, _, _, rfl, e1, c.cl, c.n1, g1, lk0, _, rfl, .inl (SqL.of e2), _, rfl, by omega, by omega, fun D nD => ?_⟩
    refine lc_range (lo := 0) (n := (N.ks.map kindV).length) (fun i H' => Same H2 H' ∧ H' D = some (.lst (natsV ((List.range i).filter (host N))))) ⟨same_new nD, upd_same⟩ ?_ ?_
    · rintro i H' hi ⟨sm, hD⟩
      rw [en] at hi
      rw [Int.zero_add]
      refine ⟨rfl, ?_⟩
      refine ⟨_, rfl, p, C, dx, _, _, rfl, sm _ _ e1, c.cl, c.n1, g1, _, rfl, lk0, _, _, _, rfl, rfl, SqL.of (sm _ _ e2), atI_kind rfl hi, rfl, _, rfl, ?_⟩
      have eb : decide (kindV (N.ks.getD i true) = V.str "host") = host N i := by
        unfold host
        cases N.ks.getD i true <;> decide +kernel
      rw [eb]
      have lf := List.length_filter_le (host N) (List.range i)
      rw [List.length_range] at lf
      refine ite2 (fun e => ?_) (fun e => ?_)
      · refine ⟨_, rfl, _, hD, by rw [natsV_len]; exact small1000 (by omega), same_mut sm nD, ?_⟩
        rw [upd_same, natsV_app, List.range_succ, List.filter_append, List.filter_cons, if_pos e]
        rfl
      · refine ⟨sm, ?_⟩
        rw [List.range_succ, List.filter_append, List.filter_cons, if_neg e]
        simpa using hD
    rintro H3 ⟨s3, hD3⟩
    rw [en] at hD3
    have S3 := (s1.trans s2).trans s3
    have hf3 := s3 _ _ hf
    have hF3 := hF.same s3
    have eN3 := eN.same s3
    have hhost : ∀ {i : Nat} {x : V}, (natsV ((List.range N.ks.length).filter (host N)))[i]? = some x → ∃ u : Nat, x = .int (u : Int) ∧ u < N.ks.length ∧ host N u = true := fun {i x} hi => by
      unfold natsV at hi
      rw [List.getElem?_map] at hi
      cases e : ((List.range N.ks.length).filter (host N))[i]? with
      | none => rw [e] at hi; cases hi
      | some u =>
        rw [e] at hi
        have m := List.mem_filter.mp (List.mem_of_getElem? e)
        exact ⟨u, (Option.some.inj hi).symm, List.mem_range.mp m.1, m.2⟩
    have lF := found_len N n7 4
    have b4 : (8 : Nat) ^ 5 = 32768 := by decide
    have lfs : fs.length = (foundOf N 4).length := hF.length
    -- for first in hosts
    refine ⟨_, rfl, D, rfl, ⟨_, SqL.of hD3⟩, for_list (K := K) (a := D) (xs := natsV ((List.range N.ks.length).filter (host N))) (fun i σ H' => ∃ (v4 v5 v6 v7 v8 v9 : Option V), σ = [some (.ref a), some (.ref p), some (.ref pf), some (.ref D), v4, v5, v6, v7, v8, v9] ∧ Same H3 H')
      ⟨_, _, _, _, _, _, rfl, Same.refl _⟩ (fun i σ H' _ ⟨_, _, _, _, _, _, _, z⟩ => SqL.of (z _ _ hD3)) ?_ ?_⟩
    · rintro i x σ H4 hi ⟨v4, v5, v6, v7, v8, v9, rfl, s4⟩
      obtain ⟨u, rfl, hu, hu2⟩ := hhost hi
      -- for last in hosts
      refine ⟨_, rfl, D, rfl, ⟨_, SqL.of (s4 _ _ hD3)⟩, for_list (K := K) (a := D) (xs := natsV ((List.range N.ks.length).filter (host N))) (fun i σ H' => ∃ (v5 v6 v7 v8 v9 : Option V), σ = [some (.ref a), some (.ref p), some (.ref pf), some (.ref D), some (.int (u : Int)), v5, v6, v7, v8, v9] ∧ Same H3 H')
        ⟨_, _, _, _, _, rfl, s4⟩ (fun i σ H' _ ⟨_, _, _, _, _, _, z⟩ => SqL.of (z _ _ hD3)) ?_ ?_⟩
      · rintro j x σ H5 hj ⟨v5, v6, v7, v8, v9, rfl, s5⟩
        obtain ⟨z, rfl, hz, hz2⟩ := hhost hj
        -- if first != last
        refine ⟨_, rfl, _, rfl, rfl, _, rfl, ?_⟩
        rw [dec_nat]
        refine ite2 (fun e => ?_) (fun e => ?_)
        · have hne : u ≠ z := fun y => by rw [decide_eq_true y] at e; cases e
          have key := way_is_found (T := 4) hu hu2 hz2 hne (by have := wf.s1; omega)
          have hpw := found_pw (N := N) 4
          -- best = None; for path in paths
          refine ⟨_, rfl, pf, rfl, ⟨_, SqL.of (s5 _ _ hf3)⟩, for_list (K := K) (a := pf) (xs := fs.map V.ref) (fun i σ H' => ∃ (v6 : V) (v7 : Option V), σ = [some (.ref a), some (.ref p), some (.ref pf), some (.ref D), some (.int (u : Int)), some (.int (z : Int)), some v6, v7, v8, v9] ∧ Same H3 H' ∧ BestV H' (((foundOf N 4).take i).find? (matchP u z)) v6)
            ⟨_, _, rfl, s5, rfl⟩ (fun i σ H' _ ⟨_, _, _, y, _⟩ => SqL.of (y _ _ hf3)) ?_ ?_⟩
          · rintro m x σ H6 hm ⟨v6, v7, rfl, s6, hb6⟩
            rw [List.getElem?_map] at hm
            cases ht : fs[m]? with
            | none => rw [ht] at hm; cases hm
            | some ra =>
              rw [ht] at hm
              cases hm
              obtain ⟨r, er, rne, hr3⟩ := Paired.at hF3 ht
              have hr6 := s6 _ _ hr3
              have rl : 0 < r.length := List.length_pos_iff.mpr rne
              have efirst : atI (natsV r) 0 = some (.int ((r.getD 0 0 : Nat) : Int)) := atI_nat (j := 0) (natsV_at (getD_at 0 rl))
              have elast : atI (natsV r) (((natsV r).length : Int) - 1) = some (.int ((lastN r : Nat) : Int)) := by
                have h1 : r.length - 1 < r.length := by omega
                have h2 : (((natsV r).length : Int) - 1) = ((r.length - 1 : Nat) : Int) := by rw [natsV_len]; omega
                rw [h2]
                exact atI_nat (natsV_at (getD_at 0 h1))
              have ematch : (decide (V.int ((r.getD 0 0 : Nat) : Int) = V.int (u : Int)) && decide (V.int ((lastN r : Nat) : Int) = V.int (z : Int))) = matchP u z r := by
                rw [dec_nat, dec_nat]
                rfl
              dsimp only [gName]
              refine and_read (a := decide (V.int ((r.getD 0 0 : Nat) : Int) = V.int (u : Int))) (b := decide (V.int ((lastN r : Nat) : Int) = V.int (z : Int))) (fun Q q => ?_) (fun _ Q q => ?_) ?_
              · exact ⟨_, rfl, ra, _, _, _, rfl, rfl, SqL.of hr6, efirst, _, rfl, rfl, _, rfl, q⟩
              · exact ⟨_, rfl, _, rfl, ra, _, rfl, .inl (SqL.of hr6), _, _, rfl, rfl, ra, _, _, _, rfl, rfl, SqL.of hr6, elast, _, rfl, rfl, _, rfl, q⟩
              · rw [ematch]
                refine ite2 (fun em => ?_) (fun em => ?_)
                · cases eb : ((foundOf N 4).take m).find? (matchP u z) with
                  | none =>
                    rw [eb] at hb6
                    cases hb6
                    refine ⟨_, rfl, rfl, _, rfl, iteT (iteT ?_)⟩
                    refine ⟨_, rfl, _, _, rfl, s6, ?_⟩
                    rw [take_snoc er, List.find?_append, eb, List.find?_cons, em]
                    exact ⟨ra, rfl, hr6⟩
                  | some b =>
                    rw [eb] at hb6
                    obtain ⟨lb, rfl, hlb⟩ := hb6
                    have hbm : b ∈ (foundOf N 4).take m := List.mem_of_find?_eq_some eb
                    have hlt : rlt b r := by
                      have e2 : foundOf N 4 = (foundOf N 4).take m ++ r :: (foundOf N 4).drop (m + 1) := by
                        obtain ⟨hi, e⟩ := List.getElem?_eq_some_iff.mp er
                        rw [← e, List.getElem_cons_drop, List.take_append_drop]
                      rw [e2, List.pairwise_append] at hpw
                      exact hpw.2.2 b hbm r List.mem_cons_self
                    refine ⟨_, rfl, rfl, _, rfl, iteF ?_⟩
                    refine ⟨_, rfl, ra, _, rfl, .inl (SqL.of hr6), _, rfl, by show 2 ≤ sizeLine; decide, fun t1 nt1 => ?_⟩
                    have st1 := same_new (o := .tup [V.int (((natsV r).length : Nat) : Int), V.ref ra]) nt1
                    refine ⟨_, rfl, lb, _, rfl, .inl (SqL.of (st1 _ _ hlb)), _, rfl, by show 2 ≤ sizeLine; decide, fun t2 nt2 => ?_⟩
                    have st2 := same_new (o := .tup [V.int (((natsV b).length : Nat) : Int), V.ref lb]) nt2
                    have d1 : Dp K (upd (upd H6 t1 (.tup [V.int (((natsV r).length : Nat) : Int), V.ref ra])) t2 (.tup [V.int (((natsV b).length : Nat) : Int), V.ref lb])) (.ref t1) (dPair r) := by
                      refine .tup (SqT.of (st2 _ _ upd_same)) (.cons ?_ (.cons (dp_list (SqL.of (st2 _ _ (st1 _ _ hr6)))) .nil))
                      rw [natsV_len]
                      exact .int _
                    have d2 : Dp K (upd (upd H6 t1 (.tup [V.int (((natsV r).length : Nat) : Int), V.ref ra])) t2 (.tup [V.int (((natsV b).length : Nat) : Int), V.ref lb])) (.ref t2) (dPair b) := by
                      refine .tup (SqT.of upd_same) (.cons ?_ (.cons (dp_list (SqL.of (st2 _ _ (st1 _ _ hlb)))) .nil))
                      rw [natsV_len b]
                      exact .int _
                    refine ⟨dPair r, dPair b, d1, d2, alike_pair _ _, (by unfold dPair; intro z; cases z), by rw [depth_pair, depth_pair]; decide, ?_⟩
                    rw [pair_nlt hlt]
                    refine ⟨_, rfl, iteF ?_⟩
                    refine ⟨_, _, rfl, (s6.trans st1).trans st2, ?_⟩
                    rw [take_snoc er, List.find?_append, eb]
                    exact ⟨lb, rfl, st2 _ _ (st1 _ _ hlb)⟩
                · refine ⟨_, _, rfl, s6, ?_⟩
                  rw [take_snoc er, List.find?_append, List.find?_cons, Bool.eq_false_iff.mpr em]
                  show BestV H6 (Option.or (((foundOf N 4).take m).find? (matchP u z)) none) v6
                  rw [Option.or_none]
                  exact hb6
          · rintro σ H6 ⟨v6, v7, rfl, s6, hb6⟩
            rw [List.length_map, lfs, List.take_length] at hb6
            -- told = shortest_path(net, first, last)
            have stop := lev_stop (N := N) hu
            refine ⟨_, rfl, _, rfl, _, rfl, p, u, z, N.ks.length, N, rfl, eN3.same s6, by omega, hu, by omega, stop, fun H7 v s7 hv => ?_⟩
            rw [key] at hv
            have hb7 := hb6.same s7
            -- if told != best
            refine ⟨_, rfl, _, rfl, law_ne hv.best hb7 ⟨_, rfl, iteF ?_⟩⟩
            cases eo : (foundOf N 4).find? (matchP u z) with
            | none =>
              rw [eo] at hv
              cases hv
              refine ⟨_, rfl, rfl, _, rfl, iteF ?_⟩
              exact ⟨_, _, _, _, _, rfl, s6.trans s7⟩
            | some r =>
              rw [eo] at hv hb7
              obtain ⟨l, rfl, nl, hl⟩ := hv
              refine ⟨_, rfl, rfl, _, rfl, iteT ?_⟩
              have rlen : r.length ≤ 5 := by
                obtain ⟨_, _, _, _, _, h5, _⟩ := (mem_found 4 r).mp (List.mem_of_find?_eq_some eo)
                exact h5
              have nlH3 : H3 l = none := s6.free nl
              -- told.append(9)
              refine ⟨_, rfl, .inl ⟨rfl, _, SqL.of hl⟩, l, _, _, rfl, rfl, hl, small1000 (by rw [natsV_len]; omega), ?_⟩
              have s8 : Same H6 (upd H7 l (.lst (natsV r ++ [V.int 9]))) := same_mut s7 nl
              have hb8 := hb6.same s8
              generalize (upd H7 l (.lst (natsV r ++ [V.int 9]))) = H8 at s8 hb8 ⊢
              refine ⟨_, rfl, _, rfl, _, rfl, p, u, z, N.ks.length, N, rfl, eN3.same (s6.trans s8), by omega, hu, by omega, stop, fun H9 v s9 hv => ?_⟩
              rw [key] at hv
              have hb9 := hb8.same s9
              refine ⟨_, rfl, law_ne hv.best hb9 ⟨_, rfl, iteF ?_⟩⟩
              exact ⟨_, _, _, _, _, rfl, (s6.trans s8).trans s9⟩
        · exact ⟨_, _, _, _, _, rfl, s5⟩
      · rintro σ H5 ⟨v5, v6, v7, v8, v9, rfl, s5⟩
        exact ⟨_, _, _, _, _, _, rfl, s5⟩
    · rintro σ H4 ⟨v4, v5, v6, v7, v8, v9, rfl, s4⟩
      exact q _
end
end My
namespace My
open PySem PySem.Spec PyProof.Rows L2
/-! ### what the top has written, the head -/
theorem all_mk {l : PySem.W.OpenLaw} {w : World} {K : PySem.W.Frag} {h : Heap} {mg : Str → Option Value} {fa C fI fM fD fC' fN fJ fP fA fW fS fL : Addr} (X : K.In h) (G : h.Ns mainGlobals mg) (hfa : mg "law" = some (.ref fa))
    {DK : Addr}
    {odI anI : Option Addr} {slI : Array (Option Value)} {ocI dcI pmI cdI ctI : Value}
    {tk0 : Tok}
    {tk1 : Tok}
    {odM anM : Option Addr} {slM : Array (Option Value)} {ocM kVM dcM pmM cdM ctM : Value}
    {odD anD : Option Addr} {slD : Array (Option Value)} {ocD kVD dcD pmD cdD ctD : Value}
    {odC' anC' : Option Addr} {slC' : Array (Option Value)} {ocC' kVC' dcC' pmC' cdC' ctC' : Value}
    {odN anN : Option Addr} {slN : Array (Option Value)} {ocN kVN dcN pmN cdN ctN : Value}
    {odJ anJ : Option Addr} {slJ : Array (Option Value)} {ocJ kVJ dcJ pmJ cdJ ctJ : Value}
    {odP anP : Option Addr} {slP : Array (Option Value)} {ocP kVP dcP pmP cdP ctP : Value}
    {odA anA : Option Addr} {slA : Array (Option Value)} {ocA kVA dcA pmA cdA ctA : Value}
    {odW anW : Option Addr} {slW : Array (Option Value)} {ocW kVW dcW pmW cdW ctW : Value}
    {odS anS : Option Addr} {slS : Array (Option Value)} {ocS kVS dcS pmS cdS ctS : Value}
    {odL anL : Option Addr} {slL : Array (Option Value)} {ocL kVL dcL pmL cdL ctL : Value}
    (aC : PySem.W.nsIn K mainGlobals "Net" = some (some (.ref C)))
    (aI : PySem.W.findIn K (.ref C) "__init__" = some (some (.ref fI))) (iI : PySem.W.isFn K (.ref fI) = true) (lI : K.lookup fI = some ⟨ocI, odI, .func (PySem.W.fnOf "__init__" "Net.__init__" (defArgs sInit) (defBody sInit) (defScope sInit) .none (.ref DK) dcI pmI anI cdI ctI), slI⟩) (cI : PySem.W.codeIn K cdI "Net.__init__" = true) (kI : PySem.W.keepIn K (.ref fI) = true)
    (kw0 : PySem.W.nsIn K DK "processing" = some (some (.int 0 tk0)))
    (kw1 : PySem.W.nsIn K DK "error" = some (some (.int 0 tk1)))
    (aM : PySem.W.findIn K (.ref C) "neighbours" = some (some (.ref fM))) (iM : PySem.W.isFn K (.ref fM) = true) (lM : K.lookup fM = some ⟨ocM, odM, .func (PySem.W.fnOf "neighbours" "Net.neighbours" (defArgs sNb) (defBody sNb) (defScope sNb) .none kVM dcM pmM anM cdM ctM), slM⟩) (cM : PySem.W.codeIn K cdM "Net.neighbours" = true) (kM : PySem.W.keepIn K (.ref fM) = true)
    (pg : PySem.W.plainGet K C Str.empty = true) (hd : PySem.W.hasDictIn K C = true) (po : PySem.W.plainOver K C = true) (sa : PySem.W.findIn K (.ref C) "__setattr__" = some (some (.builtin "object.__setattr__"))) (mk : PySem.W.makesIn K C = true) (kc : PySem.W.keepIn K (.ref C) = true)
    (n1 : PySem.W.findIn K (.ref C) "kinds" = some none)
    (n2 : PySem.W.findIn K (.ref C) "lines" = some none)
    (n3 : PySem.W.findIn K (.ref C) "processing" = some none)
    (n4 : PySem.W.findIn K (.ref C) "error" = some none)
    (n5 : PySem.W.findIn K (.ref C) "_delays" = some none)
    (aD : PySem.W.nsIn K mainGlobals "_law_draw" = some (some (.ref fD))) (lD : K.lookup fD = some ⟨ocD, odD, .func (PySem.W.fnOf "_law_draw" "_law_draw" (defArgs sDraw) (defBody sDraw) (defScope sDraw) .none kVD dcD pmD anD cdD ctD), slD⟩) (cD : PySem.W.codeIn K cdD "_law_draw" = true) (kD : PySem.W.keepIn K (.ref fD) = true)
    (aC' : PySem.W.nsIn K mainGlobals "_law_cell" = some (some (.ref fC'))) (lC' : K.lookup fC' = some ⟨ocC', odC', .func (PySem.W.fnOf "_law_cell" "_law_cell" (defArgs sCell) (defBody sCell) (defScope sCell) .none kVC' dcC' pmC' anC' cdC' ctC'), slC'⟩) (cC' : PySem.W.codeIn K cdC' "_law_cell" = true) (kC' : PySem.W.keepIn K (.ref fC') = true)
    (aN : PySem.W.nsIn K mainGlobals "_law_net" = some (some (.ref fN))) (lN : K.lookup fN = some ⟨ocN, odN, .func (PySem.W.fnOf "_law_net" "_law_net" (defArgs sLNet) (defBody sLNet) (defScope sLNet) .none kVN dcN pmN anN cdN ctN), slN⟩) (cN : PySem.W.codeIn K cdN "_law_net" = true) (kN : PySem.W.keepIn K (.ref fN) = true)
    (aJ : PySem.W.nsIn K mainGlobals "_law_joined" = some (some (.ref fJ))) (lJ : K.lookup fJ = some ⟨ocJ, odJ, .func (PySem.W.fnOf "_law_joined" "_law_joined" (defArgs sJoined) (defBody sJoined) (defScope sJoined) .none kVJ dcJ pmJ anJ cdJ ctJ), slJ⟩) (cJ : PySem.W.codeIn K cdJ "_law_joined" = true) (kJ : PySem.W.keepIn K (.ref fJ) = true)
    (aP : PySem.W.nsIn K mainGlobals "_law_paths" = some (some (.ref fP))) (lP : K.lookup fP = some ⟨ocP, odP, .func (PySem.W.fnOf "_law_paths" "_law_paths" (defArgs sPaths) (defBody sPaths) (defScope sPaths) .none kVP dcP pmP anP cdP ctP), slP⟩) (cP : PySem.W.codeIn K cdP "_law_paths" = true) (kP : PySem.W.keepIn K (.ref fP) = true)
    (aA : PySem.W.nsIn K mainGlobals "next_nodes" = some (some (.ref fA))) (lA : K.lookup fA = some ⟨ocA, odA, .func (PySem.W.fnOf "next_nodes" "next_nodes" (defArgs sNext) (defBody sNext) (defScope sNext) .none kVA dcA pmA anA cdA ctA), slA⟩) (cA : PySem.W.codeIn K cdA "next_nodes" = true) (kA : PySem.W.keepIn K (.ref fA) = true)
    (aW : PySem.W.nsIn K mainGlobals "find_way" = some (some (.ref fW))) (lW : K.lookup fW = some ⟨ocW, odW, .func (PySem.W.fnOf "find_way" "find_way" (defArgs sWay) (defBody sWay) (defScope sWay) .none kVW dcW pmW anW cdW ctW), slW⟩) (cW : PySem.W.codeIn K cdW "find_way" = true) (kW : PySem.W.keepIn K (.ref fW) = true)
    (aS : PySem.W.nsIn K mainGlobals "shortest_path" = some (some (.ref fS))) (lS : K.lookup fS = some ⟨ocS, odS, .func (PySem.W.fnOf "shortest_path" "shortest_path" (defArgs sShort) (defBody sShort) (defScope sShort) .none kVS dcS pmS anS cdS ctS), slS⟩) (cS : PySem.W.codeIn K cdS "shortest_path" = true) (kS : PySem.W.keepIn K (.ref fS) = true)
    (aL : PySem.W.nsIn K mainGlobals "law" = some (some (.ref fL))) (lL : K.lookup fL = some ⟨ocL, odL, .func (PySem.W.fnOf "law" "law" (defArgs sLaw) (defBody sLaw) (defScope sLaw) .none kVL dcL pmL anL cdL ctL), slL⟩) (cL : PySem.W.codeIn K cdL "law" = true) (kL : PySem.W.keepIn K (.ref fL) = true)
    (z_range : PySem.W.nsIn K mainGlobals "range" = some none)
    (z_len : PySem.W.nsIn K mainGlobals "len" = some none)
    (z_int : PySem.W.nsIn K mainGlobals "int" = some none)
    (z_list : PySem.W.nsIn K mainGlobals "list" = some none)
    (z_enum : PySem.W.nsIn K mainGlobals "enumerate" = some none) :
    ∃ fd : FuncData, (∀ (s : Shared) (v : Value), BindsTo s fd ⟨[v], []⟩ [("script", v)]) ∧ ∀ base : Heap, K.In base → base.Ns mainGlobals mg → FnOk l.prog w K mg base CX0 4 fa fd ["script"] (spLaw K) := by
  have e := hfa.symm.trans (PySem.W.mg_of X G aL)
  cases e
  have T : Blt mg := ⟨PySem.W.mg_none_of X G z_range, PySem.W.mg_none_of X G z_len, PySem.W.mg_none_of X G z_int, PySem.W.mg_none_of X G z_list, PySem.W.mg_none_of X G z_enum⟩
  have c : NetC K C := ⟨⟨pg, hd, po, sa⟩, n1, n2, n3, n4, n5⟩
  have FI : FunInit K fI _ := ⟨⟨_, _, _, _, _, _, _, _, _, _, rfl, lI, cI, .inl ⟨rfl, rfl⟩, .inr ⟨DK, rfl, fun q hq => by
    rcases List.mem_cons.mp hq with rfl | hq
    · exact ⟨_, kw0, ⟨_, rfl⟩⟩
    · rw [List.mem_singleton.mp hq]
      exact ⟨_, kw1, ⟨_, rfl⟩⟩⟩⟩, kI⟩
  have MI : Mk K C fI := ⟨mk, aI, iI, kc⟩
  have gC := PySem.W.mg_of X G aC
  have FM := fun_mk (st := sNb) lM cM kM
  have mM : Meth K C "neighbours" fM := ⟨aM, iM, kM⟩
  have FD := fun_mk (st := sDraw) lD cD kD
  have gD := PySem.W.mg_of X G aD
  have FC' := fun_mk (st := sCell) lC' cC' kC'
  have gC' := PySem.W.mg_of X G aC'
  have FN := fun_mk (st := sLNet) lN cN kN
  have gN := PySem.W.mg_of X G aN
  have FJ := fun_mk (st := sJoined) lJ cJ kJ
  have gJ := PySem.W.mg_of X G aJ
  have FP := fun_mk (st := sPaths) lP cP kP
  have gP := PySem.W.mg_of X G aP
  have FA := fun_mk (st := sNext) lA cA kA
  have gA := PySem.W.mg_of X G aA
  have FW := fun_mk (st := sWay) lW cW kW
  have gW := PySem.W.mg_of X G aW
  have FS := fun_mk (st := sShort) lS cS kS
  have gS := PySem.W.mg_of X G aS
  have FL := fun_mk (st := sLaw) lL cL kL
  refine ⟨PySem.W.fnOf "law" "law" (defArgs sLaw) (defBody sLaw) (defScope sLaw) .none kVL dcL pmL anL cdL ctL, fun s v => .of_eq rfl, fun base _ _ => ?_⟩
  have BD : Binds K _ ["cell", "many", "bound"] [] := FD.binds (ps := ["cell", "many", "bound"]) fun _ _ _ _ _ _ us hl => match us, hl with | [_, _, _], _ => rfl
  have BC : Binds K _ ["script", "k"] [] := FC'.binds (ps := ["script", "k"]) fun _ _ _ _ _ _ us hl => match us, hl with | [_, _], _ => rfl
  have BN : Binds K _ ["cell", "more"] [] := FN.binds (ps := ["cell", "more"]) fun _ _ _ _ _ _ us hl => match us, hl with | [_, _], _ => rfl
  have BJ : Binds K _ ["net", "a", "b"] [] := FJ.binds (ps := ["net", "a", "b"]) fun _ _ _ _ _ _ us hl => match us, hl with | [_, _, _], _ => rfl
  have BP : Binds K _ ["net", "most"] [] := FP.binds (ps := ["net", "most"]) fun _ _ _ _ _ _ us hl => match us, hl with | [_, _], _ => rfl
  have BM : Binds K _ ["self", "a"] [] := FM.binds (ps := ["self", "a"]) fun _ _ _ _ _ _ us hl => match us, hl with | [_, _], _ => rfl
  have BA : Binds K _ ["net", "first"] [] := FA.binds (ps := ["net", "first"]) fun _ _ _ _ _ _ us hl => match us, hl with | [_, _], _ => rfl
  have BW : Binds K _ ["arcs", "start", "goal"] [] := FW.binds (ps := ["arcs", "start", "goal"]) fun _ _ _ _ _ _ us hl => match us, hl with | [_, _, _], _ => rfl
  have BS : Binds K _ ["net", "first", "last"] [] := FS.binds (ps := ["net", "first", "last"]) fun _ _ _ _ _ _ us hl => match us, hl with | [_, _, _], _ => rfl
  have GI : NetMk l.prog w K mg base C fI _ := ⟨ok_init FI T c, gC, MI, kb_net FI⟩
  have GD : Callee l.prog w K mg base 1 "_law_draw" ["cell", "many", "bound"] spDraw fD _ := ⟨ok_draw FD T, gD, FD.kp, BD⟩
  have GC : Callee l.prog w K mg base 1 "_law_cell" ["script", "k"] (spCell K) fC' _ := ⟨ok_cell FC' T, gC', FC'.kp, BC⟩
  have GN : Callee l.prog w K mg base 3 "_law_net" ["cell", "more"] (spLNet K C) fN _ := ⟨ok_lnet FN T GD GI, gN, FN.kp, BN⟩
  have GJ : Callee l.prog w K mg base 1 "_law_joined" ["net", "a", "b"] (spJoined K C) fJ _ := ⟨ok_joined FJ c, gJ, FJ.kp, BJ⟩
  have GP : Callee l.prog w K mg base 2 "_law_paths" ["net", "most"] (spPaths K C) fP _ := ⟨ok_paths FP T c GJ, gP, FP.kp, BP⟩
  have GM : MethOf l.prog w K mg base 1 ["self", "a"] (spNb K C) fM _ := ⟨ok_nb FM T c, BM⟩
  have GA : Callee l.prog w K mg base 2 "next_nodes" ["net", "first"] (spNext K C) fA _ := ⟨ok_next FA T c mM GM, gA, FA.kp, BA⟩
  have GW : Callee l.prog w K mg base 1 "find_way" ["arcs", "start", "goal"] spWay fW _ := ⟨ok_way FW, gW, FW.kp, BW⟩
  have GS : Callee l.prog w K mg base 3 "shortest_path" ["net", "first", "last"] (spShort K C) fS _ := ⟨ok_short FS GW GA, gS, FS.kp, BS⟩
  exact ok_law FL T c GC GN GP GS
end My
open PySem PySem.W PyProof.Rows in
set_option maxHeartbeats 0 in
theorem PySem.Challenge.cw_metronet_k02_shortest_paths_holds : PySem.Challenge.rw_metronet_k02_shortest_paths.Holds := by
  w_on; o_law; k_head; (case hw => w_witness2)
  k_fill
  refine L2.walk_of (l := PySem.Challenge.rw_metronet_k02_shortest_paths) (n := 63) (k := 4) (x := "script") (CX := fun _ => L2.CX0) (sp := fun w => My.spLaw _) rfl (by decide) rfl ⟨rfl, by decide, by decide⟩ (fun w h Y => PySem.W.kIn_of Y) ?F (fun _ _ a ns hl _ hS => ⟨a, ns, rfl, hS, hl, fun _ => rfl⟩) (fun _ _ _ _ _ h => h)
  case F =>
    intro w mg fa h KX G hmg
    refine' My.all_mk KX G hmg ?aC ?aI ?iI ?lI ?cI ?kI ?kw0 ?kw1 ?aM ?iM ?lM ?cM ?kM ?pg ?hd ?po ?sa ?mk ?kc ?n1 ?n2 ?n3 ?n4 ?n5 ?aD ?lD ?cD ?kD ?aC' ?lC' ?cC' ?kC' ?aN ?lN ?cN ?kN ?aJ ?lJ ?cJ ?kJ ?aP ?lP ?cP ?kP ?aA ?lA ?cA ?kA ?aW ?lW ?cW ?kW ?aS ?lS ?cS ?kS ?aL ?lL ?cL ?kL ?z_range ?z_len ?z_int ?z_list ?z_enum
    (case aC => k_is)
    (case aI => k_is)
    (case iI => k_is)
    (case lI => k_is)
    (case cI => k_is)
    (case kI => k_is)
    (case kw0 => k_is)
    (case kw1 => k_is)
    (case aM => k_is)
    (case iM => k_is)
    (case lM => k_is)
    (case cM => k_is)
    (case kM => k_is)
    (case pg => k_is)
    (case hd => k_is)
    (case po => k_is)
    (case sa => k_is)
    (case mk => k_is)
    (case kc => k_is)
    (case n1 => k_is)
    (case n2 => k_is)
    (case n3 => k_is)
    (case n4 => k_is)
    (case n5 => k_is)
    (case aD => k_is)
    (case lD => k_is)
    (case cD => k_is)
    (case kD => k_is)
    (case aC' => k_is)
    (case lC' => k_is)
    (case cC' => k_is)
    (case kC' => k_is)
    (case aN => k_is)
    (case lN => k_is)
    (case cN => k_is)
    (case kN => k_is)
    (case aJ => k_is)
    (case lJ => k_is)
    (case cJ => k_is)
    (case kJ => k_is)
    (case aP => k_is)
    (case lP => k_is)
    (case cP => k_is)
    (case kP => k_is)
    (case aA => k_is)
    (case lA => k_is)
    (case cA => k_is)
    (case kA => k_is)
    (case aW => k_is)
    (case lW => k_is)
    (case cW => k_is)
    (case kW => k_is)
    (case aS => k_is)
    (case lS => k_is)
    (case cS => k_is)
    (case kS => k_is)
    (case aL => k_is)
    (case lL => k_is)
    (case cL => k_is)
    (case kL => k_is)
    (case z_range => k_is)
    (case z_len => k_is)
    (case z_int => k_is)
    (case z_list => k_is)
    (case z_enum => k_is)
