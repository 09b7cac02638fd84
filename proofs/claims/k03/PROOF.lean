import PyProof.Rows.All
import Wide.All
import OpenK.AllK
import Wide.FinOn
import HandS.ForMost
import HandS.Wide
import HandS.Defaults
import HandS.MakeKwOnly
import HandS.Flow
import HandS.More
import HandS.Walk
import KE.LtData
import KE.KItemsList
import KE.KDictZip
import KE.KTurns
import KE.KEqDict
import PyProof.DictFindH
import HandS.DictTup
import PyProof.Rows.TupDisplay
import HandS.Iter
import KE.DataMinMax
import HandS.Deep
import HandS.TryOnly
import HandS.SortInts
import HandS.SortRule
import HandS.IsInst
import PySem.Challenge.RW_metronet_k03_whole_two_ways_or_a_bottlen
set_option Elab.async false
set_option linter.all false
set_option maxRecDepth 100000
set_option maxHeartbeats 4000000
/-! What any law wants, without the row: heaps, loops, order of data. -/
namespace My
open PySem PySem.Spec PyProof.Rows L2

theorem same_new {H : Hp} {p : Addr} {o : HO} (h : H p = none) : Same H (upd H p o) := fun b x e => by
  rw [upd_ne (ne_of_none e h)]
  exact e
/-- an object that H does not know may change -/
theorem same_mut {H H' : Hp} {p : Addr} {o : HO} (e : Same H H') (h : H p = none) : Same H (upd H' p o) := fun a u ha => by
  rw [upd_ne (ne_of_none ha h)]
  exact e a u ha
theorem ne_new {H H' : Hp} {a p : Addr} (n : H p = none) (h : H' p ≠ none) (e : H' a = none) : p ≠ a := fun q => h (q ▸ e)
/-- a list of ints by place -/
theorem ints_at {ns : List Int} {i : Nat} {y : V} (h : (ns.map V.int)[i]? = some y) : ∃ n, ns[i]? = some n ∧ y = .int n := by
  rw [List.getElem?_map] at h
  cases e : ns[i]? with
  | none => rw [e] at h; cases h
  | some n => rw [e] at h; exact ⟨n, rfl, (Option.some.inj h).symm⟩
theorem int_at {ns : List Int} {i : Nat} {n : Int} (h : ns[i]? = some n) : (ns.map V.int)[i]? = some (.int n) := by
  rw [List.getElem?_map, h]; rfl
theorem atI_int {ns : List Int} {i : Nat} (h : i < ns.length) : atI (ns.map V.int) (i : Int) = some (.int ns[i]) := atI_nat (int_at (List.getElem?_eq_getElem h))
theorem sz {n : Nat} (h : n ≤ 100000) : n ≤ sizeLine := Nat.le_trans h (by decide)
theorem szl {n : Nat} (h : n < 100000) : n < sizeLine := Nat.lt_of_lt_of_le h (by decide)

theorem getD_lt {α : Type} {xs : List α} {j : Nat} (d : α) (h : j < xs.length) : xs.getD j d = xs[j] := by
  rw [List.getD_eq_getElem?_getD, List.getElem?_eq_getElem h]; rfl
theorem getD_at {α : Type} {xs : List α} {j : Nat} (d : α) (h : j < xs.length) : xs[j]? = some (xs.getD j d) := by
  rw [getD_lt d h, List.getElem?_eq_getElem h]
theorem atI_ints {ns : List Int} {z : Int} {j : Nat} (e : z = (j : Int)) (h : j < ns.length) : atI (ns.map V.int) z = some (.int (ns.getD j 0)) := by
  rw [e]
  exact atI_nat (int_at (getD_at 0 h))
theorem getD_mem {ns : List Int} {j : Nat} (h : j < ns.length) : ns.getD j 0 ∈ ns := by
  rw [getD_lt 0 h]; exact List.getElem_mem h
/-! ### tests that change nothing -/
theorem or_read {t u : TT} {σ : L2.St} {H : Hp} {Q : Bool → Hp → Prop} {a b : Bool} (ht : ∀ Q : Bool → Hp → Prop, Q a H → t σ H Q) (hu : ∀ Q : Bool → Hp → Prop, Q b H → u σ H Q) (h : Q (a || b) H) : tOr t u σ H Q := by
  refine ht _ ?_
  cases a with
  | true => exact iteT h
  | false => exact iteF (hu _ h)
theorem and_read {t u : TT} {σ : L2.St} {H : Hp} {Q : Bool → Hp → Prop} {a b : Bool} (ht : ∀ Q : Bool → Hp → Prop, Q a H → t σ H Q) (hu : a = true → ∀ Q : Bool → Hp → Prop, Q b H → u σ H Q) (h : Q (a && b) H) : tAnd t u σ H Q := by
  refine ht _ ?_
  cases a with
  | true => exact iteT (hu rfl _ h)
  | false => exact iteF h
/-! ### < of data -/
section
variable {X : Cx}
def rLtD (K : PySem.W.Frag) : R2 := fun x y H Q => ∃ d e, Dp K H x d ∧ Dp K H y e ∧ PySem.W.alike d e = true ∧ d ≠ .none ∧ min d.depth e.depth ≤ 64 ∧ Q (.bl (PySem.W.dataLt d e)) H
theorem op_ltD (hu : X.A.units + 64 < cLine) : OpR X (compareOp .Lt) (rLtD X.K) := by
  intro pins s σ H x y v u Q I rx ry h
  obtain ⟨d, e, hd, he, al, nn, dp, q⟩ := h
  obtain ⟨as, r1⟩ := Dp.reads I d x v hd rx
  obtain ⟨bs, r2⟩ := Dp.reads I e y u he ry
  have z : wpAny (model X.prog X.w) X.A (compareOp .Lt v u) (EP X pins σ Q) X.xe s := PySem.W.rcLt_alike d e X.A s v u as bs r1 r2 al nn (by omega) X.prog X.w X.xe (EP X pins σ Q) ⟨.bl _, H, I, rfl, q⟩
  exact z
end
/-! ### rules that name the written part, for a comprehension's block -/
section
variable {X : Cx} {K : PySem.W.Frag}
theorem pe_fldK {e : Expr} {f : Str} {pos : Pos} {ta : TE} (he : PE X e ta) (hK : X.K = K := by rfl) (hb : attributeBase e f X.env (eval e X.env) = eval e X.env := by rfl) : PE X (.Attribute e f pos) (tFld K ta f) := by
  subst hK
  exact pe_fld he hb
theorem ix_listK (hK : X.K = K := by rfl) : IxR X (rIxL K) := by
  subst hK
  exact ix_list
theorem ix_tupK (hK : X.K = K := by rfl) : IxR X (rIxT K) := by
  subst hK
  exact ix_tup
def rLenK (K : PySem.W.Frag) : List V → Hp → VK → Prop := fun xs H Q => ∃ p ys, xs = [.ref p] ∧ (SqL K H p ys ∨ SqT K H p ys) ∧ Q (.int ys.length) H
theorem call_lenK (hK : X.K = K := by rfl) : CallR X (.builtin "len") (rLenK K) := by
  subst hK
  exact call_len_seq
theorem pg_tupK {es : List Expr} {k : Nat} {t : TGs} {n : Nat} {pos : Pos} (hc : X.calm = true) (h : PGs X es t) (hK : X.K = K := by rfl)
    (hn : (assignEach es X.env).length = n := by rfl) (hst : (assignEach es X.env).findIdx? (·.1) = none := by rfl) : PG X (.Tuple es k pos) (gTup K n t) := by
  subst hK
  exact pg_tup hc h hn hst
end
end My
/-! Nets as data, how the heap bears them. No row. -/
namespace My
open PySem PySem.Spec PyProof.Rows L2
/-- a net as data: host or not, the lines, processing, clock bound -/
structure NetD where
  ks : List Bool
  ls : List (Nat × Nat × Int)
  pr : Int
  er : Int
def kindV (b : Bool) : V := .str (if b then "host" else "switch")
def lineV (l : Nat × Nat × Int) : List V := [.int (l.1 : Int), .int (l.2.1 : Int), .int l.2.2]
def key2 (a b : Nat) : List Key := [Sum.inl (a : Int), Sum.inl (b : Int)]
def put2 (acc : List (List Key × V)) (l : Nat × Nat × Int) : List (List Key × V) := putK (putK acc (key2 l.1 l.2.1) (.int l.2.2)) (key2 l.2.1 l.1) (.int l.2.2)
def delaysOf (ls : List (Nat × Nat × Int)) : List (List Key × V) := ls.foldl put2 []
theorem put2_len (acc : List (List Key × V)) (l : Nat × Nat × Int) : (put2 acc l).length ≤ acc.length + 2 := by
  have h1 := length_putK (putK acc (key2 l.1 l.2.1) (.int l.2.2)) (key2 l.2.1 l.1) (.int l.2.2)
  have h2 := length_putK acc (key2 l.1 l.2.1) (.int l.2.2)
  unfold put2
  omega
theorem foldl_len : ∀ (ls : List (Nat × Nat × Int)) (acc : List (List Key × V)), (ls.foldl put2 acc).length ≤ acc.length + 2 * ls.length
  | [], acc => by simp
  | l :: r, acc => by
    have := foldl_len r (put2 acc l)
    have := put2_len acc l
    rw [List.foldl_cons, List.length_cons]
    omega
theorem delays_len (ls : List (Nat × Nat × Int)) : (delaysOf ls).length ≤ 2 * ls.length := by
  have := foldl_len ls []
  rw [List.length_nil] at this
  unfold delaysOf
  omega
theorem delays_snoc (ls : List (Nat × Nat × Int)) (l : Nat × Nat × Int) : delaysOf (ls ++ [l]) = put2 (delaysOf ls) l := by
  unfold delaysOf
  rw [List.foldl_append]
  rfl
theorem take_snoc {α : Type} {xs : List α} {i : Nat} {x : α} (h : xs[i]? = some x) : xs.take (i + 1) = xs.take i ++ [x] := by
  rw [List.take_add_one, h]
  rfl
theorem key2_inj {a b c d : Nat} (e : key2 a b = key2 c d) : a = c ∧ b = d := by
  unfold key2 at e
  injection e with e1 e2
  injection e2 with e2 _
  injection e1 with e1
  injection e2 with e2
  exact ⟨by omega, by omega⟩
/-- the line joins both nodes -/
def hits (a b : Nat) (l : Nat × Nat × Int) : Bool := (decide (l.1 = a) && decide (l.2.1 = b)) || (decide (l.1 = b) && decide (l.2.1 = a))
theorem valV_put2 (acc : List (List Key × V)) (l : Nat × Nat × Int) (a b : Nat) : valV (put2 acc l) (key2 a b) = if hits a b l = true then some (.int l.2.2) else valV acc (key2 a b) := by
  unfold put2 hits
  rw [valV_put, valV_put]
  by_cases h1 : key2 a b = key2 l.2.1 l.1
  · obtain ⟨e1, e2⟩ := key2_inj h1
    rw [if_pos h1, if_pos]
    simp [e1, e2]
  · rw [if_neg h1]
    by_cases h2 : key2 a b = key2 l.1 l.2.1
    · obtain ⟨e1, e2⟩ := key2_inj h2
      rw [if_pos h2, if_pos]
      simp [e1, e2]
    · rw [if_neg h2, if_neg]
      intro h
      rw [Bool.or_eq_true, Bool.and_eq_true, Bool.and_eq_true, decide_eq_true_eq, decide_eq_true_eq, decide_eq_true_eq, decide_eq_true_eq] at h
      rcases h with ⟨e1, e2⟩ | ⟨e1, e2⟩
      · exact h2 (by rw [e1, e2])
      · exact h1 (by rw [e1, e2])
theorem valV_fold (a b : Nat) : ∀ (ls : List (Nat × Nat × Int)) (acc : List (List Key × V)), (valV (ls.foldl put2 acc) (key2 a b)).isSome = (ls.any (hits a b) || (valV acc (key2 a b)).isSome)
  | [], acc => by simp
  | l :: r, acc => by
    rw [List.foldl_cons, valV_fold a b r, valV_put2, List.any_cons]
    cases hits a b l with
    | true => simp
    | false => simp
def adj (N : NetD) (a b : Nat) : Bool := N.ls.any (hits a b)
theorem adj_val (N : NetD) (a b : Nat) : (valV (delaysOf N.ls) (key2 a b)).isSome = adj N a b := by
  unfold delaysOf adj
  rw [valV_fold]
  simp [valV_nil]
/-- the first line that joins both -/
def joined (N : NetD) (a b : Nat) : Option Int := (N.ls.find? (hits a b)).map (·.2.2)
theorem joined_some (N : NetD) (a b : Nat) : (joined N a b).isSome = adj N a b := by
  unfold joined adj
  rw [Option.isSome_map, Bool.eq_iff_iff, List.find?_isSome, List.any_eq_true]

def nbs (N : NetD) (a : Nat) : List Nat := (List.range N.ks.length).filter (adj N a)
def natsV (ns : List Nat) : List V := ns.map fun (n : Nat) => V.int (n : Int)
/-- host or not -/
def host (N : NetD) (a : Nat) : Bool := N.ks.getD a true
def lastN (r : List Nat) : Nat := r.getD (r.length - 1) 0
def okb (N : NetD) (r : List Nat) (b : Nat) : Bool := !(r.contains b) && adj N (lastN r) b
def exH (N : NetD) (r : List Nat) : List (List Nat) := ((List.range N.ks.length).filter fun b => okb N r b && host N b).map fun b => r ++ [b]
def exS (N : NetD) (r : List Nat) : List (List Nat) := ((List.range N.ks.length).filter fun b => okb N r b && !host N b).map fun b => r ++ [b]
def rowsOf (N : NetD) : Nat → List (List Nat)
  | 0 => ((List.range N.ks.length).filter (host N)).map fun a => [a]
  | t + 1 => (rowsOf N t).flatMap (exS N)
def foundOf (N : NetD) : Nat → List (List Nat)
  | 0 => []
  | t + 1 => foundOf N t ++ (rowsOf N t).flatMap (exH N)
theorem natsV_at {ns : List Nat} {i n : Nat} (h : ns[i]? = some n) : (natsV ns)[i]? = some (.int (n : Int)) := by
  unfold natsV
  rw [List.getElem?_map, h]
  rfl
theorem natsV_len (ns : List Nat) : (natsV ns).length = ns.length := List.length_map ..
theorem natsV_flat (ns : List Nat) : (natsV ns).all flatV = true := by
  rw [List.all_eq_true]
  intro x hx
  obtain ⟨n, _, rfl⟩ := List.mem_map.mp hx
  rfl
theorem natsV_in (ns : List Nat) (b : Nat) : inV (.int (b : Int)) (natsV ns) = ns.contains b := by
  unfold inV natsV
  rw [List.any_map, List.contains_eq_any_beq]
  congr 1
  funext x
  show ((x : Int) == (b : Int)) = (b == x)
  rw [Bool.eq_iff_iff, beq_iff_eq, beq_iff_eq]
  omega
theorem natsV_app (r : List Nat) (b : Nat) : natsV r ++ [V.int (b : Int)] = natsV (r ++ [b]) := by
  unfold natsV
  rw [List.map_append]
  rfl
theorem len_flat {α β : Type} (f : α → List β) (m : Nat) (h : ∀ a, (f a).length ≤ m) : ∀ l : List α, (l.flatMap f).length ≤ m * l.length
  | [] => by simp
  | a :: r => by
    have := len_flat f m h r
    have := h a
    rw [List.flatMap_cons, List.length_append, List.length_cons, Nat.mul_add]
    omega
theorem exH_len (N : NetD) (r : List Nat) : (exH N r).length ≤ N.ks.length := by
  have := List.length_filter_le (fun b => okb N r b && host N b) (List.range N.ks.length)
  unfold exH
  rw [List.length_map]
  rw [List.length_range] at this
  exact this
theorem exS_len (N : NetD) (r : List Nat) : (exS N r).length ≤ N.ks.length := by
  have := List.length_filter_le (fun b => okb N r b && !host N b) (List.range N.ks.length)
  unfold exS
  rw [List.length_map]
  rw [List.length_range] at this
  exact this
theorem rows_len (N : NetD) (h : N.ks.length ≤ 7) : ∀ t, (rowsOf N t).length ≤ 8 ^ (t + 1)
  | 0 => by
    have := List.length_filter_le (host N) (List.range N.ks.length)
    rw [List.length_range] at this
    show (((List.range N.ks.length).filter (host N)).map fun a => [a]).length ≤ 8 ^ 1
    rw [List.length_map]
    omega
  | t + 1 => by
    have h1 := rows_len N h t
    have h2 := len_flat (exS N) 7 (fun a => Nat.le_trans (exS_len N a) h) (rowsOf N t)
    show ((rowsOf N t).flatMap (exS N)).length ≤ _
    rw [Nat.pow_succ]
    omega
theorem found_len (N : NetD) (h : N.ks.length ≤ 7) : ∀ t, (foundOf N t).length ≤ 8 ^ (t + 1)
  | 0 => by simp [foundOf]
  | t + 1 => by
    have h1 := found_len N h t
    have h0 := rows_len N h t
    have h2 := len_flat (exH N) 7 (fun a => Nat.le_trans (exH_len N a) h) (rowsOf N t)
    show (foundOf N t ++ (rowsOf N t).flatMap (exH N)).length ≤ _
    rw [List.length_append, Nat.pow_succ]
    omega
theorem ex_ne (N : NetD) (r x : List Nat) (h : x ∈ exH N r ∨ x ∈ exS N r) : x ≠ [] := by
  rcases h with h | h
  · obtain ⟨b, _, rfl⟩ := List.mem_map.mp h
    simp
  · obtain ⟨b, _, rfl⟩ := List.mem_map.mp h
    simp
theorem rows_row (N : NetD) : ∀ t, ∀ r ∈ rowsOf N t, r.length = t + 1
  | 0, r, h => by
    obtain ⟨a, _, rfl⟩ := List.mem_map.mp h
    rfl
  | t + 1, r, h => by
    obtain ⟨r', h1, h2⟩ := List.mem_flatMap.mp h
    obtain ⟨b, _, rfl⟩ := List.mem_map.mp h2
    rw [List.length_append, rows_row N t r' h1]
    rfl
theorem flat_take {α β : Type} (f : α → List β) {l : List α} {i : Nat} {a : α} (h : l[i]? = some a) : (l.take (i + 1)).flatMap f = (l.take i).flatMap f ++ f a := by
  rw [take_snoc h, List.flatMap_append, List.flatMap_cons, List.flatMap_nil, List.append_nil]
theorem filt_succ {α : Type} (p : Nat → Bool) (f : Nat → α) (j : Nat) : ((List.range (j + 1)).filter p).map f = ((List.range j).filter p).map f ++ (if p j = true then [f j] else []) := by
  rw [List.range_succ, List.filter_append, List.map_append, List.filter_cons]
  split <;> rfl
def optV : Option Int → V
  | none => .non
  | some d => .int d
theorem optV_non (o : Option Int) : (!decide (optV o = .non)) = o.isSome := by
  cases o with
  | none => rfl
  | some d => rfl
theorem dec_nat (a b : Nat) : decide (V.int (a : Int) = V.int (b : Int)) = decide (a = b) := by
  by_cases h : a = b
  · rw [h]; simp
  · rw [decide_eq_false h, decide_eq_false]
    intro z
    injection z with z
    omega
theorem find_take {α : Type} (p : α → Bool) {l : List α} {i : Nat} {a : α} (h : l[i]? = some a) (h0 : (l.take i).find? p = none) (hp : p a = true) : l.find? p = some a := by
  have e : l = l.take i ++ a :: l.drop (i + 1) := by
    obtain ⟨hi, e⟩ := List.getElem?_eq_some_iff.mp h
    rw [← e, List.getElem_cons_drop, List.take_append_drop]
  rw [e, List.find?_append, h0, List.find?_cons, hp]
  rfl
theorem find_skip {α : Type} (p : α → Bool) {l : List α} {i : Nat} {a : α} (h : l[i]? = some a) (h0 : (l.take i).find? p = none) (hp : ¬ p a = true) : (l.take (i + 1)).find? p = none := by
  rw [take_snoc h, List.find?_append, h0, List.find?_cons, Bool.eq_false_iff.mpr hp]
  rfl
/-! ### the instance's attributes -/
def netF (lk ll : Addr) (pr er : Int) (ld : Addr) : List (Str × V) := [("kinds", .ref lk), ("lines", .ref ll), ("processing", .int pr), ("error", .int er), ("_delays", .ref ld)]
theorem putF_new {f : Str} {v : V} : ∀ {fs : List (Str × V)}, fs.lookup f = none → putF f v fs = fs ++ [(f, v)]
  | [], _ => rfl
  | (g, x) :: r, h => by
    have e : (f == g) = false := by
      cases q : f == g with
      | false => rfl
      | true => rw [List.lookup_cons, q] at h; cases h
    rw [List.lookup_cons, e] at h
    have ne : ¬ g = f := fun z => by rw [z] at e; simp at e
    show (if g = f then (g, v) :: r else (g, x) :: putF f v r) = _
    rw [if_neg ne, putF_new h]
    rfl
theorem f1 {lk : Addr} : putF "kinds" (.ref lk) [] = [(("kinds" : Str), V.ref lk)] := rfl
theorem f2 {lk ll : Addr} : putF "lines" (.ref ll) [(("kinds" : Str), V.ref lk)] = [(("kinds" : Str), V.ref lk), ("lines", V.ref ll)] := putF_new rfl
theorem f3 {lk ll : Addr} {pr : Int} : putF "processing" (.int pr) [(("kinds" : Str), V.ref lk), ("lines", V.ref ll)] = [(("kinds" : Str), V.ref lk), ("lines", V.ref ll), ("processing", .int pr)] := putF_new rfl
theorem f4 {lk ll : Addr} {pr er : Int} : putF "error" (.int er) [(("kinds" : Str), V.ref lk), ("lines", V.ref ll), ("processing", .int pr)] = [(("kinds" : Str), V.ref lk), ("lines", V.ref ll), ("processing", .int pr), ("error", .int er)] := putF_new rfl
theorem f5 {lk ll ld : Addr} {pr er : Int} : putF "_delays" (.ref ld) [(("kinds" : Str), V.ref lk), ("lines", V.ref ll), ("processing", .int pr), ("error", .int er)] = netF lk ll pr er ld := putF_new rfl
section
variable {lk ll ld : Addr} {pr er : Int}
theorem g1 : (netF lk ll pr er ld).lookup ("kinds" : Str) = some (.ref lk) := rfl
theorem g2 : (netF lk ll pr er ld).lookup ("lines" : Str) = some (.ref ll) := rfl
theorem g3 : (netF lk ll pr er ld).lookup ("processing" : Str) = some (.int pr) := rfl
theorem g4 : (netF lk ll pr er ld).lookup ("error" : Str) = some (.int er) := rfl
theorem g5 : (netF lk ll pr er ld).lookup ("_delays" : Str) = some (.ref ld) := rfl
theorem g6 : (netF lk ll pr er ld).lookup ("neighbours" : Str) = none := rfl
theorem g7 : (netF lk ll pr er ld).lookup ("delay" : Str) = none := rfl
end
/-- tuples of lines -/
abbrev LinesAt (K : PySem.W.Frag) (H : Hp) (ts : List Addr) (ls : List (Nat × Nat × Int)) : Prop := Paired (fun (t : Addr) (l : Nat × Nat × Int) => SqT K H t (lineV l)) ts ls
theorem same_tup {K : PySem.W.Frag} {H H' : Hp} {a : Addr} {xs : List V} (e : Same H H') (h : SqT K H a xs) : SqT K H' a xs := by
  rcases h with (h | ⟨o, h⟩) | h
  · exact .inl (.inl (e _ _ h))
  · exact .inl (.inr ⟨o, e _ _ h⟩)
  · exact .inr h
theorem Paired.imp {α β : Type} {F G : α → β → Prop} : ∀ {l1 : List α} {l2 : List β}, Paired F l1 l2 → (∀ a b, F a b → G a b) → Paired G l1 l2
  | _, _, .nil, _ => .nil
  | _, _, .cons r t, f => .cons (f _ _ r) (Paired.imp t f)
theorem Paired.at {α β : Type} {F : α → β → Prop} : ∀ {xs : List α} {ys : List β}, Paired F xs ys → ∀ {i : Nat} {x : α}, xs[i]? = some x → ∃ y, ys[i]? = some y ∧ F x y
  | _, _, .nil, i, x, h => by cases h
  | _, _, .cons r t, 0, x, h => by
    have e := Option.some.inj h
    subst e
    exact ⟨_, rfl, r⟩
  | _, _, .cons r t, i + 1, x, h => Paired.at t h
theorem Paired.snoc {α β : Type} {F : α → β → Prop} {x : α} {y : β} (r : F x y) : ∀ {xs : List α} {ys : List β}, Paired F xs ys → Paired F (xs ++ [x]) (ys ++ [y])
  | _, _, .nil => .cons r .nil
  | _, _, .cons h t => .cons h (Paired.snoc r t)
theorem LinesAt.same {K : PySem.W.Frag} {H H' : Hp} {ts : List Addr} {ls : List (Nat × Nat × Int)} (h : LinesAt K H ts ls) (e : Same H H') : LinesAt K H' ts ls := Paired.imp h fun _ _ q => same_tup e q
/-- a Net stands at p -/
def NetAt (K : PySem.W.Frag) (C : Addr) (H : Hp) (p : Addr) (N : NetD) : Prop := ∃ (dx lk ll ld : Addr) (ts : List Addr), H p = some (.ins C dx (netF lk ll N.pr N.er ld)) ∧ H lk = some (.lst (N.ks.map kindV)) ∧ H ll = some (.lst (ts.map V.ref)) ∧
  LinesAt K H ts N.ls ∧ H ld = some (.dT (delaysOf N.ls))
theorem NetAt.same {K : PySem.W.Frag} {C : Addr} {H H' : Hp} {p : Addr} {N : NetD} (h : NetAt K C H p N) (e : Same H H') : NetAt K C H' p N := by
  obtain ⟨dx, lk, ll, ld, ts, h1, h2, h3, h4, h5⟩ := h
  exact ⟨dx, lk, ll, ld, ts, e _ _ h1, e _ _ h2, e _ _ h3, h4.same e, e _ _ h5⟩
/-- all but p is kept -/
def But (p : Addr) (H H' : Hp) : Prop := ∀ b o, H b = some o → b ≠ p → H' b = some o
theorem But.trans {p : Addr} {H H1 H2 : Hp} (a : But p H H1) (b : But p H1 H2) : But p H H2 := fun c o h n => b c o (a c o h n) n
theorem But.seq {K : PySem.W.Frag} {p C dx a : Addr} {fs : List (Str × V)} {H H' : Hp} {xs : List V} (h : But p H H') (hp : H p = some (.ins C dx fs)) (q : SqL K H a xs) : SqL K H' a xs := by
  rcases q with (q | ⟨o, q⟩) | q
  · exact .inl (.inl (h _ _ q (ne_of q hp (by intro z; cases z))))
  · exact .inl (.inr ⟨o, h _ _ q (ne_of q hp (by intro z; cases z))⟩)
  · exact .inr q
theorem But.tup {K : PySem.W.Frag} {p C dx a : Addr} {fs : List (Str × V)} {H H' : Hp} {xs : List V} (h : But p H H') (hp : H p = some (.ins C dx fs)) (q : SqT K H a xs) : SqT K H' a xs := by
  rcases q with (q | ⟨o, q⟩) | q
  · exact .inl (.inl (h _ _ q (ne_of q hp (by intro z; cases z))))
  · exact .inl (.inr ⟨o, h _ _ q (ne_of q hp (by intro z; cases z))⟩)
  · exact .inr q
theorem but_new {p l : Addr} {o u : HO} {H : Hp} (nl : H l = none) : But p H (upd (upd H l o) p u) := fun b x e n => by
  rw [upd_ne n, upd_ne (ne_of_none e nl)]; exact e
theorem but_self {p : Addr} {u : HO} {H : Hp} : But p H (upd H p u) := fun b x e n => by
  rw [upd_ne n]; exact e
theorem but_app {p t : Addr} {o u : HO} {H : Hp} (nt : H t = none) : But p H (upd (upd H t o) p u) := but_new nt
theorem But.refl (p : Addr) (H : Hp) : But p H H := fun _ _ e _ => e
theorem But.tupL {K : PySem.W.Frag} {p a : Addr} {ys : List V} {H H' : Hp} {xs : List V} (h : But p H H') (hp : H p = some (.lst ys)) (q : SqT K H a xs) : SqT K H' a xs := by
  rcases q with (q | ⟨o, q⟩) | q
  · exact .inl (.inl (h _ _ q (ne_of q hp (by intro z; cases z))))
  · exact .inl (.inr ⟨o, h _ _ q (ne_of q hp (by intro z; cases z))⟩)
  · exact .inr q
theorem same_but {p : Addr} {H H1 H2 : Hp} (e : Same H H1) (n : H p = none) (h : But p H1 H2) : Same H H2 := fun b o q => h _ _ (e _ _ q) (ne_of_none q n)
theorem kind_sw {b : Bool} (h : kindV b = V.str "switch") : b = false := by
  cases b with
  | false => rfl
  | true => exact absurd h (by decide +kernel)
theorem kind_ho {b : Bool} (h : kindV b = V.str "host") : b = true := by
  cases b with
  | true => rfl
  | false => exact absurd h (by decide +kernel)
theorem kind_inj {a b : Bool} (h : kindV a = kindV b) : a = b := by
  cases a with
  | true => exact (kind_ho h.symm).symm
  | false => exact (kind_sw h.symm).symm
theorem atI_kind {ks : List Bool} {z : Int} {j : Nat} (e : z = (j : Int)) (h : j < ks.length) : atI (ks.map kindV) z = some (kindV (ks.getD j true)) := by
  rw [e]
  refine atI_nat ?_
  rw [List.getElem?_map, getD_at true h]
  rfl
/-- a line's nodes, the greater one first -/
def norm (l : Nat × Nat × Int) : Nat × Nat := if l.2.1 < l.1 then (l.1, l.2.1) else (l.2.1, l.1)
theorem norm_gt {a b : Nat} {d : Int} (h : b < a) : norm (a, b, d) = (a, b) := if_pos h
theorem norm_lt {a b : Nat} {d : Int} (h : b < a) : norm (b, a, d) = (a, b) := if_neg (by show ¬ a < b; omega)
structure LsOk (n : Nat) (ls : List (Nat × Nat × Int)) : Prop where
  nd : (ls.map norm).Nodup
  bd : ∀ l ∈ ls, (norm l).2 < (norm l).1 ∧ (norm l).1 < n
  dl : ∀ l ∈ ls, 0 ≤ l.2.2 ∧ l.2.2 ≤ 4
  few : ls.length ≤ 100
structure NetWf (N : NetD) : Prop where
  h0 : 2 ≤ N.ks.count true
  h1 : N.ks.count true ≤ 4
  s0 : 1 ≤ N.ks.count false
  s1 : N.ks.count false ≤ 3
  ls : LsOk N.ks.length N.ls
  p0 : 0 ≤ N.pr
  p1 : N.pr ≤ 2
  e0 : 0 ≤ N.er
  e1 : N.er ≤ 2
theorem len_count : ∀ ks : List Bool, ks.length = ks.count true + ks.count false
  | [] => rfl
  | b :: r => by
    have := len_count r
    rw [List.length_cons, List.count_cons, List.count_cons]
    cases b <;> simp <;> omega
theorem count_ins (ks : List Bool) (i : Nat) (b x : Bool) : (ks.take i ++ [b] ++ ks.drop i).count x = ks.count x + [b].count x := by
  have h : ks.count x = (ks.take i).count x + (ks.drop i).count x := by rw [← List.count_append, List.take_append_drop]
  rw [List.count_append, List.count_append, h]
  omega
theorem rep_flat {α : Type} (x : α) : ∀ n : Nat, (List.replicate n [x]).flatten = List.replicate n x
  | 0 => rfl
  | n + 1 => by rw [List.replicate_succ, List.flatten_cons, rep_flat x n]; rfl
/-- pairs of nodes as tuples -/
abbrev PairsAt (K : PySem.W.Frag) (H : Hp) (ts : List Addr) (ps : List (Nat × Nat)) : Prop := Paired (fun (t : Addr) (p : Nat × Nat) => SqT K H t [.int (p.1 : Int), .int (p.2 : Int)]) ts ps
theorem PairsAt.mono {K : PySem.W.Frag} {H H' : Hp} {ts : List Addr} {ps : List (Nat × Nat)} (h : PairsAt K H ts ps) (f : ∀ a ys, SqT K H a ys → SqT K H' a ys) : PairsAt K H' ts ps := Paired.imp h fun _ _ z => f _ _ z
theorem LinesAt.mono {K : PySem.W.Frag} {H H' : Hp} {ts : List Addr} {ps : List (Nat × Nat × Int)} (h : LinesAt K H ts ps) (f : ∀ a ys, SqT K H a ys → SqT K H' a ys) : LinesAt K H' ts ps := Paired.imp h fun _ _ z => f _ _ z
theorem PairsAt.snoc {K : PySem.W.Frag} {H : Hp} {ts : List Addr} {ps : List (Nat × Nat)} {t : Addr} {p : Nat × Nat} (h : PairsAt K H ts ps) (x : SqT K H t [.int (p.1 : Int), .int (p.2 : Int)]) : PairsAt K H (ts ++ [t]) (ps ++ [p]) := Paired.snoc (F := fun (t : Addr) (p : Nat × Nat) => SqT K H t [.int (p.1 : Int), .int (p.2 : Int)]) x h
theorem LinesAt.snoc {K : PySem.W.Frag} {H : Hp} {ts : List Addr} {ps : List (Nat × Nat × Int)} {t : Addr} {p : Nat × Nat × Int} (h : LinesAt K H ts ps) (x : SqT K H t (lineV p)) : LinesAt K H (ts ++ [t]) (ps ++ [p]) := Paired.snoc (F := fun (t : Addr) (l : Nat × Nat × Int) => SqT K H t (lineV l)) x h
structure PInv (ks : List Bool) (ps : List (Nat × Nat)) (a b : Nat) : Prop where
  nd : ps.Nodup
  ok : ∀ p ∈ ps, p.2 < p.1 ∧ p.1 < ks.length ∧ (p.1 < a ∨ (p.1 = a ∧ p.2 < b)) ∧ (ks.getD p.1 true = false ∨ ks.getD p.2 true = false)
  few : ps.length ≤ 7 * a + b
theorem nd_snoc' {α : Type} : ∀ {l : List α} {k : α}, l.Nodup → ¬ k ∈ l → (l ++ [k]).Nodup
  | [], k, _, _ => by simp
  | a :: r, k, h, hk => by
    obtain ⟨h1, h2⟩ := List.nodup_cons.mp h
    show (a :: (r ++ [k])).Nodup
    refine List.nodup_cons.mpr ⟨fun m => ?_, nd_snoc' h2 fun m => hk (List.mem_cons.mpr (Or.inr m))⟩
    rcases List.mem_append.mp m with q | q
    · exact h1 q
    · exact hk (List.mem_cons.mpr (Or.inl (List.mem_singleton.mp q).symm))
theorem PInv.nil {ks : List Bool} : PInv ks [] 0 0 := ⟨List.nodup_nil, fun p h => by (cases h), Nat.le_refl _⟩
theorem PInv.skip {ks : List Bool} {ps : List (Nat × Nat)} {a b : Nat} (h : PInv ks ps a b) : PInv ks ps a (b + 1) :=
  ⟨h.nd, fun p hp => let ⟨x, y, z, w⟩ := h.ok p hp; ⟨x, y, by omega, w⟩, by have := h.few; omega⟩
theorem PInv.next {ks : List Bool} {ps : List (Nat × Nat)} {a b : Nat} (h : PInv ks ps a b) (hb : b ≤ 7) : PInv ks ps (a + 1) 0 :=
  ⟨h.nd, fun p hp => let ⟨x, y, z, w⟩ := h.ok p hp; ⟨x, y, by omega, w⟩, by have := h.few; omega⟩
theorem PInv.snoc {ks : List Bool} {ps : List (Nat × Nat)} {a b : Nat} (h : PInv ks ps a b) (ha : a < ks.length) (hb : b < a) (hs : ks.getD a true = false ∨ ks.getD b true = false) : PInv ks (ps ++ [(a, b)]) a (b + 1) := by
  refine ⟨nd_snoc' h.nd fun m => ?_, fun p hp => ?_, by have := h.few; rw [List.length_append, List.length_singleton]; omega⟩
  · obtain ⟨_, _, z, _⟩ := h.ok _ m
    have z' : a < a ∨ (a = a ∧ b < b) := z
    omega
  · rcases List.mem_append.mp hp with q | q
    · obtain ⟨x, y, z, w⟩ := h.ok p q
      exact ⟨x, y, by omega, w⟩
    · rw [List.mem_singleton.mp q]
      exact ⟨hb, ha, .inr ⟨rfl, by show b < b + 1; omega⟩, hs⟩
/-- lines made from the first k pairs -/
structure LInv (ps : List (Nat × Nat)) (ls : List (Nat × Nat × Int)) (k : Nat) : Prop where
  nd : (ls.map norm).Nodup
  from_ : ∀ l ∈ ls, ∃ j, j < k ∧ ps[j]? = some (norm l)
  dl : ∀ l ∈ ls, 0 ≤ l.2.2 ∧ l.2.2 ≤ 4
  few : ls.length ≤ k
theorem LInv.nil {ps : List (Nat × Nat)} : LInv ps [] 0 := ⟨List.nodup_nil, fun p h => by (cases h), fun p h => by (cases h), Nat.le_refl _⟩
theorem LInv.skip {ps : List (Nat × Nat)} {ls : List (Nat × Nat × Int)} {k : Nat} (h : LInv ps ls k) : LInv ps ls (k + 1) :=
  ⟨h.nd, fun l hl => let ⟨j, x, y⟩ := h.from_ l hl; ⟨j, by omega, y⟩, h.dl, by have := h.few; omega⟩
theorem LInv.snoc {ps : List (Nat × Nat)} {ls : List (Nat × Nat × Int)} {k : Nat} {l : Nat × Nat × Int} (h : LInv ps ls k) (hp : ps.Nodup) (e : ps[k]? = some (norm l)) (d : 0 ≤ l.2.2 ∧ l.2.2 ≤ 4) : LInv ps (ls ++ [l]) (k + 1) := by
  refine ⟨?_, fun x hx => ?_, fun x hx => ?_, by have := h.few; rw [List.length_append, List.length_singleton]; omega⟩
  · rw [List.map_append]
    refine nd_snoc' h.nd fun m => ?_
    obtain ⟨x, hx, ex⟩ := List.mem_map.mp m
    obtain ⟨j, hj, ej⟩ := h.from_ x hx
    rw [ex] at ej
    have := nd_ix hp ej e
    omega
  · rcases List.mem_append.mp hx with q | q
    · obtain ⟨j, x1, y⟩ := h.from_ x q
      exact ⟨j, by omega, y⟩
    · rw [List.mem_singleton.mp q]
      exact ⟨k, by omega, e⟩
  · rcases List.mem_append.mp hx with q | q
    · exact h.dl x q
    · rw [List.mem_singleton.mp q]
      exact d
/-- .. and host pairs ahead of (a, b) -/
structure HInv (ks : List Bool) (ps : List (Nat × Nat)) (ls : List (Nat × Nat × Int)) (a b : Nat) : Prop where
  nd : (ls.map norm).Nodup
  from_ : ∀ l ∈ ls, norm l ∈ ps ∨ ((norm l).2 < (norm l).1 ∧ (norm l).1 < ks.length ∧ ((norm l).1 < a ∨ ((norm l).1 = a ∧ (norm l).2 < b)) ∧ ks.getD (norm l).1 true = true ∧ ks.getD (norm l).2 true = true)
  dl : ∀ l ∈ ls, 0 ≤ l.2.2 ∧ l.2.2 ≤ 4
  few : ls.length ≤ 100
theorem LInv.host {ks : List Bool} {ps : List (Nat × Nat)} {ls : List (Nat × Nat × Int)} {k : Nat} (h : LInv ps ls k) (hk : k ≤ 100) : HInv ks ps ls 0 0 :=
  ⟨h.nd, fun l hl => let ⟨j, _, y⟩ := h.from_ l hl; .inl (List.mem_of_getElem? y), h.dl, by have := h.few; omega⟩
theorem HInv.skip {ks : List Bool} {ps : List (Nat × Nat)} {ls : List (Nat × Nat × Int)} {a b : Nat} (h : HInv ks ps ls a b) : HInv ks ps ls a (b + 1) :=
  ⟨h.nd, fun l hl => (h.from_ l hl).imp id fun ⟨x, y, z, w⟩ => ⟨x, y, by omega, w⟩, h.dl, h.few⟩
theorem HInv.next {ks : List Bool} {ps : List (Nat × Nat)} {ls : List (Nat × Nat × Int)} {a b : Nat} (h : HInv ks ps ls a b) : HInv ks ps ls (a + 1) 0 :=
  ⟨h.nd, fun l hl => (h.from_ l hl).imp id fun ⟨x, y, z, w⟩ => ⟨x, y, by omega, w⟩, h.dl, h.few⟩
theorem HInv.snoc {ks : List Bool} {ps : List (Nat × Nat)} {ls : List (Nat × Nat × Int)} {a b c e : Nat} {d : Int} (h : HInv ks ps ls a b) (hp : PInv ks ps c e) (ha : a < ks.length) (hb : b < a) (h1 : ks.getD a true = true) (h2 : ks.getD b true = true) (hd : 0 ≤ d ∧ d ≤ 4) (hf : ls.length < 20) :
    HInv ks ps (ls ++ [(a, b, d)]) a (b + 1) := by
  have en : norm (a, b, d) = (a, b) := norm_gt hb
  refine ⟨?_, fun x hx => ?_, fun x hx => ?_, by rw [List.length_append, List.length_singleton]; omega⟩
  · rw [List.map_append]
    refine nd_snoc' h.nd fun m => ?_
    obtain ⟨x, hx, ex⟩ := List.mem_map.mp m
    rw [en] at ex
    rcases h.from_ x hx with q | ⟨_, _, z, _⟩
    · rw [ex] at q
      obtain ⟨_, _, _, w⟩ := hp.ok _ q
      have w' : ks.getD a true = false ∨ ks.getD b true = false := w
      rw [h1, h2] at w'
      rcases w' with w' | w' <;> cases w'
    · rw [ex] at z
      have z' : a < a ∨ (a = a ∧ b < b) := z
      omega
  · rcases List.mem_append.mp hx with q | q
    · exact (h.from_ x q).imp id fun ⟨x, y, z, w⟩ => ⟨x, y, by omega, w⟩
    · rw [List.mem_singleton.mp q, en]
      exact .inr ⟨hb, ha, .inr ⟨rfl, by show b < b + 1; omega⟩, h1, h2⟩
  · rcases List.mem_append.mp hx with q | q
    · exact h.dl x q
    · rw [List.mem_singleton.mp q]
      exact hd
theorem HInv.ok {ks : List Bool} {ps : List (Nat × Nat)} {ls : List (Nat × Nat × Int)} {a b c e : Nat} (h : HInv ks ps ls a b) (hp : PInv ks ps c e) : LsOk ks.length ls :=
  ⟨h.nd, fun l hl => by
    rcases h.from_ l hl with q | ⟨x, y, _⟩
    · obtain ⟨x, y, _⟩ := hp.ok _ q
      exact ⟨x, y⟩
    · exact ⟨x, y⟩, h.dl, h.few⟩
/-- rows as lists -/
abbrev RowsAt (H : Hp) (as : List Addr) (rs : List (List Nat)) : Prop := Paired (fun (a : Addr) (r : List Nat) => r ≠ [] ∧ H a = some (.lst (natsV r))) as rs
theorem RowsAt.mono {H H' : Hp} {as : List Addr} {rs : List (List Nat)} (h : RowsAt H as rs) (f : ∀ a r, r ≠ [] → H a = some (.lst (natsV r)) → H' a = some (.lst (natsV r))) : RowsAt H' as rs := Paired.imp h fun _ _ z => ⟨z.1, f _ _ z.1 z.2⟩
theorem RowsAt.snoc {H : Hp} {as : List Addr} {rs : List (List Nat)} {a : Addr} {r : List Nat} (h : RowsAt H as rs) (n : r ≠ []) (e : H a = some (.lst (natsV r))) : RowsAt H (as ++ [a]) (rs ++ [r]) := Paired.snoc (F := fun (a : Addr) (r : List Nat) => r ≠ [] ∧ H a = some (.lst (natsV r))) ⟨n, e⟩ h
theorem RowsAt.same {H H' : Hp} {as : List Addr} {rs : List (List Nat)} (h : RowsAt H as rs) (e : Same H H') : RowsAt H' as rs := h.mono fun _ _ _ z => e _ _ z
/-- a row's list is no list of objects -/
theorem row_ne {H : Hp} {a p : Addr} {r : List Nat} {fs : List Addr} (n : r ≠ []) (h : H a = some (.lst (natsV r))) (hp : H p = some (.lst (fs.map V.ref))) : a ≠ p := by
  refine ne_of h hp fun e => ?_
  injection e with e
  cases r with
  | nil => exact n rfl
  | cons x r =>
    cases fs with
    | nil => cases e
    | cons y t =>
      unfold natsV at e
      rw [List.map_cons, List.map_cons] at e
      injection e with e1 _
      cases e1
theorem RowsAt.but {H H' : Hp} {as fs : List Addr} {rs : List (List Nat)} {p : Addr} (h : RowsAt H as rs) (hp : H p = some (.lst (fs.map V.ref))) (e : But p H H') : RowsAt H' as rs := h.mono fun _ _ n z => e _ _ z (row_ne n z hp)
/-- the class's facts -/
structure NetC (K : PySem.W.Frag) (C : Addr) : Prop where
  cl : Cls K C
  n1 : NoAttr K C "kinds"
  n2 : NoAttr K C "lines"
  n3 : NoAttr K C "processing"
  n4 : NoAttr K C "error"
  n5 : NoAttr K C "_delays"
end My
/-! list(zip(xs, ys)) of two lists. No row. -/
namespace Zl
open PySem
/-- the zip at n + 4, its two iterators at n and n + 1, its tuples at n + 2, n + 3; a list grows at n + 5 -/
structure ZSt (n u v : Nat) (xs ys : Array Value) (h : Heap) (i : Nat) : Prop where
  pr : IsPair h (n + 2) (.ref n) (.ref (n + 1))
  a : h.IsListIter n u i
  b : h.IsListIter (n + 1) v i
  lx : h.IsList u xs
  ly : h.IsList v ys
  big : n + 5 < h.objs.size
  st : (IsZip h (n + 4) (n + 2) (n + 3) .none ∧ ∃ p q, IsPair h (n + 3) p q) ∨ ∃ (T : Addr) (f : Bool) (o : Obj), IsZipHeld h (n + 4) (n + 2) (n + 3) T f ∧ n + 5 < T ∧ h.get? T = some o
theorem ZSt.keep {n u v : Nat} {xs ys : Array Value} {h g : Heap} {i : Nat} (Z : ZSt n u v xs ys h i) (hu : u < n) (hv : v < n) (k : ∀ c o, c ≠ n + 5 → h.get? c = some o → g.get? c = some o) (sz : n + 5 < g.objs.size) : ZSt n u v xs ys g i := by
  have n1 : ∀ m : Nat, m < n + 5 → m ≠ n + 5 := fun m e => Nat.ne_of_lt e
  refine ⟨k _ _ (n1 _ (by omega)) Z.pr, Z.a.at fun o e => k _ o (n1 _ (by omega)) e, Z.b.at fun o e => k _ o (n1 _ (by omega)) e, Z.lx.at fun o e => k _ o (n1 _ (by omega)) e, Z.ly.at fun o e => k _ o (n1 _ (by omega)) e, sz, ?_⟩
  rcases Z.st with ⟨e1, p, q, e2⟩ | ⟨T, f, o, e1, e2, e3⟩
  · exact .inl ⟨k _ _ (n1 _ (by omega)) e1, p, q, k _ _ (n1 _ (by omega)) e2⟩
  · exact .inr ⟨T, f, o, k _ _ (n1 _ (by omega)) e1, e2, k _ _ (Nat.ne_of_gt e2) e3⟩
section
variable {prog : Program} {w : World} {A : Around} {E : Value → Shared → Prop} {s : Shared} {n u v : Nat} {xs ys : Array Value} {i : Nat}
theorem zst_item {x y : Value} {Q : Option Value → Shared → Prop} (hu : u < n) (hv : v < n) (Z : ZSt n u v xs ys s.heap i) (hx : xs[i]? = some x) (hy : ys[i]? = some y)
    (hQ : ∀ g, ZSt n u v xs ys g (i + 1) → IsPair g s.heap.objs.size x y → g.objs.size = s.heap.objs.size + 1 → (∀ c o, (c < n ∨ n + 5 ≤ c) → s.heap.get? c = some o → g.get? c = some o) → Q (some (.ref s.heap.objs.size)) { s with heap := g }) :
    wpAny (model prog w) A (pyNext (.ref (n + 4))) Q E s := by
  have D := PySem.W.ktu_apart n u v hu hv
  have big := Z.big
  have nn : ∀ {a b : Nat}, a < b ∨ b < a → a ≠ b := fun h e => by omega
  rcases Z.st with ⟨e1, p, q, e2⟩ | ⟨T, f, o, e1, e2, e3⟩
  · refine wpAny_pyNext_zip_item D e1 Z.pr e2 Z.a Z.b Z.lx Z.ly hx hy fun g g1 g2 g3 g4 g5 g6 k => ?_
    have k' : ∀ c o, (c < n ∨ n + 5 ≤ c) → s.heap.get? c = some o → g.get? c = some o := fun c o hc e => k c o (nn (by omega)) (nn (by omega)) (nn (by omega)) (nn (by omega)) e
    refine hQ g ⟨k _ _ (nn (by omega)) (nn (by omega)) (nn (by omega)) (nn (by omega)) Z.pr, g3, g4, Z.lx.at fun o e => k' _ o (.inl hu) e, Z.ly.at fun o e => k' _ o (.inl hv) e, by omega, .inr ⟨s.heap.objs.size, false, _, g1, big, g5⟩⟩ g5 g6 k'
  · refine wpAny_pyNext_zip_item_held D e1 e3 Z.pr Z.a Z.b Z.lx Z.ly hx hy fun g g1 g3 g4 g5 g6 k => ?_
    have k' : ∀ c o, (c < n ∨ n + 5 ≤ c) → s.heap.get? c = some o → g.get? c = some o := fun c o hc e => k c o (nn (by omega)) (nn (by omega)) (nn (by omega)) e
    refine hQ g ⟨k _ _ (nn (by omega)) (nn (by omega)) (nn (by omega)) Z.pr, g3, g4, Z.lx.at fun o e => k' _ o (.inl hu) e, Z.ly.at fun o e => k' _ o (.inl hv) e, by omega, .inr ⟨T, true, o, g1, e2, k' _ _ (.inr (by omega)) e3⟩⟩ g5 g6 k'
theorem zst_end {Q : Option Value → Shared → Prop} (hh : A.handled = none) (hu : u < n) (hv : v < n) (Z : ZSt n u v xs ys s.heap i) (hx : xs[i]? = none ∨ ys[i]? = none)
    (hQ : ∀ g, (∀ c o, (c < n ∨ n + 5 ≤ c) → s.heap.get? c = some o → g.get? c = some o) → Q none { s with heap := g }) : wpAny (model prog w) A (pyNext (.ref (n + 4))) Q E s := by
  have D := PySem.W.ktu_apart n u v hu hv
  have nn : ∀ {a b : Nat}, a < b ∨ b < a → a ≠ b := fun h e => by omega
  rcases Z.st with ⟨e1, p, q, e2⟩ | ⟨T, f, o, e1, e2, e3⟩
  · exact wpAny_pyNext_zip_end hh D e1 Z.pr e2 Z.a Z.b Z.lx Z.ly hx fun g k => hQ g fun c o hc e => k c o (nn (by omega)) (nn (by omega)) (nn (by omega)) (nn (by omega)) e
  · exact wpAny_pyNext_zip_end_held hh D e1 e3 Z.pr Z.a Z.b Z.lx Z.ly hx fun g k => hQ g fun c o hc e => k c o (nn (by omega)) (nn (by omega)) (nn (by omega)) e
end
/-- the tuples given out so far -/
structure Got (n : Nat) (xs ys : Array Value) (h : Heap) (ts : List Addr) : Prop where
  up : ts.Pairwise (· < ·)
  hi : ∀ t ∈ ts, n + 5 < t
  at_ : ∀ (j : Nat) (t : Addr), ts[j]? = some t → ∃ x y, xs[j]? = some x ∧ ys[j]? = some y ∧ IsPair h t x y
theorem Got.in_ {n : Nat} {xs ys : Array Value} {h : Heap} {ts : List Addr} (G : Got n xs ys h ts) {t : Addr} (ht : t ∈ ts) : t < h.objs.size := by
  obtain ⟨j, hj⟩ := List.mem_iff_getElem?.mp ht
  obtain ⟨_, _, _, _, e⟩ := G.at_ j t hj
  exact Heap.lt_size e
abbrev LstObj (acc : Array Value) (c : Nat) : Obj := { cls := .type "list", dict := none, data := .seq acc c, slots := #[] }
section
variable {prog : Program} {w : World} {A : Around} {s : Shared} {R : Result → Shared → Prop} {n u v : Nat} {xs ys : Array Value}
theorem loop {m : Nat} (hm : m = min xs.size ys.size) (hh : A.handled = none) (hu : u < n) (hv : v < n) (hmm : m ≤ sizeLine) (res : Value) {h₁ : Heap}
    (hR : ∀ g tk acc c ts, (∀ b o, b < n → h₁.get? b = some o → g.get? b = some o) → g.get? (n + 5) = some (LstObj acc c) → ts.length = m → Got n xs ys g ts → acc.toList = ts.map Value.ref → R (.ok (.ret res)) { s with heap := g, toks := tk }) :
    ∀ (k i : Nat) (h : Heap) (tk c : Nat) (acc : Array Value) (ts : List Addr), m - i = k → i ≤ m → ZSt n u v xs ys h i → (∀ b o, b < n → h₁.get? b = some o → h.get? b = some o) → h.get? (n + 5) = some (LstObj acc c) → acc.toList = ts.map Value.ref → ts.length = i → Got n xs ys h ts →
      codeAny (model prog w) A (.builtin "list.extend.loop" ⟨[.ref (n + 5), .ref (n + 4), res], []⟩) R { s with heap := h, toks := tk } := by
  intro k
  induction k with
  | zero =>
    intro i h tk c acc ts hk hi Z keep hS ha hl G
    refine codeAny_builtin PySem.F.entry_extend_loop ?_
    rw [Around.under_plainId PySem.F.plain_extend_loop _]
    refine wpAny_bind (zst_end (s := { s with heap := h, toks := tk }) (A := A.in1) hh hu hv Z ?_ fun g kk => ?_)
    · rcases Nat.le_total xs.size ys.size with z | z
      · exact .inl (Array.getElem?_eq_none (by omega))
      · exact .inr (Array.getElem?_eq_none (by omega))
    · refine wpAny_pure (hR g tk acc c ts (fun b o hb e => kk b o (.inl hb) (keep b o hb e)) (kk _ _ (.inr (Nat.le_refl _)) hS) (by omega) ⟨G.up, G.hi, fun j t hj => ?_⟩ ha)
      obtain ⟨x, y, e1, e2, e3⟩ := G.at_ j t hj
      exact ⟨x, y, e1, e2, kk _ _ (.inr (Nat.le_of_lt (G.hi t (List.mem_of_getElem? hj)))) e3⟩
  | succ k ih =>
    intro i h tk c acc ts hk hi Z keep hS ha hl G
    have h1 : i < xs.size := by omega
    have h2 : i < ys.size := by omega
    have sz : acc.size = i := by rw [← Array.length_toList, ha, List.length_map, hl]
    have big := Z.big
    refine codeAny_builtin PySem.F.entry_extend_loop ?_
    rw [Around.under_plainId PySem.F.plain_extend_loop _]
    refine wpAny_bind (zst_item (s := { s with heap := h, toks := tk }) hu hv Z (Array.getElem?_eq_getElem h1) (Array.getElem?_eq_getElem h2) fun g Z' hp hz kk => ?_)
    dsimp only at hp hz kk ⊢
    have hS' := kk _ _ (.inr (Nat.le_refl _)) hS
    have up : ∀ b o, b ≠ n + 5 → g.get? b = some o → (g.update (n + 5) (Obj.mapSeq (·.push (Value.ref h.objs.size)))).get? b = some o := fun b o hb e => (Heap.get?_update_other _ _ (Ne.symm hb)).trans e
    have at5 : (g.update (n + 5) (Obj.mapSeq (·.push (Value.ref h.objs.size)))).get? (n + 5) = some (LstObj (acc.push (Value.ref h.objs.size)) _) := Heap.get?_update_self _ hS' rfl
    refine wpAny_bind (wpAny_updateSeq hS' rfl (wpAny_pure ⟨plainId_quiet PySem.F.plain_extend_loop _, ih (i + 1) _ tk _ (acc.push (Value.ref h.objs.size)) (ts ++ [h.objs.size]) (by omega) (by omega)
      (Z'.keep hu hv up (Heap.lt_size at5)) (fun b o hb e => up b o (by omega) (kk b o (.inl hb) (keep b o hb e))) at5 (by rw [Array.toList_push, ha, List.map_append]; rfl) (by rw [List.length_append, hl]; rfl) ⟨?_, ?_, ?_⟩⟩) (by rw [sz]; omega) (by show (acc.push _).size ≤ sizeLine + 1; rw [Array.size_push, sz]; omega))
    · refine List.pairwise_append.mpr ⟨G.up, List.pairwise_singleton _ _, fun t ht b hb => ?_⟩
      rw [List.mem_singleton.mp hb]
      exact G.in_ ht
    · intro t ht
      rcases List.mem_append.mp ht with z | z
      · exact G.hi t z
      · rw [List.mem_singleton.mp z]; exact big
    · intro j t hj
      by_cases hjl : j < ts.length
      · rw [List.getElem?_append_left hjl] at hj
        obtain ⟨x, y, e1, e2, e3⟩ := G.at_ j t hj
        have ht := G.hi t (List.mem_of_getElem? hj)
        exact ⟨x, y, e1, e2, up _ _ (Nat.ne_of_gt ht) (kk _ _ (.inr (Nat.le_of_lt ht)) e3)⟩
      · have hj2 : j = ts.length := by
          have := (List.getElem?_eq_some_iff.mp hj).1
          rw [List.length_append, List.length_singleton] at this
          omega
        subst hj2
        have ht : h.objs.size = t := by simpa using hj
        subst ht
        exact ⟨_, _, by rw [hl]; exact Array.getElem?_eq_getElem h1, by rw [hl]; exact Array.getElem?_eq_getElem h2, up _ _ (Nat.ne_of_gt big) hp⟩
theorem no_len : typeLookup (.type "zip") "__len__" = pure none := by rw [typeLookup_type, builtinLookup_eq_fast]; kernel_rfl
theorem no_hint : typeLookup (.type "zip") "__length_hint__" = pure none := by rw [typeLookup_type, builtinLookup_eq_fast]; kernel_rfl
end
section
variable {prog : Program} {w : World} {A : Around} {E : Value → Shared → Prop} {s : Shared} {u v : Nat} {xs ys : Array Value}
theorem hint {z : Addr} (hT : s.TypeIs (.ref z) "zip") {Q : Bool → Shared → Prop} (h : Q true s) : wpAny (model prog w) A (Builtin.List.listLengthHint (.ref z)) Q E s := by
  unfold Builtin.List.listLengthHint
  refine wpAny_bind (wpAny_specialOf hT no_len ?_)
  show wpAny _ _ (specialOf (Value.ref z) (Str.ofString "__length_hint__") >>= _) _ _ _
  exact wpAny_bind (wpAny_specialOf hT no_hint (wpAny_pure h))
/-- list(z), z the zip that was just made of the lists at u and v -/
theorem call_list {n : Nat} {Q : Value → Shared → Prop} (hh : A.handled = none) (hsz : s.heap.objs.size = n + 5) (hu : u < n) (hv : v < n) (hz : IsZip s.heap (n + 4) (n + 2) (n + 3) .none) (hp : IsPair s.heap (n + 2) (.ref n) (.ref (n + 1))) (hq : ∃ p q, IsPair s.heap (n + 3) p q)
    (ha : s.heap.IsListIter n u 0) (hb : s.heap.IsListIter (n + 1) v 0) (hx : s.heap.IsList u xs) (hy : s.heap.IsList v ys) (hmm : min xs.size ys.size ≤ sizeLine)
    (hQ : ∀ g tk acc c ts, (∀ b o, b < n → s.heap.get? b = some o → g.get? b = some o) → g.get? (n + 5) = some (LstObj acc c) → ts.length = min xs.size ys.size → Got n xs ys g ts → acc.toList = ts.map Value.ref → Q (.ref (n + 5)) { s with heap := g, toks := tk }) :
    wpAny (model prog w) A (call (.type "list") [.ref (n + 4)]) Q E s := by
  refine callType_codes (Q₁ := fun obj s₁ => obj = .ref (n + 5) ∧ s₁ = { s with heap := s.heap.push (LstObj #[] 0) }) PySem.F.called_list (PySem.F.typeCall_list_1 _) PySem.F.entry_list_init (code_list_new _ ⟨by rw [hsz], rfl⟩) fun obj s₁ e => ?_
  obtain ⟨rfl, rfl⟩ := e
  have hS : (s.heap.push (LstObj #[] 0)).get? (n + 5) = some (LstObj #[] 0) := by rw [← hsz]; exact Heap.get?_push_size _ rfl
  have old : ∀ b o, s.heap.get? b = some o → (s.heap.push (LstObj #[] 0)).get? b = some o := fun b o e => Heap.get?_push_of_some _ e
  refine ⟨⟨_, hS, rfl⟩, PySem.F.args_list_init_2 _ _, ?_⟩
  show wpAny _ _ (Builtin.List.listItems (.ref (n + 5)) >>= _) _ _ _
  refine wpAny_bind ?_
  unfold Builtin.List.listItems
  refine wpAny_bind (wpAny_seqItems hS rfl (wpAny_pure ?_))
  show wpAny _ _ (updateSeq (n + 5) (fun _ => #[]) >>= fun _ => letGo (#[] : Array Value).toList.reverse >>= fun _ => Builtin.List.listExtendWith (.ref (n + 5)) (.ref (n + 4)) .none) _ _ _
  refine wpAny_bind (wpAny_updateSeq hS rfl ?_)
  have hS2 := Heap.get?_update_self (Obj.mapSeq (fun _ => (#[] : Array Value))) hS rfl
  have old2 : ∀ b o, b ≠ n + 5 → s.heap.get? b = some o → ((s.heap.push (LstObj #[] 0)).update (n + 5) (Obj.mapSeq (fun _ => (#[] : Array Value)))).get? b = some o := fun b o hb e => (Heap.get?_update_other _ _ (Ne.symm hb)).trans (old b o e)
  generalize ((s.heap.push (LstObj #[] 0)).update (n + 5) (Obj.mapSeq (fun _ => (#[] : Array Value)))) = h2 at hS2 old2 ⊢
  refine wpAny_bind (wpAny_letGo ?_)
  unfold Builtin.List.listExtendWith
  have ne4 : n + 4 ≠ n + 5 := by omega
  have hz2 : IsZip h2 (n + 4) (n + 2) (n + 3) .none := old2 _ _ ne4 hz
  refine wpAny_bind (wpAny_typeOf (T := "zip") ⟨_, hz2, rfl⟩ ?_)
  have q1 : Builtin.List.listSameRef (.ref (n + 5)) (.ref (n + 4)) = false := by simp [Builtin.List.listSameRef]
  have q2 : (Value.type "zip" == Value.type "list") = false := by decide
  have q3 : (Value.type "zip" == Value.type "tuple") = false := by decide
  simp only [q1, q2, q3, Bool.or_false, Bool.false_eq_true, if_false]
  refine wpAny_bind (wpAny_pyIter_zip hz2 (wpAny_bind (wpAny_holding (hint ⟨_, hz2, rfl⟩ ?_))))
  simp only [Bool.true_or, if_true]
  refine wpAny_bind (wpAny_rule ?_)
  refine wpAny_bind ?_
  show wpAny _ _ (updateSeq (n + 5) (·.push .none) >>= fun _ => updateSeq (n + 5) (·.pop)) _ _ _
  refine wpAny_bind (wpAny_updateSeq hS2 rfl ?_)
  have hS3 := Heap.get?_update_self (Obj.mapSeq (·.push Value.none)) hS2 rfl
  refine wpAny_updateSeq (hz := by seq_fits) hS3 rfl ?_
  have hS4 := Heap.get?_update_self (Obj.mapSeq (·.pop)) hS3 rfl
  have old4 : ∀ b o, b ≠ n + 5 → s.heap.get? b = some o → ((h2.update (n + 5) (Obj.mapSeq (·.push Value.none))).update (n + 5) (Obj.mapSeq (·.pop))).get? b = some o := fun b o hb e => (Heap.get?_update_other _ _ (Ne.symm hb)).trans ((Heap.get?_update_other _ _ (Ne.symm hb)).trans (old2 b o hb e))
  generalize ((h2.update (n + 5) (Obj.mapSeq (·.push Value.none))).update (n + 5) (Obj.mapSeq (·.pop))) = h4 at hS4 old4 ⊢
  have nn : ∀ b, b < n + 5 → b ≠ n + 5 := fun b e => Nat.ne_of_lt e
  obtain ⟨p, q, hq⟩ := hq
  refine wpAny_pure ⟨plainId_quiet PySem.F.plain_extend_loop _, loop (A := A.in1) (s := s) (R := wants (fun r s₂ => r = .none ∧ Q (.ref (n + 5)) s₂) E) (h₁ := s.heap) (m := min xs.size ys.size) rfl hh hu hv hmm .none (fun g tk acc c ts k e1 e2 e3 e4 => ⟨rfl, hQ g tk acc c ts k e1 e2 e3 e4⟩) (min xs.size ys.size) 0 h4 s.toks _ #[] [] (Nat.sub_zero _) (Nat.zero_le _)
    ⟨old4 _ _ (nn _ (by omega)) hp, ha.at fun o e => old4 _ o (nn _ (by omega)) e, hb.at fun o e => old4 _ o (nn _ (by omega)) e, hx.at fun o e => old4 _ o (nn _ (by omega)) e, hy.at fun o e => old4 _ o (nn _ (by omega)) e, Heap.lt_size hS4, .inl ⟨old4 _ _ ne4 hz, p, q, old4 _ _ (nn _ (by omega)) hq⟩⟩
    (fun b o hb e => old4 b o (nn _ (by omega)) e) hS4 rfl rfl ⟨List.Pairwise.nil, (fun t ht => by cases ht), fun j t hj => by simp at hj⟩⟩
end
end Zl
/-! list(zip(xs, ys)) as a rule of the hand layer. No row. -/
namespace Zl
open PySem PySem.Spec PyProof.Rows L2
def lay : Hp → List Addr → List (V × V) → Hp
  | H, t :: ts, z :: zs => lay (upd H t (.tup [z.1, z.2])) ts zs
  | H, _, _ => H
theorem lay_out {b : Addr} : ∀ (ts : List Addr) (zs : List (V × V)) (H : Hp), b ∉ ts → lay H ts zs b = H b
  | [], _, _, _ => rfl
  | _ :: _, [], _, _ => rfl
  | t :: ts, z :: zs, H, h => by
    rw [List.mem_cons, not_or] at h
    show lay (upd H t _) ts zs b = H b
    rw [lay_out ts zs _ h.2, upd_ne h.1]
theorem lay_in : ∀ (ts : List Addr) (zs : List (V × V)) (H : Hp), ts.length = zs.length → ts.Nodup → Paired (fun (t : Addr) (z : V × V) => lay H ts zs t = some (.tup [z.1, z.2])) ts zs
  | [], [], _, _, _ => .nil
  | [], _ :: _, _, h, _ => by cases h
  | _ :: _, [], _, h, _ => by cases h
  | t :: ts, z :: zs, H, h, hn => by
    rw [List.nodup_cons] at hn
    refine .cons ?_ (lay_in ts zs (upd H t (.tup [z.1, z.2])) (Nat.succ.inj h) hn.2)
    show lay (upd H t (.tup [z.1, z.2])) ts zs t = _
    rw [lay_out ts zs _ hn.1, upd_same]
theorem refs_vals : ∀ ts : List Addr, Vals (ts.map V.ref) (ts.map Value.ref)
  | [] => .nil
  | _ :: r => .cons rfl (refs_vals r)
theorem pair_mem {F : Addr → V × V → Prop} : ∀ {ts : List Addr} {zs : List (V × V)}, Paired F ts zs → ∀ {t : Addr}, t ∈ ts → ∃ (j : Nat) (z : V × V), ts[j]? = some t ∧ zs[j]? = some z ∧ F t z
  | _, _, .cons h r, t, ht => by
    rcases List.mem_cons.mp ht with e | ht
    · rw [e]; exact ⟨0, _, rfl, rfl, h⟩
    · obtain ⟨j, z, e1, e2, e3⟩ := pair_mem r ht
      exact ⟨j + 1, z, e1, e2, e3⟩
def tListZip (K : PySem.W.Frag) (ta : TA) : TE := fun σ H Q => ta σ H fun vs H1 => ∃ (a b : Addr) (xs ys : List V), vs = [.ref a, .ref b] ∧ SqL K H1 a xs ∧ SqL K H1 b ys ∧
  ∀ (H' : Hp) (p : Addr) (ts : List Addr), Same H1 H' → H1 p = none → H' p = some (.lst (ts.map V.ref)) → Paired (fun (t : Addr) (z : V × V) => H' t = some (.tup [z.1, z.2])) ts (xs.zip ys) → Q (.ref p) H'
section
variable {X : Cx}
theorem laid {pins : List (Addr × Obj)} {σ : L2.St} {H : Hp} {s : Shared} {g : Heap} {tk : Nat} {xs ys : List V} {us vs : List Value} {acc : Array Value} {c : Nat} {ts : List Addr} (I : Inv X pins σ H s) (hz : xs.length ≤ sizeLine) (rx : Vals xs us) (ry : Vals ys vs)
    (k : ∀ b o, b < s.heap.objs.size → s.heap.get? b = some o → g.get? b = some o) (hS : g.get? (s.heap.objs.size + 5) = some (LstObj acc c)) (hl : ts.length = min us.toArray.size vs.toArray.size) (G : Got s.heap.objs.size us.toArray vs.toArray g ts) (ha : acc.toList = ts.map Value.ref) :
    ∃ H' : Hp, Same H H' ∧ H (s.heap.objs.size + 5) = none ∧ H' (s.heap.objs.size + 5) = some (.lst (ts.map V.ref)) ∧ Paired (fun (t : Addr) (z : V × V) => H' t = some (.tup [z.1, z.2])) ts (xs.zip ys) ∧ Inv X pins σ H' { s with heap := g, toks := tk } := by
  have lx : xs.length = us.length := rx.length
  have ly : ys.length = vs.length := ry.length
  have lz : ts.length = (xs.zip ys).length := by rw [List.length_zip, lx, ly, hl, List.size_toArray, List.size_toArray]
  have nd : ts.Nodup := G.up.imp fun h => Nat.ne_of_lt h
  have pS : s.heap.objs.size + 5 ∉ ts := fun m => Nat.lt_irrefl _ (G.hi _ m)
  have new : ∀ {b : Addr}, s.heap.objs.size ≤ b → H b = none := fun h => I.hok.fresh h
  have gt : ∀ t ∈ ts, s.heap.objs.size ≤ t := fun t m => by have := G.hi t m; omega
  have old : ∀ b o, s.heap.get? b = some o → b ∉ ts ∧ b ≠ s.heap.objs.size + 5 ∧ g.get? b = some o := fun b o e => by
    have lt : b < s.heap.objs.size := Heap.lt_size e
    exact ⟨fun m => absurd (gt b m) (Nat.not_le.mpr lt), Nat.ne_of_lt (Nat.lt_of_lt_of_le lt (Nat.le_add_right _ _)), k b o lt e⟩
  have inn := lay_in ts (xs.zip ys) (upd H (s.heap.objs.size + 5) (.lst (ts.map V.ref))) lz nd
  have out : ∀ b, b ∉ ts → b ≠ s.heap.objs.size + 5 → lay (upd H (s.heap.objs.size + 5) (.lst (ts.map V.ref))) ts (xs.zip ys) b = H b := fun b h1 h2 => by rw [lay_out ts _ _ h1, upd_ne h2]
  have sm : Same H (lay (upd H (s.heap.objs.size + 5) (.lst (ts.map V.ref))) ts (xs.zip ys)) := fun b o e => by
    rw [out b (fun m => by rw [new (gt b m)] at e; cases e) fun z => by rw [z, new (Nat.le_add_right _ _)] at e; cases e]
    exact e
  have eS : lay (upd H (s.heap.objs.size + 5) (.lst (ts.map V.ref))) ts (xs.zip ys) (s.heap.objs.size + 5) = some (.lst (ts.map V.ref)) := by rw [lay_out ts _ _ pS, upd_same]
  generalize lay (upd H (s.heap.objs.size + 5) (.lst (ts.map V.ref))) ts (xs.zip ys) = H' at inn out sm eS
  have kg : ∀ b o, s.heap.get? b = some o → g.get? b = some o := fun b o e => (old b o e).2.2
  have un : Un (frs X.stack) [] H H' s.heap g :=
    { keep := fun b o q _ _ _ => kg b o q, slot := fun b o q _ _ _ => ⟨o.slots, kg b o q⟩, free := fun b o q h _ => by rw [out b (old b o q).1 (old b o q).2.1]; exact h,
      there := fun b o q _ => ⟨o, kg b o q⟩, tups := fun b _ q => sm b _ q, frzs := fun b _ _ q => sm b _ q, tbls := fun b ps q => ⟨#[], by rw [sm b _ q, Array.append_empty]⟩ }
  have hok : HOk X.prog X.w H' g := fun b u q => by
    by_cases hb : b ∈ ts
    · obtain ⟨j, z, e1, e2, e3⟩ := pair_mem inn hb
      rw [e3] at q
      cases q
      obtain ⟨x, y, f1, f2, f3⟩ := G.at_ j b e1
      obtain ⟨w1, w2⟩ := List.getElem?_zip_eq_some.mp e2
      obtain ⟨ux, g1, g2⟩ := rx.get w1
      obtain ⟨uy, g3, g4⟩ := ry.get w2
      have g1' : us.toArray[j]? = some ux := by simpa using g1
      have g3' : vs.toArray[j]? = some uy := by simpa using g3
      rw [f1] at g1'
      rw [f2] at g3'
      cases g1'
      cases g3'
      exact ⟨by show 2 ≤ sizeLine; decide, [x, y], .cons g2 (.cons g4 .nil), ⟨_, f3, rfl, _, rfl⟩⟩
    · by_cases h5 : b = s.heap.objs.size + 5
      · subst h5
        rw [eS] at q
        cases q
        refine ⟨by rw [List.length_map, lz, List.length_zip]; omega, acc.toList, c, by rw [ha]; exact refs_vals ts, ?_⟩
        rw [Array.toArray_toList]
        exact hS
      · rw [out b hb h5] at q
        exact (I.hok b u q).stay (fun d v _ y => kg d v y) (fun d y => sm d _ y) fun d _ y => sm d _ y
  exact ⟨H', sm, new (Nat.le_add_right _ _), eS, inn, I.call' (ch := []) rfl un hok I.bare fun b z => by cases z⟩
theorem pe_listZip {e1 e2 : Expr} {ta : TA} {p q cpos pos : Pos} (hc : X.calm = true) (ha : PA X [e1, e2] ta) (hg : Gl X "list") (hm : X.mg "list" = none) (hgz : Gl X "zip") (hmz : X.mg "zip" = none)
    (h1 : starEach [.Call (.Name "zip" q) [e1, e2] [] cpos] X.env = (false, eval (.Call (.Name "zip" q) [e1, e2] [] cpos) X.env) :: starEach [] X.env := by rfl)
    (h2 : starEach [e1, e2] X.env = (false, eval e1 X.env) :: starEach [e2] X.env := by rfl) (h3 : (backTo cpos (starEach [e2] X.env)).any (·.1) = false := by rfl) :
    PE X (.Call (.Name "list" p) [.Call (.Name "zip" q) [e1, e2] [] cpos] [] pos) (tListZip X.K ta) := by
  refine ⟨fun pins s σ H Q I h => ?_⟩
  refine wpAny_Call_Name_kw (ld_blt I hg hm PyProof.Rows.boot_list ?_)
  refine PyProof.Rows.callWith_type1 ?_ h1 rfl
  rw [h1]
  refine Calls.spliced_cons ?_
  refine Call_ (ld_blt I hgz hmz PyProof.Rows.boot_zip (PyProof.Rows.callWith_type1 (thn (ha.run cpos pins s σ H _ I h) fun us s1 ⟨vs, H1, I1, r1, z⟩ => ?_) h2 h3))
  obtain ⟨a, b, xs, ys, rfl, hx, hy, z⟩ := z
  cases r1 with
  | cons r rr =>
    cases rr with
    | cons r' rr =>
      cases rr
      cases r
      cases r'
      obtain ⟨its, rx, px, lx⟩ := I1.list hx
      obtain ⟨jts, ry, py, ly⟩ := I1.list hy
      refine call_zip_2 px.isList py.isList fun g hz hTI hTO i1 i2 hsz hk => ?_
      refine Calls.spliced_nil ?_
      have lim : min its.toArray.size jts.toArray.size ≤ sizeLine := by
        have e : its.length = xs.length := rx.length.symm
        rw [List.size_toArray, e]
        exact Nat.le_trans (Nat.min_le_left _ _) lx
      refine call_list (n := s1.heap.objs.size) (I1.ok.hd hc) hsz px.lt py.lt hz hTI ⟨_, _, hTO⟩ i1 i2 (px.isList.at fun o e => hk _ o e) (py.isList.at fun o e => hk _ o e) lim fun g' tk acc c ts k e1 e2 G e4 => ?_
      obtain ⟨H', q1, q2, q3, q4, J⟩ := laid (tk := tk) I1 lx rx ry (fun b o lt e => k b o lt (hk b o e)) e1 e2 G e4
      exact ⟨.ref _, H', J, rfl, z H' _ ts q1 q2 q3 q4⟩
end
end Zl
/-! == of two dicts whose keys are tuples and whose values are ints. No row. -/
namespace Dq
open PySem PySem.Spec PyProof.Rows L2
section
variable {prog : Program} {w : World} {K : Type} [DecidableEq K] {knd : HeapKind prog w K} {A : Around} {E : Value → Shared → Prop} {s : Shared}
theorem pairs_same {nm : String} {a b : Addr} {xa xb : List (K × Addr × Value)} {g : K → Bool} {Q : Bool → Shared → Prop} (hu : knd.room A) (sa : (a == sysModules) = false) (sb : (b == sysModules) = false)
    (da : s.heap.DictOfH knd a xa) (db : s.heap.DictOfH knd b xb) (g0 : ∀ x ∈ xa, atKey xb x.1 = none → g x.1 = false) (g1 : ∀ x ∈ xa, ∀ p, atKey xb x.1 = some p → SeqAt.EqAt A s x.2.2 p.2 (g x.1))
    (h : Q (xa.length == xb.length && xa.all fun x => g x.1) s) : wpAny (model prog w) A (Builtin.Dict.samePairs nm a b) Q E s := by
  obtain ⟨oa, ea, pa, ha, _, ta, la, ia, na⟩ := da
  obtain ⟨ob, eb, pb, hb, _, tb, lb, ib, nb⟩ := db
  have za : ea.size = xa.length := size_of_entries la
  have zb : eb.size = xb.length := size_of_entries lb
  unfold Builtin.Dict.samePairs Builtin.Dict.showsAll
  rw [if_neg (by rw [sa]; exact Bool.false_ne_true : ¬ (a == sysModules) = true), if_neg (by rw [sb]; exact Bool.false_ne_true : ¬ (b == sysModules) = true)]
  refine wpAny_bind (wpAny_pure (wpAny_bind (wpAny_pure (wpAny_bind (wpAny_dictEntries ha ta ?_)))))
  dsimp only
  refine wpAny_bind (wpAny_dictEntries hb tb ?_)
  by_cases hs : ea.size = eb.size
  case neg =>
    rw [if_pos (by simpa using hs)]
    have e : (xa.length == xb.length) = false := by rw [← za, ← zb]; simpa using hs
    rw [e, Bool.false_and] at h
    exact wpAny_bind (wpAny_rule (wpAny_pure h))
  case pos =>
    have e : (xa.length == xb.length) = true := by rw [← za, ← zb]; simpa using hs
    rw [e, Bool.true_and] at h
    rw [if_neg (by rw [hs]; simp)]
    refine wpAny_bind (wpAny_dictEpoch ha ta (wpAny_bind ?_))
    rw [Std.Legacy.Range.forIn_eq_forIn_range']
    simp only [Std.Legacy.Range.size, Nat.sub_zero, Nat.add_sub_cancel, Nat.div_one]
    refine wpAny_forIn_list _ (fun rest q s' => s' = s ∧ q = (none, ()) ∧ ∃ i, rest = List.range' i (ea.size - i) ∧ i ≤ ea.size ∧ ((xa.take i).all fun x => g x.1) = true) _ ?_ ?_ _ _ ⟨rfl, rfl, 0, by simp, Nat.zero_le _, rfl⟩
    · rintro x rest q s' ⟨rfl, rfl, i, hr, hi, hall⟩
      have lt : i < ea.size := by
        rcases Nat.lt_or_ge i ea.size with z | z
        · exact z
        · rw [Nat.sub_eq_zero_of_le z] at hr; cases hr
      obtain ⟨rfl, hrest⟩ : x = i ∧ rest = List.range' (i + 1) (ea.size - (i + 1)) := by
        rw [show ea.size - i = (ea.size - (i + 1)) + 1 by omega, List.range'_succ] at hr
        exact ⟨(List.cons.inj hr).1, (List.cons.inj hr).2⟩
      have lx : x < xa.length := by omega
      have ex : xa[x]? = some xa[x] := List.getElem?_eq_getElem lx
      have ee : ea[x]? = some (entryOfKey knd xa[x]) := by rw [entry_at la x, ex]; rfl
      have mx : xa[x] ∈ xa := List.getElem_mem lx
      refine wpAny_bind (wpAny_dictEntries ha ta ?_)
      rw [ee]
      have tk : xa.take (x + 1) = xa.take x ++ [xa[x]] := by rw [List.take_add_one, ex]; rfl
      have bad : g xa[x].1 = false → (xa.all fun x => g x.1) = false := fun z => by
        rw [List.all_eq_false]
        exact ⟨_, mx, by rw [z]; exact Bool.false_ne_true⟩
      refine wpAny_bind (wpAny_holding (wpAny_bind (wpAny_dictFind_heap hu (ia _ mx) hb tb lb ib nb (fun hno => ?_) fun j p hj => ?_)))
      · have z := g0 _ mx (atKey_none_of_get hno)
        rw [bad z] at h
        refine wpAny_pure ?_
        show wpAny _ _ (if (!false) = true then _ else _) _ _ _
        rw [if_pos (show (!false) = true from rfl)]
        exact wpAny_pure (wpAny_pure h)
      · have kj := atKey_of_get nb hj
        have ej : eb[j]? = some (entryOfKey knd (xa[x].1, p)) := by rw [entry_at lb j, hj]; rfl
        refine wpAny_bind (wpAny_dictEntries hb tb ?_)
        rw [ej]
        refine wpAny_holding (g1 _ mx p kj prog w _ _ ?_)
        cases ge : g xa[x].1 with
        | false =>
          rw [bad ge] at h
          show wpAny _ _ (if (!false) = true then _ else _) _ _ _
          rw [if_pos (show (!false) = true from rfl)]
          exact wpAny_pure (wpAny_pure h)
        | true =>
          show wpAny _ _ (if (!true) = true then _ else _) _ _ _
          rw [if_neg (show ¬ (!true) = true from Bool.false_ne_true)]
          refine wpAny_bind (wpAny_dictEpoch ha ta ?_)
          rw [if_neg (show ¬ (pa != pa) = true by simp)]
          refine wpAny_pure ⟨rfl, rfl, x + 1, hrest, lt, ?_⟩
          rw [tk, List.all_append, hall]
          simpa using ge
    · rintro q s' ⟨rfl, rfl, i, hr, hi, hall⟩
      have ei : i = ea.size := by
        rcases Nat.lt_or_ge i ea.size with z | z
        · rw [show ea.size - i = (ea.size - (i + 1)) + 1 by omega, List.range'_succ] at hr; cases hr
        · omega
      rw [ei, za, List.take_length] at hall
      rw [hall] at h
      exact wpAny_pure h
theorem dicts_eq {a b : Addr} {xa xb : List (K × Addr × Value)} {g : K → Bool} {Q : Value → Shared → Prop} (hu : A.units < cLine) (hroom : knd.room A.in1) (sa : (a == sysModules) = false) (sb : (b == sysModules) = false)
    (da : s.heap.DictOfH knd a xa) (db : s.heap.DictOfH knd b xb) (g0 : ∀ x ∈ xa, atKey xb x.1 = none → g x.1 = false) (g1 : ∀ x ∈ xa, ∀ p, atKey xb x.1 = some p → SeqAt.EqAt A.in1 s x.2.2 p.2 (g x.1))
    (h : Q (.bool (xa.length == xb.length && xa.all fun x => g x.1)) s) : wpAny (model prog w) A (compareOp .Eq (.ref a) (.ref b)) Q E s := by
  have ea := da.typeIs
  have eb := db.typeIs
  refine wpAny_richCompare_same_room (op := .Eq) ea eb F.slot_dict_eq (wpAny_call_entry F.slot_dict_eq ea F.entry_dict_eq ?_ (F.args_dict_eq_2 _ _)) hu
  refine wpAny_bind (m := Builtin.Dict.dictSlotArgs "__eq__" ⟨[.ref a, .ref b], []⟩) ?_
  unfold Builtin.Dict.dictSlotArgs
  refine wpAny_bind (wpAny_notOrdered_dict ea ?_)
  refine wpAny_pure (a := (Value.ref a, Value.ref b)) (wpAny_bind (wpAny_isInstance (T := "dict") eb F.sub_dict_dict ?_))
  simp only [Bool.not_true, Bool.false_eq_true, if_false]
  refine wpAny_bind (wpAny_pure (wpAny_bind (wpAny_pure (wpAny_bind (pairs_same hroom sa sb da db g0 g1 (wpAny_pure ⟨_, rfl, (fun z => by cases z), ?_⟩))))))
  simpa using h
end
/-- the values are ints -/
def IntVals (ks : List (List Key × V)) : Prop := ∀ p ∈ ks, ∃ i : Int, p.2 = .int i
def sameD (ka kb : List (List Key × V)) : Bool := ka.length == kb.length && ka.all fun p => decide (valV kb p.1 = valV ka p.1)
def rEqT : R2 := fun x y H Q => ∃ (a b : Addr) (ka kb : List (List Key × V)), x = .ref a ∧ y = .ref b ∧ H a = some (.dT ka) ∧ H b = some (.dT kb) ∧ IntVals ka ∧ IntVals kb ∧ (ka.map (·.1)).Nodup ∧ Q (.bl (sameD ka kb)) H
theorem kt_mem {H : Hp} : ∀ {ks : List (List Key × V)} {xs : List (List Key × Addr × Value)}, KT H ks xs → ∀ {x : List Key × Addr × Value}, x ∈ xs → ∃ p ∈ ks, p.1 = x.1 ∧ RelV p.2 x.2.2
  | _, _, .cons h r, x, hx => by
    rcases List.mem_cons.mp hx with e | hx
    · rw [e]; exact ⟨_, List.mem_cons_self, h.1, h.2.2⟩
    · obtain ⟨p, h1, h2⟩ := kt_mem r hx
      exact ⟨p, List.mem_cons_of_mem _ h1, h2⟩
theorem kt_all {H : Hp} {f : List Key → Bool} : ∀ {ks : List (List Key × V)} {xs : List (List Key × Addr × Value)}, KT H ks xs → (xs.all fun x => f x.1) = ks.all fun p => f p.1
  | _, _, .nil => rfl
  | _, _, .cons h r => by rw [List.all_cons, List.all_cons, kt_all r, h.1]
theorem valV_mem {kvs : List (List Key × V)} {k : List Key} {v : V} (h : valV kvs k = some v) : ∃ p ∈ kvs, p.2 = v ∧ p.1 = k := by
  unfold valV at h
  obtain ⟨p, hp, e⟩ := Option.map_eq_some_iff.mp h
  have z := List.find?_some hp
  exact ⟨p, List.mem_of_find?_eq_some hp, e, by simpa using z⟩
theorem valV_of {kvs : List (List Key × V)} (hn : (kvs.map (·.1)).Nodup) {p : List Key × V} (h : p ∈ kvs) : valV kvs p.1 = some p.2 := by
  induction kvs with
  | nil => cases h
  | cons q r ih =>
    rw [List.map_cons, List.nodup_cons] at hn
    rcases List.mem_cons.mp h with e | h
    · rw [e]; exact valV_pos rfl
    · rw [valV_neg fun z => hn.1 (by rw [z]; exact List.mem_map.mpr ⟨p, h, rfl⟩)]
      exact ih hn.2 h
theorem op_eqT {X : Cx} (hu : X.A.units + 64 < cLine) : OpR X (compareOp .Eq) rEqT := by
  intro pins s σ H x y v u Q I rx ry h
  obtain ⟨a, b, ka, kb, rfl, rfl, ha, hb, va, vb, na, q⟩ := h
  cases rx
  cases ry
  obtain ⟨_, sa, xa, ra, da⟩ := dt_of I.hok ha
  obtain ⟨_, sb, xb, rb, db⟩ := dt_of I.hok hb
  have hi : X.A.units < cLine := by omega
  have hroom : (tupleKind (mixKind X.prog X.w)).room X.A.in1 := by
    show X.A.units + 1 < cLine
    omega
  refine dicts_eq (g := fun k => decide (valV kb k = valV ka k)) hi hroom sa sb da db (fun z hz e => ?_) (fun z hz p e => ?_) ⟨.bl (sameD ka kb), H, I, ?_, q⟩
  · obtain ⟨p, hp, e1, _⟩ := kt_mem ra hz
    have r := rb.val z.1
    rw [e] at r
    have e2 : valV kb z.1 = none := by
      cases y : valV kb z.1 with
      | none => rfl
      | some y' => rw [y] at r; exact r.elim
    refine decide_eq_false ?_
    rw [e2, ← e1, valV_of na hp]
    intro y
    cases y
  · obtain ⟨p', hp, e1, e3⟩ := kt_mem ra hz
    obtain ⟨i, ei⟩ := va p' hp
    have r := rb.val z.1
    rw [e] at r
    obtain ⟨w', ew⟩ : ∃ w', valV kb z.1 = some w' := by
      cases y : valV kb z.1 with
      | none => rw [y] at r; exact r.elim
      | some y' => exact ⟨y', rfl⟩
    rw [ew] at r
    obtain ⟨q', hq', e4, _⟩ := valV_mem ew
    obtain ⟨j, ej⟩ := vb q' hq'
    have ew2 : w' = .int j := by rw [← e4, ej]
    subst ew2
    rw [ei] at e3
    obtain ⟨t, et⟩ := e3
    obtain ⟨t', et'⟩ : ∃ t' : Tok, p.2 = Value.int j t' := r
    have eg : decide (valV kb z.1 = valV ka z.1) = (i == j) := by
      rw [ew, ← e1, valV_of na hp, ei, Bool.eq_iff_iff, decide_eq_true_eq, beq_iff_eq]
      constructor
      · intro y
        injection y with y
        injection y with y
        exact y.symm
      · intro y
        rw [y]
    show SeqAt.EqAt _ _ z.2.2 p.2 (decide (valV kb z.1 = valV ka z.1))
    rw [eg, et, et']
    exact SeqAt.EqAt.int_int _ _ _ _
  · show Value.bool _ = Value.bool _
    rw [kt_all ra (f := fun k => decide (valV kb k = valV ka k)), ← ra.length, ← rb.length]
    rfl
end Dq
/-! A search level by level, as data. No row. -/
namespace My
open PySem PySem.Spec PyProof.Rows L2
abbrev Ways := Nat → Option (List Nat)
def setW (W : Ways) (v : Nat) (r : List Nat) : Ways := fun x => if x = v then some r else W x
def visit (u : Nat) (st : Ways × List Nat) (v : Nat) : Ways × List Nat :=
  if (st.1 v).isSome = true then st else (setW st.1 v ((st.1 u).getD [] ++ [v]), st.2 ++ [v])
def levStep (A : Nat → List Nat) (st : Ways × List Nat) : Ways × List Nat := st.2.foldl (fun s u => (A u).foldl (visit u) s) (st.1, [])
def lev (A : Nat → List Nat) (s : Nat) : Nat → Ways × List Nat
  | 0 => (fun x => if x = s then some [s] else none, [s])
  | t + 1 => levStep A (lev A s t)
theorem foldl_take {α β : Type} (f : β → α → β) {l : List α} {i : Nat} {a : α} (b : β) (h : l[i]? = some a) : (l.take (i + 1)).foldl f b = f ((l.take i).foldl f b) a := by
  rw [take_snoc h, List.foldl_append]
  rfl
theorem nodup_lt : ∀ (n : Nat) (l : List Nat), l.Nodup → (∀ x ∈ l, x < n) → l.length ≤ n
  | 0, l, _, h => by
    cases l with
    | nil => exact Nat.le_refl _
    | cons x r => exact absurd (h x List.mem_cons_self) (Nat.not_lt_zero _)
  | n + 1, l, hd, h => by
    by_cases hn : n ∈ l
    · have h1 := nodup_lt n (l.erase n) (hd.erase n) fun x hx => by
        have := (List.Nodup.mem_erase_iff hd).mp hx
        have := h x this.2
        omega
      rw [List.length_erase_of_mem hn] at h1
      omega
    · have h1 := nodup_lt n l hd fun x hx => by
        have := h x hx
        have : x ≠ n := fun z => hn (z ▸ hx)
        omega
      omega
/-- what a level's list is -/
structure Prog (n : Nat) (st : Ways × List Nat) : Prop where
  nd : st.2.Nodup
  lt : ∀ v ∈ st.2, v < n ∧ (st.1 v).isSome = true
theorem Prog.len {n : Nat} {st : Ways × List Nat} (h : Prog n st) : st.2.length ≤ n := nodup_lt n _ h.nd fun x hx => (h.lt x hx).1
theorem visit_some {u v : Nat} {st : Ways × List Nat} (h : (st.1 v).isSome = true) : visit u st v = st := if_pos h
theorem visit_none {u v : Nat} {st : Ways × List Nat} (h : ¬ (st.1 v).isSome = true) : visit u st v = (setW st.1 v ((st.1 u).getD [] ++ [v]), st.2 ++ [v]) := if_neg h
theorem visit_keep {u v x : Nat} {st : Ways × List Nat} {r : List Nat} (h : st.1 x = some r) : (visit u st v).1 x = some r := by
  by_cases e : (st.1 v).isSome = true
  · rw [visit_some e]; exact h
  · rw [visit_none e]
    show setW st.1 v _ x = some r
    unfold setW
    rw [if_neg fun z => e (by rw [← z, h]; rfl)]
    exact h
theorem Prog.visit {n u v : Nat} {st : Ways × List Nat} (h : Prog n st) (hv : v < n) : Prog n (visit u st v) := by
  by_cases e : (st.1 v).isSome = true
  · rw [visit_some e]; exact h
  · have hk : ∀ x, (st.1 x).isSome = true → ((My.visit u st v).1 x).isSome = true := fun x hx => by
      obtain ⟨r, hr⟩ := Option.isSome_iff_exists.mp hx
      rw [visit_keep hr]; rfl
    refine ⟨?_, fun x hx => ?_⟩
    · rw [visit_none e]
      exact nd_snoc' h.nd fun m => e (h.lt v m).2
    · have hx2 : x ∈ st.2 ++ [v] := by rw [visit_none e] at hx; exact hx
      rcases List.mem_append.mp hx2 with q | q
      · exact ⟨(h.lt x q).1, hk x (h.lt x q).2⟩
      · rw [List.mem_singleton.mp q]
        refine ⟨hv, ?_⟩
        rw [visit_none e]
        show (setW st.1 v _ v).isSome = true
        unfold setW
        rw [if_pos rfl]
        rfl
theorem Prog.fold {n u : Nat} : ∀ (l : List Nat) {st : Ways × List Nat}, Prog n st → (∀ v ∈ l, v < n) → Prog n (l.foldl (My.visit u) st)
  | [], _, h, _ => h
  | v :: r, _, h, hl => Prog.fold r (h.visit (hl v List.mem_cons_self)) fun x hx => hl x (List.mem_cons_of_mem _ hx)
theorem Prog.fold2 {n : Nat} {A : Nat → List Nat} : ∀ (l : List Nat) {st : Ways × List Nat}, Prog n st → (∀ u ∈ l, ∀ v ∈ A u, v < n) → Prog n (l.foldl (fun s u => (A u).foldl (My.visit u) s) st)
  | [], _, h, _ => h
  | u :: r, _, h, hl => Prog.fold2 r (h.fold (A u) (hl u List.mem_cons_self)) fun x hx => hl x (List.mem_cons_of_mem _ hx)
theorem keep_fold {u x : Nat} {r : List Nat} : ∀ (l : List Nat) {st : Ways × List Nat}, st.1 x = some r → (l.foldl (My.visit u) st).1 x = some r
  | [], _, h => h
  | v :: t, _, h => keep_fold t (visit_keep h)
theorem keep_fold2 {A : Nat → List Nat} {x : Nat} {r : List Nat} : ∀ (l : List Nat) {st : Ways × List Nat}, st.1 x = some r → (l.foldl (fun s u => (A u).foldl (My.visit u) s) st).1 x = some r
  | [], _, h => h
  | u :: t, _, h => keep_fold2 t (keep_fold (A u) h)
theorem lev_prog {A : Nat → List Nat} {s n : Nat} (hs : s < n) (hA : ∀ a, a < n → ∀ b ∈ A a, b < n) : ∀ t, Prog n (lev A s t)
  | 0 => ⟨by show [s].Nodup; simp, fun v hv => by
      have hv : v ∈ [s] := hv
      rw [List.mem_singleton.mp hv]
      exact ⟨hs, by show (if s = s then some [s] else none).isSome = true; rw [if_pos rfl]; rfl⟩⟩
  | t + 1 => by
    have ih := lev_prog hs hA t
    exact Prog.fold2 (st := ((lev A s t).1, [])) _ ⟨List.nodup_nil, fun v hv => by cases hv⟩ fun u hu => hA u (ih.lt u hu).1
theorem lev_end {A : Nat → List Nat} {s t : Nat} (h : (lev A s t).2 = []) : ∀ k, lev A s (t + k) = ((lev A s t).1, []) ∨ k = 0
  | 0 => .inr rfl
  | k + 1 => by
    refine .inl ?_
    show levStep A (lev A s (t + k)) = _
    rcases lev_end h k with e | e
    · rw [e]
      rfl
    · rw [e]
      unfold levStep
      rw [Nat.add_zero, h]
      rfl
theorem lev_same {A : Nat → List Nat} {s t T : Nat} (h : (lev A s t).2 = []) (ht : t ≤ T) : (lev A s T).1 = (lev A s t).1 := by
  obtain ⟨k, rfl⟩ : ∃ k, T = t + k := ⟨T - t, by omega⟩
  rcases lev_end h k with e | e
  · rw [e]
  · rw [e]; rfl
/-! ### how the heap bears them -/
def ArcsAt (H : Hp) (d : Addr) (A : Nat → List Nat) (n : Nat) : Prop := ∃ kvs : List (Key × V), H d = some (.dK kvs) ∧ ∀ a, a < n → ∃ l, valV kvs (Sum.inl (a : Int)) = some (.ref l) ∧ H l = some (.lst (natsV (A a)))
theorem ArcsAt.same {H H' : Hp} {d : Addr} {A : Nat → List Nat} {n : Nat} (h : ArcsAt H d A n) (e : Same H H') : ArcsAt H' d A n := by
  obtain ⟨kvs, h1, h2⟩ := h
  exact ⟨kvs, e _ _ h1, fun a ha => let ⟨l, x, y⟩ := h2 a ha; ⟨l, x, e _ _ y⟩⟩
/-- the dict of ways; no way's list is q -/
def WaysAt (H0 H : Hp) (d : Addr) (W : Ways) (m : Nat) (q : Addr) : Prop := ∃ kvs : List (Key × V), H d = some (.dK kvs) ∧ kvs.length ≤ m ∧ (∀ v, W v = none → valV kvs (Sum.inl (v : Int)) = none) ∧
  ∀ v r, W v = some r → r.length ≤ kvs.length ∧ ∃ l, valV kvs (Sum.inl (v : Int)) = some (.ref l) ∧ H l = some (.lst (natsV r)) ∧ H0 l = none ∧ l ≠ q
def WayV (H0 H : Hp) (o : Option (List Nat)) (v : V) : Prop := match o with
  | none => v = .non
  | some r => ∃ l, v = .ref l ∧ H0 l = none ∧ H l = some (.lst (natsV r))
theorem WaysAt.get {H0 H : Hp} {d : Addr} {W : Ways} {m : Nat} {q : Addr} (h : WaysAt H0 H d W m q) (v : Nat) : ∃ o, DGet H d (.int (v : Int)) o ∧ o.isSome = (W v).isSome ∧ WayV H0 H (W v) (o.getD .non) := by
  obtain ⟨kvs, h1, _, h2, h3⟩ := h
  refine ⟨valV kvs (Sum.inl (v : Int)), DGet.k (k := Sum.inl (v : Int)) h1, ?_, ?_⟩
  · cases e : W v with
    | none => rw [h2 v e]; rfl
    | some r =>
      obtain ⟨_, l, x, _⟩ := h3 v r e
      rw [x]
      rfl
  · cases e : W v with
    | none => rw [h2 v e]; rfl
    | some r =>
      obtain ⟨_, l, x, y, z, _⟩ := h3 v r e
      rw [x]
      exact ⟨l, rfl, z, y⟩
theorem WaysAt.mono {H0 H H' : Hp} {d : Addr} {W : Ways} {m : Nat} {q q' : Addr} (h : WaysAt H0 H d W m q) (hd : ∀ kvs, H d = some (.dK kvs) → H' d = some (.dK kvs)) (hl : ∀ l r, l ≠ q → H l = some (.lst (natsV r)) → H' l = some (.lst (natsV r)) ∧ l ≠ q') : WaysAt H0 H' d W m q' := by
  obtain ⟨kvs, h1, h2, h3, h4⟩ := h
  refine ⟨kvs, hd _ h1, h2, h3, fun v r e => ?_⟩
  obtain ⟨a, l, x, y, z, n⟩ := h4 v r e
  exact ⟨a, l, x, (hl l r n y).1, z, (hl l r n y).2⟩
theorem WaysAt.put {H0 H : Hp} {d : Addr} {W : Ways} {m : Nat} {q : Addr} {v : Nat} {r : List Nat} {l : Addr} {kvs : List (Key × V)} (h : WaysAt H0 H d W m q) (hd : H d = some (.dK kvs)) (hv : W v = none) (hr : r.length ≤ kvs.length + 1) (hl : H l = some (.lst (natsV r))) (h0 : H0 l = none) (hq : l ≠ q) :
    WaysAt H0 (upd H d (.dK (putK kvs (Sum.inl (v : Int)) (.ref l)))) d (setW W v r) (m + 1) q := by
  obtain ⟨kvs', h1, h2, h3, h4⟩ := h
  rw [hd] at h1
  cases h1
  have en := putK_new (V.ref l) (h3 v hv)
  have key : ∀ x : Nat, ((Sum.inl (x : Int) : Key) = Sum.inl (v : Int)) ↔ x = v := fun x => ⟨fun z => by injection z with z; omega, fun z => by rw [z]⟩
  have nd : ∀ (l' : Addr) (r' : List Nat), H l' = some (.lst (natsV r')) → l' ≠ d := fun l' r' e => ne_of e hd (by intro z; cases z)
  refine ⟨_, upd_same, by rw [en, List.length_append, List.length_singleton]; omega, fun x hx => ?_, fun x r' hx => ?_⟩
  · unfold setW at hx
    by_cases e : x = v
    · rw [if_pos e] at hx; cases hx
    · rw [if_neg e] at hx
      rw [valV_put, if_neg fun z => e ((key x).mp z)]
      exact h3 x hx
  · unfold setW at hx
    by_cases e : x = v
    · rw [if_pos e] at hx
      cases hx
      refine ⟨by rw [en, List.length_append, List.length_singleton]; exact hr, l, ?_, by rw [upd_ne (nd l r hl)]; exact hl, h0, hq⟩
      rw [valV_put, if_pos ((key x).mpr e)]
    · rw [if_neg e] at hx
      obtain ⟨a, l', x', y, z, n⟩ := h4 x r' hx
      refine ⟨by rw [en, List.length_append, List.length_singleton]; omega, l', ?_, by rw [upd_ne (nd l' r' y)]; exact y, z, n⟩
      rw [valV_put, if_neg fun z => e ((key x).mp z)]
      exact x'
end My
/-! The rows found one by one, and the search level by level: the same shortest rows. No row of Lean's, no Python. -/
namespace My
open PySem PySem.Spec PyProof.Rows L2
/-! ### order -/
def lexlt : List Nat → List Nat → Prop
  | x :: xs, y :: ys => x < y ∨ (x = y ∧ lexlt xs ys)
  | _, _ => False
theorem lex_irr : ∀ x : List Nat, ¬ lexlt x x
  | [], h => h
  | x :: xs, h => by
    rcases h with h | ⟨_, h⟩
    · omega
    · exact lex_irr xs h
theorem lex_trans : ∀ {x y z : List Nat}, lexlt x y → lexlt y z → lexlt x z
  | [], _, _, h, _ => h.elim
  | _ :: _, [], _, h, _ => h.elim
  | _ :: _, _ :: _, [], _, h => h.elim
  | a :: x, b :: y, c :: z, h1, h2 => by
    rcases h1 with h1 | ⟨e1, h1⟩ <;> rcases h2 with h2 | ⟨e2, h2⟩
    · exact .inl (by omega)
    · exact .inl (by omega)
    · exact .inl (by omega)
    · exact .inr ⟨by omega, lex_trans h1 h2⟩
theorem lex_app1 : ∀ {x y : List Nat} (s t : List Nat), lexlt x y → lexlt (x ++ s) (y ++ t)
  | [], _, _, _, h => h.elim
  | _ :: _, [], _, _, h => h.elim
  | a :: x, b :: y, s, t, h => by
    rcases h with h | ⟨e, h⟩
    · exact .inl h
    · exact .inr ⟨e, lex_app1 s t h⟩
theorem lex_app2 : ∀ (x : List Nat) {s t : List Nat}, lexlt s t → lexlt (x ++ s) (x ++ t)
  | [], _, _, h => h
  | a :: x, _, _, h => .inr ⟨rfl, lex_app2 x h⟩
theorem lex_one {b c : Nat} (h : b < c) (x : List Nat) : lexlt (x ++ [b]) (x ++ [c]) := lex_app2 x (.inl h)
/-- fewer nodes, or as many and lexicographically less -/
def rlt (x y : List Nat) : Prop := x.length < y.length ∨ (x.length = y.length ∧ lexlt x y)
def rle (x y : List Nat) : Prop := x = y ∨ rlt x y
theorem rlt_irr (x : List Nat) : ¬ rlt x x := fun h => by
  rcases h with h | ⟨_, h⟩
  · omega
  · exact lex_irr x h
theorem rlt_trans {x y z : List Nat} (h1 : rlt x y) (h2 : rlt y z) : rlt x z := by
  rcases h1 with h1 | ⟨e1, h1⟩ <;> rcases h2 with h2 | ⟨e2, h2⟩
  · exact .inl (by omega)
  · exact .inl (by omega)
  · exact .inl (by omega)
  · exact .inr ⟨by omega, lex_trans h1 h2⟩
/-! ### rows -/
inductive Row (N : NetD) (a : Nat) : List Nat → Prop
  | start : Row N a [a]
  | ext {r : List Nat} {b : Nat} : Row N a r → (r = [a] ∨ host N (lastN r) = false) → okb N r b = true → b < N.ks.length → Row N a (r ++ [b])
theorem lastN_app (r : List Nat) (b : Nat) : lastN (r ++ [b]) = b := by
  unfold lastN
  rw [List.length_append, List.length_singleton, Nat.add_sub_cancel, List.getD_eq_getElem?_getD, List.getElem?_append_right (Nat.le_refl _), Nat.sub_self]
  rfl
theorem lastN_one (a : Nat) : lastN [a] = a := rfl
theorem okb_mem {N : NetD} {r : List Nat} {b : Nat} (h : okb N r b = true) : b ∉ r ∧ adj N (lastN r) b = true := by
  unfold okb at h
  rw [Bool.and_eq_true, Bool.not_eq_true'] at h
  refine ⟨fun m => ?_, h.2⟩
  have := List.contains_iff_mem.mpr m
  rw [h.1] at this
  cases this
theorem okb_of {N : NetD} {r : List Nat} {b : Nat} (h1 : b ∉ r) (h2 : adj N (lastN r) b = true) : okb N r b = true := by
  unfold okb
  rw [Bool.and_eq_true, Bool.not_eq_true']
  refine ⟨?_, h2⟩
  cases e : r.contains b with
  | false => rfl
  | true => exact absurd (List.contains_iff_mem.mp e) h1
theorem Row.ne {N : NetD} {a : Nat} {r : List Nat} (h : Row N a r) : r ≠ [] := by
  cases h with
  | start => simp
  | ext => simp
theorem Row.pos {N : NetD} {a : Nat} {r : List Nat} (h : Row N a r) : 1 ≤ r.length := List.length_pos_iff.mpr h.ne
theorem Row.nodup {N : NetD} {a : Nat} {r : List Nat} (h : Row N a r) : r.Nodup := by
  induction h with
  | start => simp
  | ext _ _ o _ ih => exact nd_snoc' ih (okb_mem o).1
theorem Row.head {N : NetD} {a : Nat} {r : List Nat} (h : Row N a r) : r.head? = some a := by
  induction h with
  | start => rfl
  | ext h _ _ _ ih =>
    cases ‹List Nat› with
    | nil => exact absurd rfl h.ne
    | cons x t => exact ih
theorem Row.lt {N : NetD} {a : Nat} {r : List Nat} (h : Row N a r) (ha : a < N.ks.length) : ∀ x ∈ r, x < N.ks.length := by
  induction h with
  | start => intro x hx; rw [List.mem_singleton.mp hx]; exact ha
  | ext _ _ _ hb ih =>
    intro x hx
    rcases List.mem_append.mp hx with q | q
    · exact ih x q
    · rw [List.mem_singleton.mp q]; exact hb
theorem Row.mem_last {N : NetD} {a : Nat} {r : List Nat} (h : Row N a r) : lastN r ∈ r := by
  cases h with
  | start => exact List.mem_singleton.mpr rfl
  | ext => rw [lastN_app]; exact List.mem_append.mpr (.inr (List.mem_singleton.mpr rfl))
/-- a node of a row is the end of a row that is not longer -/
theorem Row.pre {N : NetD} {a : Nat} {r : List Nat} (h : Row N a r) : ∀ v ∈ r, ∃ x, Row N a x ∧ lastN x = v ∧ x.length ≤ r.length := by
  induction h with
  | start => intro v hv; exact ⟨[a], .start, (List.mem_singleton.mp hv).symm ▸ rfl, Nat.le_refl _⟩
  | @ext r b h1 h2 o hb ih =>
    intro v hv
    rcases List.mem_append.mp hv with q | q
    · obtain ⟨x, x1, x2, x3⟩ := ih v q
      exact ⟨x, x1, x2, by rw [List.length_append]; omega⟩
    · exact ⟨r ++ [b], .ext h1 h2 o hb, by rw [lastN_app, List.mem_singleton.mp q], Nat.le_refl _⟩
theorem Row.split {N : NetD} {a : Nat} {x : List Nat} (h : Row N a x) : x = [a] ∨ ∃ y b, x = y ++ [b] ∧ Row N a y ∧ (y = [a] ∨ host N (lastN y) = false) ∧ okb N y b = true ∧ b < N.ks.length := by
  cases h with
  | start => exact .inl rfl
  | ext h1 h2 o hb => exact .inr ⟨_, _, rfl, h1, h2, o, hb⟩
theorem Row.back {N : NetD} {a : Nat} {r : List Nat} (h : Row N a r) (e : lastN r = a) : r = [a] := by
  rcases h.split with z | ⟨y, b, rfl, h1, _, o, _⟩
  · exact z
  · rw [lastN_app] at e
    exact absurd (by rw [e]; exact List.mem_of_mem_head? h1.head) (okb_mem o).1
/-! ### what the law finds -/
theorem mem_rows {N : NetD} : ∀ (t : Nat) (r : List Nat), r ∈ rowsOf N t ↔ ∃ a, a < N.ks.length ∧ host N a = true ∧ Row N a r ∧ r.length = t + 1 ∧ (r = [a] ∨ host N (lastN r) = false)
  | 0, r => by
    constructor
    · intro h
      obtain ⟨a, ha, rfl⟩ := List.mem_map.mp h
      obtain ⟨h1, h2⟩ := List.mem_filter.mp ha
      exact ⟨a, List.mem_range.mp h1, h2, .start, rfl, .inl rfl⟩
    · rintro ⟨a, h1, h2, h3, h4, _⟩
      rcases h3.split with rfl | ⟨y, b, rfl, h5, _⟩
      · exact List.mem_map.mpr ⟨a, List.mem_filter.mpr ⟨List.mem_range.mpr h1, h2⟩, rfl⟩
      · have := h5.pos
        rw [List.length_append, List.length_singleton] at h4
        omega
  | t + 1, r => by
    constructor
    · intro h
      obtain ⟨y, hy, hr⟩ := List.mem_flatMap.mp h
      obtain ⟨a, h1, h2, h3, h4, h5⟩ := (mem_rows t y).mp hy
      obtain ⟨b, hb, rfl⟩ := List.mem_map.mp hr
      obtain ⟨b1, b2⟩ := List.mem_filter.mp hb
      rw [Bool.and_eq_true, Bool.not_eq_true'] at b2
      exact ⟨a, h1, h2, .ext h3 h5 b2.1 (List.mem_range.mp b1), by rw [List.length_append, h4]; rfl, .inr (by rw [lastN_app]; exact b2.2)⟩
    · rintro ⟨a, h1, h2, h3, h4, h5⟩
      rcases h3.split with rfl | ⟨y, b, rfl, h6, h7, o, hb⟩
      · cases h4
      · rw [List.length_append, List.length_singleton] at h4
        have hb2 : host N b = false := by
          rcases h5 with z | z
          · have w1 := congrArg List.length z
            rw [List.length_append, List.length_singleton, List.length_singleton] at w1
            omega
          · rw [lastN_app] at z; exact z
        exact List.mem_flatMap.mpr ⟨y, (mem_rows t y).mpr ⟨a, h1, h2, h6, by omega, h7⟩, List.mem_map.mpr ⟨b, List.mem_filter.mpr ⟨List.mem_range.mpr hb, by rw [o, hb2]; rfl⟩, rfl⟩⟩
theorem mem_found {N : NetD} : ∀ (t : Nat) (r : List Nat), r ∈ foundOf N t ↔ ∃ a, a < N.ks.length ∧ host N a = true ∧ Row N a r ∧ 2 ≤ r.length ∧ r.length ≤ t + 1 ∧ host N (lastN r) = true
  | 0, r => by
    constructor
    · intro h; cases h
    · rintro ⟨a, _, _, _, h1, h2, _⟩; omega
  | t + 1, r => by
    have ih := mem_found (N := N) t r
    constructor
    · intro h
      rcases List.mem_append.mp h with q | q
      · obtain ⟨a, h1, h2, h3, h4, h5, h6⟩ := ih.mp q
        exact ⟨a, h1, h2, h3, h4, by omega, h6⟩
      · obtain ⟨y, hy, hr⟩ := List.mem_flatMap.mp q
        obtain ⟨a, h1, h2, h3, h4, h5⟩ := (mem_rows t y).mp hy
        obtain ⟨b, hb, rfl⟩ := List.mem_map.mp hr
        obtain ⟨b1, b2⟩ := List.mem_filter.mp hb
        rw [Bool.and_eq_true] at b2
        refine ⟨a, h1, h2, .ext h3 h5 b2.1 (List.mem_range.mp b1), ?_, ?_, by rw [lastN_app]; exact b2.2⟩
        · rw [List.length_append, List.length_singleton]; omega
        · rw [List.length_append, List.length_singleton]; omega
    · rintro ⟨a, h1, h2, h3, h4, h5, h6⟩
      by_cases hl : r.length ≤ t + 1
      · exact List.mem_append.mpr (.inl (ih.mpr ⟨a, h1, h2, h3, h4, hl, h6⟩))
      · refine List.mem_append.mpr (.inr ?_)
        rcases h3.split with rfl | ⟨y, b, rfl, h7, h8, o, hb⟩
        · rw [List.length_singleton] at h4; omega
        · rw [lastN_app] at h6
          rw [List.length_append, List.length_singleton] at hl h5
          exact List.mem_flatMap.mpr ⟨y, (mem_rows t y).mpr ⟨a, h1, h2, h7, by omega, h8⟩, List.mem_map.mpr ⟨b, List.mem_filter.mpr ⟨List.mem_range.mpr hb, by rw [o, h6]; rfl⟩, rfl⟩⟩
theorem range_pw (n : Nat) : (List.range n).Pairwise (· < ·) := List.pairwise_lt_range
theorem ext_pw {p : Nat → Bool} (r : List Nat) (n : Nat) : (((List.range n).filter p).map fun b => r ++ [b]).Pairwise lexlt := by
  refine List.Pairwise.map _ (fun b c h => lex_one h r) ((range_pw n).filter p)
theorem flat_pw {f : List Nat → List (List Nat)} {l : List (List Nat)} (hl : l.Pairwise lexlt) (hf : ∀ r ∈ l, (f r).Pairwise lexlt) (hx : ∀ r, ∀ x ∈ f r, ∃ b, x = r ++ [b]) : (l.flatMap f).Pairwise lexlt := by
  rw [List.pairwise_flatMap]
  refine ⟨hf, List.Pairwise.imp (fun {r r'} h x hx1 y hy1 => ?_) hl⟩
  obtain ⟨b, rfl⟩ := hx r x hx1
  obtain ⟨c, rfl⟩ := hx r' y hy1
  exact lex_app1 _ _ h
theorem exS_ext {N : NetD} {r x : List Nat} (h : x ∈ exS N r) : ∃ b, x = r ++ [b] := by
  obtain ⟨b, _, rfl⟩ := List.mem_map.mp h
  exact ⟨b, rfl⟩
theorem exH_ext {N : NetD} {r x : List Nat} (h : x ∈ exH N r) : ∃ b, x = r ++ [b] := by
  obtain ⟨b, _, rfl⟩ := List.mem_map.mp h
  exact ⟨b, rfl⟩
theorem rows_pw {N : NetD} : ∀ t, (rowsOf N t).Pairwise lexlt
  | 0 => by
    show (((List.range N.ks.length).filter (host N)).map fun b => ([] : List Nat) ++ [b]).Pairwise lexlt
    exact ext_pw [] _
  | t + 1 => flat_pw (rows_pw t) (fun r _ => ext_pw r _) fun r x h => exS_ext h
theorem found_pw {N : NetD} : ∀ t, (foundOf N t).Pairwise rlt
  | 0 => List.Pairwise.nil
  | t + 1 => by
    show (foundOf N t ++ (rowsOf N t).flatMap (exH N)).Pairwise rlt
    have hlen : ∀ x ∈ (rowsOf N t).flatMap (exH N), x.length = t + 2 := fun x hx => by
      obtain ⟨y, hy, hr⟩ := List.mem_flatMap.mp hx
      obtain ⟨b, rfl⟩ := exH_ext hr
      rw [List.length_append, rows_row N t y hy]
      rfl
    rw [List.pairwise_append]
    refine ⟨found_pw t, ?_, fun x hx y hy => .inl ?_⟩
    · have h := flat_pw (f := exH N) (rows_pw (N := N) t) (fun r _ => ext_pw r _) fun r x h => exH_ext h
      refine List.Pairwise.imp_of_mem (fun {x y} hx hy h => .inr ⟨?_, h⟩) h
      rw [hlen x hx, hlen y hy]
    · obtain ⟨_, _, _, _, _, h5, _⟩ := (mem_found t x).mp hx
      rw [hlen y hy]
      omega
def matchP (a b : Nat) (r : List Nat) : Bool := (r.getD 0 0 == a) && (lastN r == b)
theorem row_matchP {N : NetD} {a b : Nat} {r : List Nat} (h : Row N a r) (e : lastN r = b) : matchP a b r = true := by
  unfold matchP
  rw [Bool.and_eq_true, beq_iff_eq, beq_iff_eq]
  refine ⟨?_, e⟩
  have := h.head
  cases r with
  | nil => cases this
  | cons x t => exact Option.some.inj this
theorem matchP_row {N : NetD} {a b c : Nat} {r : List Nat} (h : Row N c r) (m : matchP a b r = true) : c = a ∧ lastN r = b := by
  unfold matchP at m
  rw [Bool.and_eq_true, beq_iff_eq, beq_iff_eq] at m
  refine ⟨?_, m.2⟩
  have := h.head
  have m1 := m.1
  cases r with
  | nil => cases this
  | cons x t =>
    have e : x = c := Option.some.inj this
    rw [← e]
    exact m1
theorem find_first {l : List (List Nat)} {p : List Nat → Bool} {r : List Nat} (hs : l.Pairwise rlt) (hr : r ∈ l) (hp : p r = true) (hmin : ∀ x ∈ l, p x = true → rle r x) : l.find? p = some r := by
  induction l with
  | nil => cases hr
  | cons x t ih =>
    rw [List.find?_cons]
    rw [List.pairwise_cons] at hs
    cases hx : p x with
    | true =>
      show some x = some r
      rcases hmin x List.mem_cons_self hx with e | e
      · rw [e]
      · rcases List.mem_cons.mp hr with q | q
        · rw [q]
        · exact absurd (rlt_trans e (hs.1 r q)) (rlt_irr r)
    | false =>
      show t.find? p = some r
      rcases List.mem_cons.mp hr with q | q
      · rw [q, hx] at hp; cases hp
      · exact ih hs.2 q fun y hy => hmin y (List.mem_cons_of_mem _ hy)
end My
/-! The dict of a net's lines as data: the same for turned lines, another one for other lines. No row. -/
namespace My
open PySem PySem.Spec PyProof.Rows L2 Dq
structure Dist (ls : List (Nat × Nat × Int)) : Prop where
  nd : (ls.map norm).Nodup
  ne : ∀ l ∈ ls, l.1 ≠ l.2.1
theorem LsOk.dist {n : Nat} {ls : List (Nat × Nat × Int)} (h : LsOk n ls) : Dist ls := ⟨h.nd, fun l hl e => by
  have := (h.bd l hl).1
  unfold norm at this
  rw [if_neg (by omega)] at this
  have : l.1 < l.2.1 := this
  omega⟩
theorem hits_of {a b : Nat} {l : Nat × Nat × Int} (h : hits a b l = true) : (l.1 = a ∧ l.2.1 = b) ∨ (l.1 = b ∧ l.2.1 = a) := by
  unfold hits at h
  rw [Bool.or_eq_true, Bool.and_eq_true, Bool.and_eq_true, decide_eq_true_eq, decide_eq_true_eq, decide_eq_true_eq, decide_eq_true_eq] at h
  exact h
theorem hits_mk {a b : Nat} {l : Nat × Nat × Int} (h : (l.1 = a ∧ l.2.1 = b) ∨ (l.1 = b ∧ l.2.1 = a)) : hits a b l = true := by
  unfold hits
  rw [Bool.or_eq_true, Bool.and_eq_true, Bool.and_eq_true, decide_eq_true_eq, decide_eq_true_eq, decide_eq_true_eq, decide_eq_true_eq]
  exact h
theorem norm_eq {l k : Nat × Nat × Int} (h : (l.1 = k.1 ∧ l.2.1 = k.2.1) ∨ (l.1 = k.2.1 ∧ l.2.1 = k.1)) : norm l = norm k := by
  unfold norm
  rcases h with ⟨e1, e2⟩ | ⟨e1, e2⟩
  · rw [e1, e2]
  · rw [e1, e2]
    by_cases z : k.1 < k.2.1
    · rw [if_pos z, if_neg (by omega)]
    · by_cases z' : k.2.1 < k.1
      · rw [if_neg z, if_pos z']
      · have e : k.1 = k.2.1 := by omega
        rw [if_neg z, if_neg z', e]
theorem hits_norm {a b : Nat} {l k : Nat × Nat × Int} (h : hits a b l = true) (h' : hits a b k = true) : norm l = norm k := by
  refine norm_eq ?_
  rcases hits_of h with ⟨e1, e2⟩ | ⟨e1, e2⟩ <;> rcases hits_of h' with ⟨e3, e4⟩ | ⟨e3, e4⟩ <;> omega
theorem nodup_inj {α β : Type} (f : α → β) : ∀ {ls : List α}, (ls.map f).Nodup → ∀ {l k : α}, l ∈ ls → k ∈ ls → f l = f k → l = k
  | [], _, _, _, h, _, _ => by cases h
  | x :: r, hn, l, k, h1, h2, e => by
    rw [List.map_cons, List.nodup_cons] at hn
    rcases List.mem_cons.mp h1 with e1 | h1 <;> rcases List.mem_cons.mp h2 with e2 | h2
    · rw [e1, e2]
    · exact absurd (List.mem_map.mpr ⟨k, h2, by rw [← e, e1]⟩) hn.1
    · exact absurd (List.mem_map.mpr ⟨l, h1, by rw [e, e2]⟩) hn.1
    · exact nodup_inj f hn.2 h1 h2 e
def two (l : Nat × Nat × Int) : List (List Key × V) := [(key2 l.1 l.2.1, .int l.2.2), (key2 l.2.1 l.1, .int l.2.2)]
def flatD (ls : List (Nat × Nat × Int)) : List (List Key × V) := ls.flatMap two
theorem flat_mem {ls : List (Nat × Nat × Int)} {p : List Key × V} : p ∈ flatD ls ↔ ∃ l ∈ ls, (p.1 = key2 l.1 l.2.1 ∨ p.1 = key2 l.2.1 l.1) ∧ p.2 = .int l.2.2 := by
  unfold flatD two
  rw [List.mem_flatMap]
  constructor
  · rintro ⟨l, hl, h⟩
    refine ⟨l, hl, ?_⟩
    rcases List.mem_cons.mp h with e | h
    · rw [e]; exact ⟨.inl rfl, rfl⟩
    · rw [List.mem_singleton.mp h]; exact ⟨.inr rfl, rfl⟩
  · rintro ⟨l, hl, h, e⟩
    refine ⟨l, hl, ?_⟩
    obtain ⟨p1, p2⟩ := p
    rcases h with h | h
    · cases h; cases e; exact List.mem_cons_self
    · cases h; cases e; exact List.mem_cons_of_mem _ (List.mem_singleton.mpr rfl)
theorem flat_none {ls : List (Nat × Nat × Int)} {a b : Nat} (h : ∀ l ∈ ls, hits a b l = false) : valV (flatD ls) (key2 a b) = none := by
  cases e : valV (flatD ls) (key2 a b) with
  | none => rfl
  | some v =>
    obtain ⟨p, hp, _, e2⟩ := valV_mem e
    obtain ⟨l, hl, h1, _⟩ := flat_mem.mp hp
    have := h l hl
    rw [hits_mk (by
      rcases h1 with h1 | h1
      · rw [e2] at h1
        obtain ⟨z1, z2⟩ := key2_inj h1
        exact .inl ⟨z1.symm, z2.symm⟩
      · rw [e2] at h1
        obtain ⟨z1, z2⟩ := key2_inj h1
        exact .inr ⟨z2.symm, z1.symm⟩)] at this
    cases this
theorem nodup_mid {xs ys : List (Nat × Nat × Int)} {l : Nat × Nat × Int} (h : Dist (xs ++ l :: ys)) : ∀ k ∈ xs, norm k ≠ norm l := by
  intro k hk e
  have := h.nd
  rw [List.map_append, List.map_cons, List.nodup_append] at this
  exact this.2.2 _ (List.mem_map.mpr ⟨k, hk, rfl⟩) _ List.mem_cons_self e
theorem fold_flat : ∀ (ys xs : List (Nat × Nat × Int)), Dist (xs ++ ys) → ys.foldl put2 (flatD xs) = flatD (xs ++ ys)
  | [], xs, _ => by rw [List.append_nil]; rfl
  | l :: ys, xs, h => by
    have hm := nodup_mid h
    have hne : l.1 ≠ l.2.1 := h.ne l (by simp)
    have n1 : valV (flatD xs) (key2 l.1 l.2.1) = none := flat_none fun k hk => by
      cases e : hits l.1 l.2.1 k with
      | false => rfl
      | true => exact absurd (hits_norm e (hits_mk (.inl ⟨rfl, rfl⟩))) (hm k hk)
    have n2 : valV (flatD xs) (key2 l.2.1 l.1) = none := flat_none fun k hk => by
      cases e : hits l.2.1 l.1 k with
      | false => rfl
      | true => exact absurd (hits_norm e (hits_mk (.inr ⟨rfl, rfl⟩))) (hm k hk)
    have e1 : put2 (flatD xs) l = flatD (xs ++ [l]) := by
      unfold put2
      rw [putK_new _ n1, putK_new _ (by
        rw [← putK_new (.int l.2.2) n1, valV_put, if_neg (fun z => hne (key2_inj z).2), n2]), List.append_assoc]
      unfold flatD
      rw [List.flatMap_append, List.flatMap_cons, List.flatMap_nil, List.append_nil]
      rfl
    rw [List.foldl_cons, e1, fold_flat ys (xs ++ [l]) (by rw [List.append_assoc]; exact h), List.append_assoc]
    rfl
theorem delays_flat {ls : List (Nat × Nat × Int)} (h : Dist ls) : delaysOf ls = flatD ls := fold_flat ls [] h
theorem flat_len : ∀ ls : List (Nat × Nat × Int), (flatD ls).length = 2 * ls.length
  | [] => rfl
  | l :: r => by
    have := flat_len r
    unfold flatD at this ⊢
    rw [List.flatMap_cons, List.length_append, this, List.length_cons]
    show 2 + 2 * r.length = _
    omega
theorem flat_ints (ls : List (Nat × Nat × Int)) : IntVals (flatD ls) := fun p hp => by
  obtain ⟨l, _, _, e⟩ := flat_mem.mp hp
  exact ⟨_, e⟩
theorem flat_nodup : ∀ {ls : List (Nat × Nat × Int)}, Dist ls → ((flatD ls).map (·.1)).Nodup
  | [], _ => List.nodup_nil
  | l :: r, h => by
    have hd : Dist r := ⟨by have := h.nd; rw [List.map_cons, List.nodup_cons] at this; exact this.2, fun k hk => h.ne k (List.mem_cons_of_mem _ hk)⟩
    have hne : l.1 ≠ l.2.1 := h.ne l List.mem_cons_self
    have hn : ∀ k ∈ r, norm k ≠ norm l := fun k hk e => by
      have := h.nd
      rw [List.map_cons, List.nodup_cons] at this
      exact this.1 (List.mem_map.mpr ⟨k, hk, e⟩)
    have out : ∀ a b : Nat, (l.1 = a ∧ l.2.1 = b) ∨ (l.1 = b ∧ l.2.1 = a) → key2 a b ∉ (flatD r).map (·.1) := fun a b hab hm => by
      obtain ⟨p, hp, e⟩ := List.mem_map.mp hm
      obtain ⟨k, hk, h1, _⟩ := flat_mem.mp hp
      refine hn k hk (hits_norm (a := a) (b := b) (hits_mk ?_) (hits_mk hab))
      rcases h1 with h1 | h1
      · rw [e] at h1
        obtain ⟨z1, z2⟩ := key2_inj h1
        exact .inl ⟨z1.symm, z2.symm⟩
      · rw [e] at h1
        obtain ⟨z1, z2⟩ := key2_inj h1
        exact .inr ⟨z2.symm, z1.symm⟩
    show (key2 l.1 l.2.1 :: key2 l.2.1 l.1 :: (flatD r).map (·.1)).Nodup
    rw [List.nodup_cons, List.nodup_cons]
    refine ⟨fun hm => ?_, out _ _ (.inr ⟨rfl, rfl⟩), flat_nodup hd⟩
    rcases List.mem_cons.mp hm with e | hm
    · exact hne (key2_inj e).1
    · exact out _ _ (.inl ⟨rfl, rfl⟩) hm
theorem flat_val {ls : List (Nat × Nat × Int)} (h : Dist ls) {l : Nat × Nat × Int} (hl : l ∈ ls) {a b : Nat} (e : hits a b l = true) : valV (flatD ls) (key2 a b) = some (.int l.2.2) := by
  have hm : (key2 a b, V.int l.2.2) ∈ flatD ls := flat_mem.mpr ⟨l, hl, by
    rcases hits_of e with ⟨e1, e2⟩ | ⟨e1, e2⟩
    · exact .inl (by rw [e1, e2])
    · exact .inr (by rw [e1, e2]), rfl⟩
  exact valV_of (flat_nodup h) hm
theorem find_one {ls : List (Nat × Nat × Int)} (h : Dist ls) {l : Nat × Nat × Int} (hl : l ∈ ls) {a b : Nat} (e : hits a b l = true) : ls.find? (hits a b) = some l := by
  cases q : ls.find? (hits a b) with
  | none => exact absurd e (by have := List.find?_eq_none.mp q l hl; exact this)
  | some k =>
    have hk := List.mem_of_find?_eq_some q
    have e' := List.find?_some q
    rw [nodup_inj norm h.nd hk hl (hits_norm e' e)]
/-- the delay by the dict is that of the first line -/
theorem val_joined {N : NetD} (h : Dist N.ls) (a b : Nat) : (valV (delaysOf N.ls) (key2 a b)).getD .non = optV (joined N a b) := by
  rw [delays_flat h]
  unfold joined
  by_cases e : ∃ l ∈ N.ls, hits a b l = true
  · obtain ⟨l, hl, e⟩ := e
    rw [flat_val h hl e, find_one h hl e]
    rfl
  · have z : ∀ l ∈ N.ls, hits a b l = false := fun l hl => by
      cases q : hits a b l with
      | false => rfl
      | true => exact absurd ⟨l, hl, q⟩ e
    rw [flat_none z, List.find?_eq_none.mpr fun l hl => by rw [z l hl]; decide]
    rfl
theorem adj_self {N : NetD} (h : Dist N.ls) (a : Nat) : adj N a a = false := by
  unfold adj
  rw [List.any_eq_false]
  intro l hl e
  have := h.ne l hl
  rcases hits_of e with ⟨e1, e2⟩ | ⟨e1, e2⟩ <;> omega
/-! ### turned lines -/
def flip (l : Nat × Nat × Int) : Nat × Nat × Int := (l.2.1, l.1, l.2.2)
def turn (ls : List (Nat × Nat × Int)) : List (Nat × Nat × Int) := (ls.map flip).reverse
theorem norm_flip (l : Nat × Nat × Int) : norm (flip l) = norm l := norm_eq (.inr ⟨rfl, rfl⟩)
theorem hits_flip (a b : Nat) (l : Nat × Nat × Int) : hits a b (flip l) = hits a b l := by
  rw [Bool.eq_iff_iff]
  constructor
  · intro h
    rcases hits_of h with ⟨e1, e2⟩ | ⟨e1, e2⟩
    · exact hits_mk (.inr ⟨e2, e1⟩)
    · exact hits_mk (.inl ⟨e2, e1⟩)
  · intro h
    rcases hits_of h with ⟨e1, e2⟩ | ⟨e1, e2⟩
    · exact hits_mk (.inr ⟨e2, e1⟩)
    · exact hits_mk (.inl ⟨e2, e1⟩)
theorem turn_mem {ls : List (Nat × Nat × Int)} {l : Nat × Nat × Int} : l ∈ turn ls ↔ ∃ k ∈ ls, flip k = l := by
  unfold turn
  rw [List.mem_reverse, List.mem_map]
theorem Dist.turn {ls : List (Nat × Nat × Int)} (h : Dist ls) : Dist (turn ls) := ⟨by
  have e : (My.turn ls).map norm = (ls.map norm).reverse := by
    unfold My.turn
    rw [List.map_reverse, List.map_map]
    congr 2
    funext l
    exact norm_flip l
  rw [e]
  exact List.pairwise_reverse.mpr (h.nd.imp fun z => z.symm), fun l hl => by
  obtain ⟨k, hk, rfl⟩ := turn_mem.mp hl
  exact (h.ne k hk).symm⟩
theorem turn_len (ls : List (Nat × Nat × Int)) : (turn ls).length = ls.length := by
  unfold turn
  rw [List.length_reverse, List.length_map]
theorem same_turn {ls : List (Nat × Nat × Int)} (h : Dist ls) : sameD (delaysOf ls) (delaysOf (turn ls)) = true := by
  rw [delays_flat h, delays_flat h.turn]
  unfold sameD
  rw [Bool.and_eq_true]
  refine ⟨by rw [flat_len, flat_len, turn_len, beq_self_eq_true], ?_⟩
  rw [List.all_eq_true]
  intro p hp
  refine decide_eq_true ?_
  have e := valV_of (flat_nodup h) hp
  obtain ⟨l, hl, h1, h2⟩ := flat_mem.mp hp
  rw [e, h2]
  have hf : flip l ∈ turn ls := turn_mem.mpr ⟨l, hl, rfl⟩
  rcases h1 with h1 | h1
  · rw [h1]
    exact flat_val h.turn hf (by rw [hits_flip]; exact hits_mk (.inl ⟨rfl, rfl⟩))
  · rw [h1]
    exact flat_val h.turn hf (by rw [hits_flip]; exact hits_mk (.inr ⟨rfl, rfl⟩))
theorem same_len {ls ks : List (Nat × Nat × Int)} (h : Dist ls) (h' : Dist ks) (e : ls.length ≠ ks.length) : sameD (delaysOf ls) (delaysOf ks) = false := by
  rw [delays_flat h, delays_flat h']
  unfold sameD
  rw [flat_len, flat_len, beq_eq_false_iff_ne.mpr (by omega)]
  rfl
theorem same_other {ls ks : List (Nat × Nat × Int)} (h : Dist ls) (h' : Dist ks) {l k : Nat × Nat × Int} (hl : l ∈ ls) (hk : k ∈ ks) {a b : Nat} (e1 : hits a b l = true) (e2 : hits a b k = true) (e : l.2.2 ≠ k.2.2) : sameD (delaysOf ls) (delaysOf ks) = false := by
  rw [delays_flat h, delays_flat h']
  have v1 := flat_val h hl e1
  have v2 := flat_val h' hk e2
  obtain ⟨p, hp, _, e4⟩ := valV_mem v1
  unfold sameD
  rw [Bool.and_eq_false_iff]
  refine .inr ?_
  rw [List.all_eq_false]
  refine ⟨p, hp, ?_⟩
  rw [e4, v1, v2]
  intro z
  have z := of_decide_eq_true z
  injection z with z
  injection z with z
  exact e z.symm
end My
/-! Paths: what they are, the rows that are found are some; when two are separate. No row of Lean's. -/
namespace My
open PySem PySem.Spec PyProof.Rows L2
structure IsP (N : NetD) (r : List Nat) : Prop where
  two : 2 ≤ r.length
  nd : r.Nodup
  hs : ∀ k, k < r.length → host N (r.getD k 0) = (decide (k = 0) || decide (k + 1 = r.length))
  ad : ∀ k, k + 1 < r.length → adj N (r.getD k 0) (r.getD (k + 1) 0) = true
theorem app_l {r : List Nat} {b k : Nat} (h : k < r.length) : (r ++ [b]).getD k 0 = r.getD k 0 := by
  rw [List.getD_eq_getElem?_getD, List.getElem?_append_left h, ← List.getD_eq_getElem?_getD]
theorem app_r {r : List Nat} {b : Nat} : (r ++ [b]).getD r.length 0 = b := by
  rw [List.getD_eq_getElem?_getD, List.getElem?_append_right (Nat.le_refl _), Nat.sub_self]
  rfl
theorem Row.mids {N : NetD} {a : Nat} {r : List Nat} (h : Row N a r) : r.getD 0 0 = a ∧ (∀ k, 0 < k → k + 1 < r.length → host N (r.getD k 0) = false) ∧ ∀ k, k + 1 < r.length → adj N (r.getD k 0) (r.getD (k + 1) 0) = true := by
  induction h with
  | start => exact ⟨rfl, fun k _ h => by (have : k + 1 < 1 := h); omega, fun k h => by (have : k + 1 < 1 := h); omega⟩
  | @ext r b h1 h2 o hb ih =>
    obtain ⟨i1, i2, i3⟩ := ih
    have hp := h1.pos
    refine ⟨by rw [app_l (by omega)]; exact i1, fun k k0 k1 => ?_, fun k k1 => ?_⟩
    · rw [List.length_append, List.length_singleton] at k1
      rw [app_l (by omega)]
      by_cases e : k + 1 < r.length
      · exact i2 k k0 e
      · have e' : k = r.length - 1 := by omega
        rcases h2 with h2 | h2
        · rw [h2] at e'
          have : k = 0 := e'
          omega
        · unfold lastN at h2
          rw [e']
          exact h2
    · rw [List.length_append, List.length_singleton] at k1
      by_cases e : k + 1 < r.length
      · rw [app_l (by omega), app_l e]
        exact i3 k e
      · have e' : k + 1 = r.length := by omega
        have e2 : k = r.length - 1 := by omega
        rw [app_l (by omega), e', app_r, e2]
        exact (okb_mem o).2
theorem found_is {N : NetD} {t : Nat} {r : List Nat} (h : r ∈ foundOf N t) : IsP N r := by
  obtain ⟨a, ha, hh, hr, h2, _, hl⟩ := (mem_found t r).mp h
  obtain ⟨i1, i2, i3⟩ := hr.mids
  refine ⟨h2, hr.nodup, fun k hk => ?_, i3⟩
  by_cases e0 : k = 0
  · rw [e0, i1, hh]; rfl
  · by_cases e1 : k + 1 = r.length
    · unfold lastN at hl
      have e : k = r.length - 1 := by omega
      rw [e, hl, decide_eq_true (by omega : r.length - 1 + 1 = r.length), Bool.or_true]
    · rw [i2 k (by omega) (by omega), decide_eq_false e0, decide_eq_false e1]; rfl
theorem found_lt {N : NetD} {t : Nat} {r : List Nat} (h : r ∈ foundOf N t) : (∀ x ∈ r, x < N.ks.length) ∧ r.length ≤ t + 1 := by
  obtain ⟨a, ha, hh, hr, h2, h3, hl⟩ := (mem_found t r).mp h
  exact ⟨hr.lt ha, h3⟩
def inner (r : List Nat) : List Nat := (r.drop 1).take (r.length - 1 - 1)
def portsOf (r : List Nat) : List (Nat × Nat) := r.zip (r.drop 1)
theorem mem_inner {r : List Nat} {x : Nat} : x ∈ inner r ↔ ∃ k, 0 < k ∧ k + 1 < r.length ∧ r.getD k 0 = x := by
  unfold inner
  constructor
  · intro h
    obtain ⟨i, e⟩ := List.mem_iff_getElem?.mp h
    rw [List.getElem?_take] at e
    split at e
    · rename_i hi
      rw [List.getElem?_drop] at e
      exact ⟨1 + i, by omega, by omega, by rw [List.getD_eq_getElem?_getD, e]; rfl⟩
    · cases e
  · rintro ⟨k, k0, k1, e⟩
    refine List.mem_iff_getElem?.mpr ⟨k - 1, ?_⟩
    rw [List.getElem?_take, if_pos (by omega), List.getElem?_drop, show 1 + (k - 1) = k by omega, getD_at 0 (by omega), e]
theorem mem_ports {r : List Nat} {p : Nat × Nat} : p ∈ portsOf r ↔ ∃ k, k + 1 < r.length ∧ p = (r.getD k 0, r.getD (k + 1) 0) := by
  unfold portsOf
  constructor
  · intro h
    obtain ⟨i, e⟩ := List.mem_iff_getElem?.mp h
    rw [List.getElem?_zip_eq_some] at e
    obtain ⟨e1, e2⟩ := e
    rw [List.getElem?_drop] at e2
    obtain ⟨h2, _⟩ := List.getElem?_eq_some_iff.mp e2
    refine ⟨i, by omega, ?_⟩
    obtain ⟨p1, p2⟩ := p
    rw [List.getD_eq_getElem?_getD, List.getD_eq_getElem?_getD, e1, Nat.add_comm i 1, e2]
    rfl
  · rintro ⟨k, hk, e⟩
    refine List.mem_iff_getElem?.mpr ⟨k, ?_⟩
    rw [List.getElem?_zip_eq_some, List.getElem?_drop, e, Nat.add_comm 1 k]
    exact ⟨getD_at 0 (by omega), getD_at 0 hk⟩
theorem ports_len (r : List Nat) : (portsOf r).length = r.length - 1 := by
  unfold portsOf
  rw [List.length_zip, List.length_drop]
  omega
theorem ports_at {r : List Nat} {k : Nat} (hk : k + 1 < r.length) : (portsOf r)[k]? = some (r.getD k 0, r.getD (k + 1) 0) := by
  unfold portsOf
  rw [List.getElem?_zip_eq_some, List.getElem?_drop, Nat.add_comm 1 k]
  exact ⟨getD_at 0 (by omega), getD_at 0 hk⟩
theorem getD_in {r : List Nat} {k : Nat} (h : k < r.length) : r.getD k 0 ∈ r := List.mem_iff_getElem?.mpr ⟨k, getD_at 0 h⟩
theorem IsP.in_inner {N : NetD} {r : List Nat} (h : IsP N r) {x : Nat} (hx : x ∈ r) (e : host N x = false) : x ∈ inner r := by
  obtain ⟨k, ek⟩ := List.mem_iff_getElem?.mp hx
  obtain ⟨hk, _⟩ := List.getElem?_eq_some_iff.mp ek
  have ex : r.getD k 0 = x := by rw [List.getD_eq_getElem?_getD, ek]; rfl
  have := h.hs k hk
  rw [ex, e] at this
  have this := this.symm
  rw [Bool.or_eq_false_iff, decide_eq_false_iff_not, decide_eq_false_iff_not] at this
  exact mem_inner.mpr ⟨k, by omega, by omega, ex⟩
theorem IsP.inner_sw {N : NetD} {r : List Nat} (h : IsP N r) {x : Nat} (hx : x ∈ inner r) : x ∈ r ∧ host N x = false := by
  obtain ⟨k, k0, k1, e⟩ := mem_inner.mp hx
  refine ⟨by rw [← e]; exact getD_in (by omega), ?_⟩
  rw [← e, h.hs k (by omega), decide_eq_false (by omega), decide_eq_false (by omega)]
  rfl
/-- a port of a path of more than two nodes has a switch in it -/
theorem IsP.port_sw {N : NetD} {r : List Nat} (h : IsP N r) (h2 : 2 < r.length) {p : Nat × Nat} (hp : p ∈ portsOf r) : (p.1 ∈ r ∧ host N p.1 = false) ∨ (p.2 ∈ r ∧ host N p.2 = false) := by
  obtain ⟨k, hk, rfl⟩ := mem_ports.mp hp
  by_cases e : k = 0
  · refine .inr ⟨getD_in hk, ?_⟩
    show host N (r.getD (k + 1) 0) = false
    rw [h.hs (k + 1) hk, decide_eq_false (by omega), decide_eq_false (by omega)]
    rfl
  · refine .inl ⟨getD_in (by omega), ?_⟩
    show host N (r.getD k 0) = false
    rw [h.hs k (by omega), decide_eq_false (by omega), decide_eq_false (by omega)]
    rfl
theorem port_both {r : List Nat} {p : Nat × Nat} (hp : p ∈ portsOf r) : p.1 ∈ r ∧ p.2 ∈ r := by
  obtain ⟨k, hk, rfl⟩ := mem_ports.mp hp
  exact ⟨getD_in (by omega), getD_in hk⟩
def sepA (r s : List Nat) : Bool := ((inner r).filter fun x => s.contains x).isEmpty && ((portsOf r).filter fun p => (portsOf s).contains p).isEmpty
def sepB (r s : List Nat) : Bool := ((inner r).all fun x => !(inner s).contains x) && (decide (2 < r.length) || decide (2 < s.length))
theorem sep_eq {N : NetD} {r s : List Nat} (hr : IsP N r) (hs : IsP N s) (e0 : r.getD 0 0 = s.getD 0 0) (e1 : lastN r = lastN s) : sepA r s = sepB r s := by
  have hA : sepA r s = true ↔ (∀ x ∈ inner r, x ∉ s) ∧ ∀ p ∈ portsOf r, p ∉ portsOf s := by
    unfold sepA
    rw [Bool.and_eq_true, List.isEmpty_iff, List.isEmpty_iff, List.filter_eq_nil_iff, List.filter_eq_nil_iff]
    simp
  have hB : sepB r s = true ↔ (∀ x ∈ inner r, x ∉ inner s) ∧ (2 < r.length ∨ 2 < s.length) := by
    unfold sepB
    rw [Bool.and_eq_true, List.all_eq_true, Bool.or_eq_true, decide_eq_true_eq, decide_eq_true_eq]
    simp
  rw [Bool.eq_iff_iff, hA, hB]
  constructor
  · rintro ⟨h1, h2⟩
    refine ⟨fun x hx hy => h1 x hx (hs.inner_sw hy).1, ?_⟩
    by_cases q : 2 < r.length ∨ 2 < s.length
    · exact q
    · have r2 : r.length = 2 := by have := hr.two; omega
      have s2 : s.length = 2 := by have := hs.two; omega
      unfold lastN at e1
      rw [r2, s2] at e1
      refine absurd (mem_ports.mpr ⟨0, by omega, ?_⟩) (h2 (r.getD 0 0, r.getD 1 0) (mem_ports.mpr ⟨0, by omega, rfl⟩))
      rw [e0, show r.getD 1 0 = s.getD 1 0 from e1]
  · rintro ⟨h1, h2⟩
    have h3 : ∀ x, x ∈ r → x ∈ s → host N x = false → False := fun x hx hy hh => h1 x (hr.in_inner hx hh) (hs.in_inner hy hh)
    refine ⟨fun x hx hy => h3 x (hr.inner_sw hx).1 hy (hr.inner_sw hx).2, fun p hp hq => ?_⟩
    obtain ⟨p1, p2⟩ := port_both hp
    obtain ⟨q1, q2⟩ := port_both hq
    rcases h2 with h2 | h2
    · rcases hr.port_sw h2 hp with ⟨_, z⟩ | ⟨_, z⟩
      · exact h3 _ p1 q1 z
      · exact h3 _ p2 q2 z
    · rcases hs.port_sw h2 hq with ⟨_, z⟩ | ⟨_, z⟩
      · exact h3 _ p1 q1 z
      · exact h3 _ p2 q2 z
end My
/-! The search level by level gives the least of the shortest rows. -/
namespace My
open PySem PySem.Spec PyProof.Rows L2
/-- a level's fold, pair by pair -/
def pairsOf (A : Nat → List Nat) (L : List Nat) : List (Nat × Nat) := L.flatMap fun u => (A u).map fun v => (u, v)
def visitP (st : Ways × List Nat) (p : Nat × Nat) : Ways × List Nat := visit p.1 st p.2
theorem foldl_pairs1 (u : Nat) : ∀ (l : List Nat) (st : Ways × List Nat), l.foldl (visit u) st = (l.map fun v => (u, v)).foldl visitP st
  | [], _ => rfl
  | v :: r, st => foldl_pairs1 u r (visit u st v)
theorem foldl_pairs (A : Nat → List Nat) : ∀ (L : List Nat) (st : Ways × List Nat), L.foldl (fun s u => (A u).foldl (visit u) s) st = (pairsOf A L).foldl visitP st
  | [], _ => rfl
  | u :: r, st => by
    show r.foldl _ ((A u).foldl (visit u) st) = _
    rw [foldl_pairs A r, foldl_pairs1]
    show _ = (((A u).map fun v => (u, v)) ++ pairsOf A r).foldl visitP st
    rw [List.foldl_append]
/-- the way that a pair gives -/
def wayP (W : Ways) (p : Nat × Nat) : List Nat := (W p.1).getD [] ++ [p.2]
/-- within a level: the pairs of `done` are through -/
structure Mid (W0 : Ways) (done : List (Nat × Nat)) (st : Ways × List Nat) : Prop where
  val : ∀ v, st.1 v = match W0 v with | some r => some r | none => (done.find? fun p => p.2 == v).map (wayP W0)
  mem : ∀ v, v ∈ st.2 ↔ W0 v = none ∧ (st.1 v).isSome = true
  ord : st.2.Pairwise fun v v' => ∀ r r', st.1 v = some r → st.1 v' = some r' → lexlt r r'
theorem Mid.start (W0 : Ways) : Mid W0 [] (W0, []) := by
  refine ⟨fun v => ?_, fun v => ⟨(fun h => by cases h), fun ⟨h1, h2⟩ => ?_⟩, List.Pairwise.nil⟩
  · show W0 v = _
    cases W0 v <;> rfl
  · have h2 : (W0 v).isSome = true := h2
    rw [h1] at h2
    cases h2
theorem Mid.step {W0 : Ways} {done : List (Nat × Nat)} {st : Ways × List Nat} {p : Nat × Nat} (h : Mid W0 done st) (hs : (done ++ [p]).Pairwise fun q q' => lexlt (wayP W0 q) (wayP W0 q')) (hu : (W0 p.1).isSome = true) : Mid W0 (done ++ [p]) (visitP st p) := by
  obtain ⟨u, v⟩ := p
  have hval := h.val v
  by_cases e : (st.1 v).isSome = true
  · have ev : visitP st (u, v) = st := visit_some e
    rw [ev]
    refine ⟨fun x => ?_, h.mem, h.ord⟩
    rw [h.val x]
    cases e0 : W0 x with
    | some r => rfl
    | none =>
      show (done.find? fun p => p.2 == x).map (wayP W0) = ((done ++ [(u, v)]).find? fun p => p.2 == x).map (wayP W0)
      rw [List.find?_append]
      cases e1 : done.find? fun p => p.2 == x with
      | some q => rfl
      | none =>
        have hx : ¬ v = x := fun z => by
          subst z
          rw [hval, e0, e1] at e
          cases e
        have : (v == x) = false := beq_eq_false_iff_ne.mpr hx
        show Option.map (wayP W0) none = Option.map (wayP W0) ([(u, v)].find? fun p => p.2 == x)
        rw [List.find?_cons, this]
        rfl
  · have en : st.1 v = none := by
      cases z : st.1 v with
      | none => rfl
      | some y => rw [z] at e; exact absurd rfl e
    have e0 : W0 v = none := by
      cases z : W0 v with
      | none => rfl
      | some y => rw [z] at hval; rw [hval] at en; cases en
    have e1 : (done.find? fun p => p.2 == v) = none := by
      rw [e0, en] at hval
      cases z : done.find? fun p => p.2 == v with
      | none => rfl
      | some y => rw [z] at hval; cases hval
    have eu : st.1 u = W0 u := by
      obtain ⟨r, hr⟩ := Option.isSome_iff_exists.mp hu
      have hr : W0 u = some r := hr
      rw [h.val u, hr]
    have ev : visitP st (u, v) = (setW st.1 v (wayP W0 (u, v)), st.2 ++ [v]) := by
      show visit u st v = _
      rw [visit_none e, eu]
      rfl
    rw [ev]
    have hne : ∀ x, x ∈ st.2 → ¬ x = v := fun x hx z => by
      have := ((h.mem x).mp hx).2
      rw [z, en] at this
      cases this
    refine ⟨fun x => ?_, fun x => ?_, ?_⟩
    · show setW st.1 v (wayP W0 (u, v)) x = _
      unfold setW
      by_cases ex : x = v
      · subst ex
        rw [if_pos rfl, e0]
        show some (wayP W0 (u, x)) = ((done ++ [(u, x)]).find? fun p => p.2 == x).map (wayP W0)
        rw [List.find?_append, e1, List.find?_cons, show (x == x) = true from beq_self_eq_true x]
        rfl
      · rw [if_neg ex, h.val x]
        cases W0 x with
        | some r => rfl
        | none =>
          show (done.find? fun p => p.2 == x).map (wayP W0) = ((done ++ [(u, v)]).find? fun p => p.2 == x).map (wayP W0)
          rw [List.find?_append]
          cases done.find? fun p => p.2 == x with
          | some q => rfl
          | none =>
            have : (v == x) = false := beq_eq_false_iff_ne.mpr fun z => ex z.symm
            show Option.map (wayP W0) none = Option.map (wayP W0) ([(u, v)].find? fun p => p.2 == x)
            rw [List.find?_cons, this]
            rfl
    · show x ∈ st.2 ++ [v] ↔ W0 x = none ∧ (setW st.1 v (wayP W0 (u, v)) x).isSome = true
      unfold setW
      rw [List.mem_append, List.mem_singleton]
      by_cases ex : x = v
      · subst ex
        rw [if_pos rfl]
        exact ⟨fun _ => ⟨e0, rfl⟩, fun _ => .inr rfl⟩
      · rw [if_neg ex, h.mem x]
        exact ⟨fun q => q.resolve_right ex, fun q => .inl q⟩
    · show (st.2 ++ [v]).Pairwise _
      rw [List.pairwise_append]
      refine ⟨List.Pairwise.imp_of_mem (fun {x y} hx hy hr r r' h1 h2 => ?_) h.ord, List.pairwise_singleton _ _, fun x hx y hy r r' h1 h2 => ?_⟩
      · have h1 : setW st.1 v (wayP W0 (u, v)) x = some r := h1
        have h2 : setW st.1 v (wayP W0 (u, v)) y = some r' := h2
        unfold setW at h1 h2
        rw [if_neg (hne x hx)] at h1
        rw [if_neg (hne y hy)] at h2
        exact hr r r' h1 h2
      · rw [List.mem_singleton.mp hy] at h2
        have h1 : setW st.1 v (wayP W0 (u, v)) x = some r := h1
        have h2 : setW st.1 v (wayP W0 (u, v)) v = some r' := h2
        unfold setW at h1 h2
        rw [if_neg (hne x hx)] at h1
        rw [if_pos rfl] at h2
        cases h2
        rw [h.val x, ((h.mem x).mp hx).1] at h1
        obtain ⟨q, hq, rfl⟩ := Option.map_eq_some_iff.mp h1
        have hqm : q ∈ done := List.mem_of_find?_eq_some hq
        rw [List.pairwise_append] at hs
        exact hs.2.2 q hqm (u, v) (List.mem_singleton.mpr rfl)
theorem Mid.fold {W0 : Ways} : ∀ (l done : List (Nat × Nat)) {st : Ways × List Nat}, Mid W0 done st → (done ++ l).Pairwise (fun q q' => lexlt (wayP W0 q) (wayP W0 q')) → (∀ p ∈ l, (W0 p.1).isSome = true) → Mid W0 (done ++ l) (l.foldl visitP st)
  | [], done, _, h, _, _ => by rw [List.append_nil]; exact h
  | p :: r, done, st, h, hs, hu => by
    have e : done ++ p :: r = (done ++ [p]) ++ r := by rw [List.append_assoc]; rfl
    rw [e] at hs ⊢
    refine Mid.fold r (done ++ [p]) (h.step ?_ (hu p List.mem_cons_self)) hs fun q hq => hu q (List.mem_cons_of_mem _ hq)
    exact (List.pairwise_append.mp hs).1
/-! ### the levels -/
def arcsOf (N : NetD) (first a : Nat) : List Nat := if decide (a = first) || !host N a then nbs N a else []
theorem arcs_pw (N : NetD) (a u : Nat) : (arcsOf N a u).Pairwise (· < ·) := by
  unfold arcsOf nbs
  split
  · exact (range_pw _).filter _
  · exact List.Pairwise.nil
theorem mem_arcs {N : NetD} {a u v : Nat} : v ∈ arcsOf N a u ↔ (u = a ∨ host N u = false) ∧ v < N.ks.length ∧ adj N u v = true := by
  unfold arcsOf nbs
  by_cases e : (decide (u = a) || !host N u) = true
  · rw [if_pos e, List.mem_filter, List.mem_range]
    rw [Bool.or_eq_true, decide_eq_true_eq, Bool.not_eq_true'] at e
    exact ⟨fun h => ⟨e, h⟩, fun h => h.2⟩
  · rw [if_neg e]
    rw [Bool.or_eq_true, decide_eq_true_eq, Bool.not_eq_true'] at e
    exact ⟨(fun h => by cases h), fun h => absurd h.1 e⟩
theorem rle_len {x y : List Nat} (h : rle x y) : x.length ≤ y.length := by
  rcases h with rfl | h | ⟨h, _⟩
  · exact Nat.le_refl _
  · omega
  · omega
structure Lv (N : NetD) (a t : Nat) (st : Ways × List Nat) : Prop where
  row : ∀ v r, st.1 v = some r → Row N a r ∧ lastN r = v ∧ r.length ≤ t + 1 ∧ ∀ x, Row N a x → lastN x = v → rle r x
  all : ∀ x, Row N a x → x.length ≤ t + 1 → (st.1 (lastN x)).isSome = true
  mem : ∀ u, u ∈ st.2 ↔ ∃ r, st.1 u = some r ∧ r.length = t + 1
  ord : st.2.Pairwise fun u u' => ∀ r r', st.1 u = some r → st.1 u' = some r' → lexlt r r'
theorem lv_zero (N : NetD) (a : Nat) : Lv N a 0 (lev (arcsOf N a) a 0) := by
  have ev : ∀ v, (lev (arcsOf N a) a 0).1 v = if v = a then some [a] else none := fun v => rfl
  refine ⟨fun v r h => ?_, fun x hx hl => ?_, fun u => ?_, List.pairwise_singleton _ _⟩
  · rw [ev] at h
    by_cases e : v = a
    · rw [if_pos e] at h
      cases h
      refine ⟨.start, e.symm ▸ rfl, Nat.le_refl _, fun x hx _ => ?_⟩
      rcases hx.split with rfl | ⟨y, b, rfl, h1, _⟩
      · exact .inl rfl
      · refine .inr (.inl ?_)
        have := h1.pos
        rw [List.length_append, List.length_singleton, List.length_singleton]
        omega
    · rw [if_neg e] at h; cases h
  · rcases hx.split with rfl | ⟨y, b, rfl, h1, _⟩
    · rw [lastN_one, ev, if_pos rfl]; rfl
    · have := h1.pos
      rw [List.length_append, List.length_singleton] at hl
      omega
  · show u ∈ [a] ↔ _
    rw [List.mem_singleton]
    constructor
    · intro e
      exact ⟨[a], by rw [ev, if_pos e], rfl⟩
    · rintro ⟨r, h, _⟩
      rw [ev] at h
      by_cases e : u = a
      · exact e
      · rw [if_neg e] at h; cases h
theorem mem_pairs {A : Nat → List Nat} {L : List Nat} {p : Nat × Nat} : p ∈ pairsOf A L ↔ p.1 ∈ L ∧ p.2 ∈ A p.1 := by
  unfold pairsOf
  rw [List.mem_flatMap]
  constructor
  · rintro ⟨u, hu, h⟩
    obtain ⟨v, hv, rfl⟩ := List.mem_map.mp h
    exact ⟨hu, hv⟩
  · rintro ⟨h1, h2⟩
    exact ⟨p.1, h1, List.mem_map.mpr ⟨p.2, h2, rfl⟩⟩
theorem pairs_pw {N : NetD} {a t : Nat} {st : Ways × List Nat} (h : Lv N a t st) : (pairsOf (arcsOf N a) st.2).Pairwise fun q q' => lexlt (wayP st.1 q) (wayP st.1 q') := by
  unfold pairsOf
  rw [List.pairwise_flatMap]
  refine ⟨fun u hu => ?_, List.Pairwise.imp_of_mem (fun {u u'} hu hu' hr p hp q hq => ?_) h.ord⟩
  · exact List.Pairwise.map _ (fun v v' hv => lex_one hv _) (arcs_pw N a u)
  · obtain ⟨v, _, rfl⟩ := List.mem_map.mp hp
    obtain ⟨v', _, rfl⟩ := List.mem_map.mp hq
    obtain ⟨r, h1, _⟩ := (h.mem u).mp hu
    obtain ⟨r', h2, _⟩ := (h.mem u').mp hu'
    unfold wayP
    show lexlt ((st.1 u).getD [] ++ [v]) ((st.1 u').getD [] ++ [v'])
    rw [h1, h2]
    exact lex_app1 _ _ (hr r r' h1 h2)
theorem find_least {W : Ways} {v : Nat} {p q : Nat × Nat} : ∀ {l : List (Nat × Nat)}, l.Pairwise (fun q q' => lexlt (wayP W q) (wayP W q')) → (l.find? fun p => p.2 == v) = some p → q ∈ l → q.2 = v → q = p ∨ lexlt (wayP W p) (wayP W q)
  | [], _, h, _, _ => by cases h
  | x :: t, hs, h, hq, e => by
    rw [List.pairwise_cons] at hs
    rw [List.find?_cons] at h
    cases hx : x.2 == v with
    | true =>
      rw [hx] at h
      cases h
      rcases List.mem_cons.mp hq with z | z
      · exact .inl z
      · exact .inr (hs.1 q z)
    | false =>
      rw [hx] at h
      rcases List.mem_cons.mp hq with z | z
      · rw [z] at e
        rw [e, beq_self_eq_true] at hx
        cases hx
      · exact find_least hs.2 h z e
theorem lv_succ {N : NetD} {a t : Nat} (ha : a < N.ks.length) (h : Lv N a t (lev (arcsOf N a) a t)) : Lv N a (t + 1) (lev (arcsOf N a) a (t + 1)) := by
  generalize hst : lev (arcsOf N a) a t = st at h
  have e1 : lev (arcsOf N a) a (t + 1) = (pairsOf (arcsOf N a) st.2).foldl visitP (st.1, []) := by
    show levStep (arcsOf N a) (lev (arcsOf N a) a t) = _
    rw [hst]
    exact foldl_pairs _ _ _
  have hL : ∀ p ∈ pairsOf (arcsOf N a) st.2, ∃ r, st.1 p.1 = some r ∧ r.length = t + 1 := fun p hp => (h.mem p.1).mp (mem_pairs.mp hp).1
  have M : Mid st.1 (pairsOf (arcsOf N a) st.2) ((pairsOf (arcsOf N a) st.2).foldl visitP (st.1, [])) := by
    have := Mid.fold (pairsOf (arcsOf N a) st.2) [] (Mid.start st.1) (by rw [List.nil_append]; exact pairs_pw h) fun p hp => by
      obtain ⟨r, hr, _⟩ := hL p hp
      rw [hr]; rfl
    rw [List.nil_append] at this
    exact this
  rw [e1]
  generalize hs2 : (pairsOf (arcsOf N a) st.2).foldl visitP (st.1, []) = st2 at M
  have hpw := pairs_pw h
  -- a node that is not yet there is in no row that is as short
  have notin : ∀ v, st.1 v = none → ∀ r, Row N a r → r.length ≤ t + 1 → v ∉ r := fun v hv r hr hl m => by
    obtain ⟨x, x1, x2, x3⟩ := hr.pre v m
    have := h.all x x1 (by omega)
    rw [x2, hv] at this
    cases this
  -- a row one longer comes from a pair
  have from_ : ∀ x, Row N a x → x.length ≤ t + 2 → st.1 (lastN x) = none → ∃ y b, x = y ++ [b] ∧ y.length = t + 1 ∧ ∃ r', st.1 (lastN y) = some r' ∧ r'.length = t + 1 ∧ rle r' y ∧ (lastN y, b) ∈ pairsOf (arcsOf N a) st.2 := fun x hx hl hv => by
    have hlen : ¬ x.length ≤ t + 1 := fun z => by
      have := h.all x hx z
      rw [hv] at this
      cases this
    rcases hx.split with rfl | ⟨y, b, rfl, y1, y2, o, hb⟩
    · rw [List.length_singleton] at hlen; omega
    · rw [List.length_append, List.length_singleton] at hl hlen
      rw [lastN_app] at hv
      have yl : y.length = t + 1 := by omega
      obtain ⟨r', hr'⟩ := Option.isSome_iff_exists.mp (h.all y y1 (by omega))
      obtain ⟨w1, w2, w3, w4⟩ := h.row _ _ hr'
      have hle := w4 y y1 rfl
      have hu : lastN y = a ∨ host N (lastN y) = false := y2.imp (fun z => by rw [z]; rfl) id
      have hadj := (okb_mem o).2
      have hr'l : r'.length = t + 1 := by
        rcases Nat.lt_or_ge r'.length (t + 1) with z | z
        · exfalso
          have hbn : b ∉ r' := notin b hv r' w1 w3
          have hx2 : Row N a (r' ++ [b]) := by
            refine .ext w1 ?_ (okb_of hbn (by rw [w2]; exact hadj)) hb
            rcases hu with q | q
            · exact .inl (w1.back (by rw [w2]; exact q))
            · exact .inr (by rw [w2]; exact q)
          have := h.all _ hx2 (by rw [List.length_append, List.length_singleton]; omega)
          rw [lastN_app, hv] at this
          cases this
        · omega
      exact ⟨y, b, rfl, yl, r', hr', hr'l, hle, mem_pairs.mpr ⟨(h.mem _).mpr ⟨r', hr', hr'l⟩, mem_arcs.mpr ⟨hu, hb, hadj⟩⟩⟩
  refine ⟨fun v r hr => ?_, fun x hx hl => ?_, fun u => ?_, M.ord⟩
  · rw [M.val v] at hr
    cases e0 : st.1 v with
    | some r0 =>
      rw [e0] at hr
      cases hr
      obtain ⟨w1, w2, w3, w4⟩ := h.row v r e0
      exact ⟨w1, w2, by omega, w4⟩
    | none =>
      rw [e0] at hr
      obtain ⟨p, hp, rfl⟩ := Option.map_eq_some_iff.mp hr
      have hpm := List.mem_of_find?_eq_some hp
      have hp2 : p.2 = v := by
        have := List.find?_some hp
        exact beq_iff_eq.mp this
      obtain ⟨ru, hru, hrul⟩ := hL p hpm
      obtain ⟨w1, w2, w3, w4⟩ := h.row p.1 ru hru
      obtain ⟨c1, c2, c3⟩ := mem_arcs.mp (mem_pairs.mp hpm).2
      have ew : wayP st.1 p = ru ++ [v] := by
        unfold wayP
        rw [hru, hp2]
        rfl
      rw [ew]
      have hvn : v ∉ ru := notin v e0 ru w1 w3
      have hrow : Row N a (ru ++ [v]) := by
        refine .ext w1 ?_ (okb_of hvn (by rw [w2, ← hp2]; exact c3)) (by rw [← hp2]; exact c2)
        rcases c1 with q | q
        · exact .inl (w1.back (by rw [w2]; exact q))
        · exact .inr (by rw [w2]; exact q)
      refine ⟨hrow, lastN_app _ _, by rw [List.length_append, List.length_singleton]; omega, fun x hx hv => ?_⟩
      by_cases hl : x.length ≤ t + 2
      · obtain ⟨y, b, rfl, yl, r', hr', hr'l, hle, hpair⟩ := from_ x hx hl (by rw [hv]; exact e0)
        rw [lastN_app] at hv
        have ewq : wayP st.1 (lastN y, b) = r' ++ [b] := by
          unfold wayP
          rw [hr']
          rfl
        have key : rle (ru ++ [v]) (r' ++ [b]) := by
          rcases find_least hpw hp hpair hv with z | z
          · rw [← ew, ← ewq, z]
            exact .inl rfl
          · rw [ew, ewq] at z
            exact .inr (.inr ⟨by rw [List.length_append, List.length_append, hrul, hr'l]; rfl, z⟩)
        have key2 : rle (r' ++ [b]) (y ++ [b]) := by
          rcases hle with z | z | ⟨_, z⟩
          · rw [z]; exact .inl rfl
          · omega
          · exact .inr (.inr ⟨by rw [List.length_append, List.length_append, yl, hr'l], lex_app1 _ _ z⟩)
        rcases key with z | z
        · rw [z]; exact key2
        · rcases key2 with z2 | z2
          · rw [← z2]; exact .inr z
          · exact .inr (rlt_trans z z2)
      · refine .inr (.inl ?_)
        rw [List.length_append, List.length_singleton]
        omega
  · rw [M.val]
    cases e0 : st.1 (lastN x) with
    | some r0 => rfl
    | none =>
      obtain ⟨y, b, rfl, yl, r', hr', hr'l, hle, hpair⟩ := from_ x hx hl e0
      rw [lastN_app]
      show (Option.map (wayP st.1) _).isSome = true
      rw [Option.isSome_map, List.find?_isSome]
      exact ⟨_, hpair, beq_iff_eq.mpr rfl⟩
  · rw [M.mem u]
    constructor
    · rintro ⟨e0, e2⟩
      have hv := M.val u
      rw [e0] at hv
      rw [hv] at e2
      obtain ⟨r, hr⟩ := Option.isSome_iff_exists.mp e2
      refine ⟨r, by rw [hv]; exact hr, ?_⟩
      obtain ⟨p, hp, rfl⟩ := Option.map_eq_some_iff.mp hr
      obtain ⟨ru, hru, hrul⟩ := hL p (List.mem_of_find?_eq_some hp)
      unfold wayP
      rw [hru, List.length_append]
      show ru.length + 1 = _
      rw [hrul]
    · rintro ⟨r, hr, hrl⟩
      refine ⟨?_, by rw [hr]; rfl⟩
      cases e0 : st.1 u with
      | none => rfl
      | some r0 =>
        have hv := M.val u
        rw [e0] at hv
        rw [hv] at hr
        cases hr
        obtain ⟨_, _, w3, _⟩ := h.row u r e0
        omega
theorem lv_all {N : NetD} {a : Nat} (ha : a < N.ks.length) : ∀ t, Lv N a t (lev (arcsOf N a) a t)
  | 0 => lv_zero N a
  | t + 1 => lv_succ ha (lv_all ha t)
/-- no level is longer than there are nodes -/
theorem lev_stop {N : NetD} {a : Nat} (ha : a < N.ks.length) : (lev (arcsOf N a) a N.ks.length).2 = [] := by
  have h := lv_all ha N.ks.length
  cases e : (lev (arcsOf N a) a N.ks.length).2 with
  | nil => rfl
  | cons u t =>
    obtain ⟨r, hr, hl⟩ := (h.mem u).mp (by rw [e]; exact List.mem_cons_self)
    obtain ⟨w1, _⟩ := h.row u r hr
    have := nodup_lt N.ks.length r w1.nodup (w1.lt ha)
    omega
/-- a row between hosts has at most two nodes more than there are switches -/
theorem nodup_sub : ∀ {l m : List Nat}, l.Nodup → (∀ x ∈ l, x ∈ m) → l.length ≤ m.length
  | [], _, _, _ => Nat.zero_le _
  | x :: l, m, hd, hs => by
    rw [List.nodup_cons] at hd
    have hx := hs x List.mem_cons_self
    have ih := nodup_sub (l := l) (m := m.erase x) hd.2 fun y hy => (List.mem_erase_of_ne (fun z => hd.1 (by rw [← z]; exact hy))).mpr (hs y (List.mem_cons_of_mem _ hy))
    rw [List.length_erase_of_mem hx] at ih
    have := List.length_pos_of_mem hx
    rw [List.length_cons]
    omega
theorem count_range (p : Nat → Bool) (ks : List Bool) (off : Nat) (hp : ∀ i, i < ks.length → p (off + i) = !(ks.getD i true)) : ((List.range' off ks.length).filter p).length = ks.count false := by
  induction ks generalizing off with
  | nil => rfl
  | cons b r ih =>
    have h0 := hp 0 (by rw [List.length_cons]; omega)
    have h0 : p off = !b := h0
    have ih := ih (off + 1) fun i hi => by
      have := hp (i + 1) (by rw [List.length_cons]; omega)
      rw [show off + 1 + i = off + (i + 1) by omega, this]
      rfl
    rw [List.length_cons, List.range'_succ, List.filter_cons, List.count_cons, h0]
    cases b with
    | true =>
      show ((List.range' (off + 1) r.length).filter p).length = _
      rw [ih]
      rfl
    | false =>
      show ((List.range' (off + 1) r.length).filter p).length + 1 = _
      rw [ih]
      rfl
theorem switches_len (N : NetD) : ((List.range N.ks.length).filter fun a => !host N a).length = N.ks.count false := by
  rw [List.range_eq_range']
  refine count_range _ N.ks 0 fun i _ => ?_
  unfold host
  rw [Nat.zero_add]
/-- all but the first and the last are switches -/
theorem Row.inner {N : NetD} {a : Nat} {r : List Nat} (h : Row N a r) (ha : a < N.ks.length) : ∃ m, (r = [a] ∧ m = []) ∨ (∃ b, r = a :: (m ++ [b])) ∧ m.Nodup ∧ ∀ x ∈ m, x < N.ks.length ∧ host N x = false := by
  induction h with
  | start => exact ⟨[], .inl ⟨rfl, rfl⟩⟩
  | @ext r b h1 h2 o hb ih =>
    obtain ⟨m, z⟩ := ih
    rcases z with ⟨z, _⟩ | ⟨⟨c, z⟩, m1, m2⟩
    · exact ⟨[], .inr ⟨⟨b, by rw [z]; rfl⟩, List.nodup_nil, fun x hx => by cases hx⟩⟩
    · refine ⟨m ++ [c], .inr ⟨⟨b, by rw [z]; rfl⟩, ?_, ?_⟩⟩
      · have := h1.nodup
        rw [z, List.nodup_cons] at this
        exact this.2
      · intro x hx
        rcases List.mem_append.mp hx with q | q
        · exact m2 x q
        · rw [List.mem_singleton.mp q]
          have hl : lastN r = c := by
            rw [z]
            exact lastN_app (a :: m) c
          refine ⟨h1.lt ha c (by rw [z]; simp), ?_⟩
          rcases h2 with y | y
          · rw [z] at y
            have := congrArg List.length y
            rw [List.length_cons, List.length_append] at this
            simp at this
          · rw [← hl]; exact y
theorem Row.short {N : NetD} {a : Nat} {r : List Nat} (h : Row N a r) (ha : a < N.ks.length) : r.length ≤ N.ks.count false + 2 := by
  obtain ⟨m, z⟩ := h.inner ha
  rcases z with ⟨z, _⟩ | ⟨⟨b, z⟩, m1, m2⟩
  · rw [z, List.length_singleton]; omega
  · have := nodup_sub (m := (List.range N.ks.length).filter fun a => !host N a) m1 fun x hx => by
      obtain ⟨y1, y2⟩ := m2 x hx
      exact List.mem_filter.mpr ⟨List.mem_range.mpr y1, by rw [y2]; rfl⟩
    rw [switches_len] at this
    rw [z, List.length_cons, List.length_append, List.length_singleton]
    omega
/-- THE POINT: the search's way is the first row found -/
theorem way_is_found {N : NetD} {a b T : Nat} (ha : a < N.ks.length) (ha2 : host N a = true) (hb : host N b = true) (hab : a ≠ b) (hT : N.ks.count false + 1 ≤ T) : (lev (arcsOf N a) a N.ks.length).1 b = (foundOf N T).find? (matchP a b) := by
  have h := lv_all ha N.ks.length
  have two : ∀ x, Row N a x → lastN x = b → 2 ≤ x.length := fun x hx e => by
    rcases hx.split with rfl | ⟨y, c, rfl, y1, _⟩
    · exact absurd e hab
    · have := y1.pos
      rw [List.length_append, List.length_singleton]
      omega
  have inF : ∀ x, Row N a x → lastN x = b → x ∈ foundOf N T := fun x hx e => by
    have := hx.short ha
    exact (mem_found _ _).mpr ⟨a, ha, ha2, hx, two x hx e, by omega, by rw [e]; exact hb⟩
  cases e : (lev (arcsOf N a) a N.ks.length).1 b with
  | none =>
    symm
    rw [List.find?_eq_none]
    intro x hx m
    obtain ⟨c, _, _, h3, _⟩ := (mem_found _ _).mp hx
    obtain ⟨rfl, e2⟩ := matchP_row h3 m
    have := h.all x h3 (by have := nodup_lt N.ks.length x h3.nodup (h3.lt ha); omega)
    rw [e2, e] at this
    cases this
  | some r =>
    obtain ⟨w1, w2, w3, w4⟩ := h.row b r e
    symm
    refine find_first (found_pw T) (inF r w1 w2) (row_matchP w1 w2) fun x hx m => ?_
    obtain ⟨c, _, _, h3, _⟩ := (mem_found _ _).mp hx
    obtain ⟨rfl, e2⟩ := matchP_row h3 m
    exact w4 x h3 e2
end My
/-! Rows as data: ==, < of pairs (len(row), row). -/
namespace My
open PySem PySem.Spec PyProof.Rows L2
def dList (r : List Nat) : PyData := .list (r.map fun (n : Nat) => PyData.int (n : Int))
def dPair (r : List Nat) : PyData := .tuple [.int ((r.length : Nat) : Int), dList r]
theorem dp_ints {K : PySem.W.Frag} {H : Hp} : ∀ r : List Nat, DpAll K H (natsV r) (r.map fun (n : Nat) => PyData.int (n : Int))
  | [] => .nil
  | n :: r => .cons (.int _) (dp_ints r)
theorem dp_list {K : PySem.W.Frag} {H : Hp} {a : Addr} {r : List Nat} (h : SqL K H a (natsV r)) : Dp K H (.ref a) (dList r) := .lst h (dp_ints r)
theorem canLay_ints : ∀ r : List Nat, PyData.canLayAll0 (r.map fun (n : Nat) => PyData.int (n : Int)) = true
  | [] => rfl
  | n :: r => by
    rw [List.map_cons, PyData.canLayAll0, canLay_ints r]
    rfl
theorem depth_ints : ∀ r : List Nat, PyData.depthAll (r.map fun (n : Nat) => PyData.int (n : Int)) = 0
  | [] => by rw [List.map_nil, PyData.depthAll]
  | n :: r => by
    rw [List.map_cons, PyData.depthAll, depth_ints r, PyData.depth]
    rfl
theorem depth_list (r : List Nat) : (dList r).depth = 1 := by
  unfold dList
  rw [PyData.depth, depth_ints]
theorem shaped_list (r : List Nat) : SeqAt.shaped (dList r) = true := by
  unfold SeqAt.shaped
  rw [depth_list]
  unfold dList
  rw [PyData.canLay0, canLay_ints]
  rfl
theorem shaped_none : SeqAt.shaped PyData.none = true := by decide +kernel
theorem eqv_list (r : List Nat) : PyData.eqv (dList r) (dList r) = true := SeqAt.eqv_refl _ (SeqAt.canLay_of_shaped (shaped_list r))
theorem eqv_none : PyData.eqv PyData.none PyData.none = true := by rw [PyData.eqv]
theorem alike_ints : ∀ r x : List Nat, PySem.W.alikeAll (r.map fun (n : Nat) => PyData.int (n : Int)) (x.map fun (n : Nat) => PyData.int (n : Int)) = true
  | [], x => by rw [List.map_nil, PySem.W.alikeAll]
  | n :: r, [] => by
    rw [List.map_cons, List.map_nil]
    rw [PySem.W.alikeAll]
  | n :: r, y :: x => by
    rw [List.map_cons, List.map_cons, PySem.W.alikeAll, alike_ints r x, PySem.W.alike]
    rfl
theorem alike_pair (r x : List Nat) : PySem.W.alike (dPair r) (dPair x) = true := by
  unfold dPair dList
  rw [PySem.W.alike, PySem.W.alikeAll, PySem.W.alikeAll, PySem.W.alikeAll, PySem.W.alike, PySem.W.alike, alike_ints]
  rfl
theorem depth_pair (r : List Nat) : (dPair r).depth = 2 := by
  unfold dPair
  rw [PyData.depth, PyData.depthAll, PyData.depthAll, PyData.depthAll, depth_list, PyData.depth]
  rfl
theorem eqv_int (i j : Int) : PyData.eqv (.int i) (.int j) = (i == j) := by rw [PyData.eqv]
theorem alike_int (i j : Int) : PySem.W.alike (.int i) (.int j) = true := by rw [PySem.W.alike]
/-- lists of ints: the greater one is not less -/
theorem ints_nlt : ∀ {b x : List Nat}, lexlt b x → PyProof.Rows.lexLt PyProof.Rows.itemOrd (PySem.W.keyToksAll (x.map fun (n : Nat) => PyData.int (n : Int))) (PySem.W.keyToksAll (b.map fun (n : Nat) => PyData.int (n : Int))) = false
  | [], _, h => h.elim
  | _ :: _, [], h => h.elim
  | n :: b, y :: x, h => by
    rw [List.map_cons, List.map_cons]
    by_cases e : y = n
    · rw [PySem.W.dataLt_all_yes (alike_int _ _) (by rw [eqv_int, e]; exact beq_self_eq_true _)]
      rcases h with h | ⟨_, h⟩
      · omega
      · exact ints_nlt h
    · rw [PySem.W.dataLt_all_no (alike_int _ _) (by rw [eqv_int]; exact beq_eq_false_iff_ne.mpr (by omega)), PySem.W.dataLt_int]
      rcases h with h | ⟨z, _⟩
      · exact decide_eq_false (by omega)
      · exact absurd z.symm e
theorem lex_len : ∀ {b x : List Nat}, lexlt b x → b.length = x.length → PyData.eqvAll (x.map fun (n : Nat) => PyData.int (n : Int)) (b.map fun (n : Nat) => PyData.int (n : Int)) = false
  | [], _, h, _ => h.elim
  | _ :: _, [], h, _ => h.elim
  | n :: b, y :: x, h, hl => by
    rw [List.map_cons, List.map_cons, PyData.eqvAll, eqv_int]
    rcases h with h | ⟨e, h⟩
    · rw [show (((y : Nat) : Int) == (n : Int)) = false from beq_eq_false_iff_ne.mpr (by omega)]
      rfl
    · rw [lex_len h (by simpa using hl), Bool.and_false]
theorem pair_nlt {b x : List Nat} (h : rlt b x) : PySem.W.dataLt (dPair x) (dPair b) = false := by
  unfold dPair
  rw [PySem.W.dataLt_tuple]
  by_cases e : x.length = b.length
  · rw [PySem.W.dataLt_all_yes (alike_int _ _) (by rw [eqv_int, e]; exact beq_self_eq_true _)]
    rcases h with h | ⟨_, h⟩
    · omega
    · have al : PySem.W.alike (dList x) (dList b) = true := by
        unfold dList
        rw [PySem.W.alike]
        exact alike_ints x b
      have ev : PyData.eqv (dList x) (dList b) = false := by
        unfold dList
        rw [PyData.eqv]
        exact lex_len h e.symm
      rw [PySem.W.dataLt_all_no al ev]
      unfold dList
      rw [PySem.W.dataLt_list]
      exact ints_nlt h
  · rw [PySem.W.dataLt_all_no (alike_int _ _) (by rw [eqv_int]; exact beq_eq_false_iff_ne.mpr (by omega)), PySem.W.dataLt_int]
    rcases h with h | ⟨z, _⟩
    · exact decide_eq_false (by omega)
    · exact absurd z.symm e
end My
/-! == of lists of kinds, nodes, ports, lines as data. No row. -/
namespace My
open PySem PySem.Spec PyProof.Rows L2
structure Shp (n : Nat) (d : PyData) : Prop where
  c : d.canLay0 = true
  d : d.depth ≤ n
theorem Shp.shaped {n : Nat} {d : PyData} (h : Shp n d) (hn : n ≤ 64 := by decide) : SeqAt.shaped d = true := by
  unfold SeqAt.shaped
  rw [h.c, decide_eq_true (Nat.le_trans h.d hn)]
  rfl
theorem shp_int (i : Int) : Shp 0 (.int i) := ⟨by rw [PyData.canLay0], by rw [PyData.depth]; exact Nat.le_refl _⟩
theorem shp_kind (b : Bool) : Shp 0 (.str (if b then "host" else "switch")) := ⟨by rw [PyData.canLay0]; cases b <;> decide +kernel, by rw [PyData.depth]; exact Nat.le_refl _⟩
theorem shp_all {n : Nat} : ∀ {ds : List PyData}, (∀ d ∈ ds, Shp n d) → PyData.canLayAll0 ds = true ∧ PyData.depthAll ds ≤ n
  | [], _ => ⟨by rw [PyData.canLayAll0], by rw [PyData.depthAll]; exact Nat.zero_le _⟩
  | d :: r, h => by
    have h1 := h d List.mem_cons_self
    have h2 := shp_all (ds := r) fun x hx => h x (List.mem_cons_of_mem _ hx)
    refine ⟨by rw [PyData.canLayAll0, h1.c, h2.1]; rfl, by rw [PyData.depthAll]; exact Nat.max_le.mpr ⟨h1.d, h2.2⟩⟩
theorem shp_list {n : Nat} {ds : List PyData} (h : ∀ d ∈ ds, Shp n d) : Shp (n + 1) (.list ds) := ⟨by rw [PyData.canLay0]; exact (shp_all h).1, by rw [PyData.depth]; exact Nat.succ_le_succ (shp_all h).2⟩
theorem shp_tuple {n : Nat} {ds : List PyData} (h : ∀ d ∈ ds, Shp n d) : Shp (n + 1) (.tuple ds) := ⟨by rw [PyData.canLay0]; exact (shp_all h).1, by rw [PyData.depth]; exact Nat.succ_le_succ (shp_all h).2⟩
theorem shp_map {α : Type} {n : Nat} {f : α → PyData} {xs : List α} (h : ∀ x, Shp n (f x)) : ∀ d ∈ xs.map f, Shp n d := fun d hd => by
  obtain ⟨x, _, rfl⟩ := List.mem_map.mp hd
  exact h x
theorem eqv_map {α : Type} [DecidableEq α] (f : α → PyData) (h : ∀ x y, PyData.eqv (f x) (f y) = decide (x = y)) : ∀ xs ys : List α, PyData.eqvAll (xs.map f) (ys.map f) = decide (xs = ys)
  | [], [] => by rw [List.map_nil, PyData.eqvAll, decide_eq_true rfl]
  | [], y :: ys => by rw [List.map_nil, List.map_cons, PyData.eqvAll, decide_eq_false (by simp)]
  | x :: xs, [] => by rw [List.map_nil, List.map_cons, PyData.eqvAll, decide_eq_false (by simp)]
  | x :: xs, y :: ys => by
    rw [List.map_cons, List.map_cons, PyData.eqvAll, h, eqv_map f h xs ys, Bool.eq_iff_iff, Bool.and_eq_true, decide_eq_true_eq, decide_eq_true_eq, decide_eq_true_eq, List.cons.injEq]
theorem beq_dec (i j : Int) : (i == j) = decide (i = j) := by
  rw [Bool.eq_iff_iff, beq_iff_eq, decide_eq_true_eq]
/-! ### kinds -/
def dKind (b : Bool) : PyData := .str (if b then "host" else "switch")
def dKinds (ks : List Bool) : PyData := .list (ks.map dKind)
theorem eqv_kind (a b : Bool) : PyData.eqv (dKind a) (dKind b) = decide (a = b) := by
  unfold dKind
  rw [PyData.eqv]
  cases a <;> cases b <;> decide +kernel
theorem eqv_kinds (a b : List Bool) : PyData.eqv (dKinds a) (dKinds b) = decide (a = b) := by
  unfold dKinds
  rw [PyData.eqv, eqv_map dKind eqv_kind]
theorem shp_kinds (ks : List Bool) : Shp 1 (dKinds ks) := shp_list (shp_map shp_kind)
theorem dp_all {α : Type} {K : PySem.W.Frag} {H : Hp} (f : α → PyData) (g : α → V) (h : ∀ x, Dp K H (g x) (f x)) : ∀ xs : List α, DpAll K H (xs.map g) (xs.map f)
  | [] => .nil
  | x :: r => .cons (h x) (dp_all f g h r)
theorem dp_kinds {K : PySem.W.Frag} {H : Hp} {a : Addr} {ks : List Bool} (h : SqL K H a (ks.map kindV)) : Dp K H (.ref a) (dKinds ks) := .lst h (dp_all dKind kindV (fun _ => .str _) ks)
/-! ### nodes -/
theorem shp_nats (r : List Nat) : Shp 1 (dList r) := shp_list (shp_map (f := fun (n : Nat) => PyData.int (n : Int)) fun _ => shp_int _)
theorem eqv_nats (a b : List Nat) : PyData.eqv (dList a) (dList b) = decide (a = b) := by
  unfold dList
  rw [PyData.eqv, eqv_map (fun (n : Nat) => PyData.int (n : Int)) fun x y => by
    rw [eqv_int, beq_dec]
    by_cases e : x = y
    · rw [e, decide_eq_true rfl, decide_eq_true rfl]
    · rw [decide_eq_false e, decide_eq_false (by omega)]]
/-! ### ports -/
def portV (p : Nat × Nat) : List V := [.int (p.1 : Int), .int (p.2 : Int)]
def dPort (p : Nat × Nat) : PyData := .tuple [.int (p.1 : Int), .int (p.2 : Int)]
def dPorts (ps : List (Nat × Nat)) : PyData := .list (ps.map dPort)
theorem shp_port (p : Nat × Nat) : Shp 1 (dPort p) := shp_tuple fun d hd => by
  rcases List.mem_cons.mp hd with e | hd
  · rw [e]; exact shp_int _
  · rw [List.mem_singleton.mp hd]; exact shp_int _
theorem eqv_port (p q : Nat × Nat) : PyData.eqv (dPort p) (dPort q) = decide (p = q) := by
  obtain ⟨a, b⟩ := p
  obtain ⟨c, d⟩ := q
  unfold dPort
  rw [PyData.eqv, PyData.eqvAll, PyData.eqvAll, PyData.eqvAll, eqv_int, eqv_int, beq_dec, beq_dec, Bool.and_true, Bool.eq_iff_iff, Bool.and_eq_true, decide_eq_true_eq, decide_eq_true_eq, decide_eq_true_eq, Prod.mk.injEq]
  show ((a : Int) = (c : Int) ∧ (b : Int) = (d : Int)) ↔ _
  omega
theorem shp_ports (ps : List (Nat × Nat)) : Shp 2 (dPorts ps) := shp_list (shp_map shp_port)
theorem eqv_ports (a b : List (Nat × Nat)) : PyData.eqv (dPorts a) (dPorts b) = decide (a = b) := by
  unfold dPorts
  rw [PyData.eqv, eqv_map dPort eqv_port]
theorem dp_paired {α : Type} {K : PySem.W.Frag} {H : Hp} (f : α → PyData) {F : Addr → α → Prop} (h : ∀ t x, F t x → Dp K H (.ref t) (f x)) : ∀ {ts : List Addr} {xs : List α}, Paired F ts xs → DpAll K H (ts.map V.ref) (xs.map f)
  | _, _, .nil => .nil
  | _, _, .cons r t => .cons (h _ _ r) (dp_paired f h t)
theorem dp_port {K : PySem.W.Frag} {H : Hp} {t : Addr} {p : Nat × Nat} (h : SqT K H t (portV p)) : Dp K H (.ref t) (dPort p) := .tup h (.cons (.int _) (.cons (.int _) .nil))
theorem dp_ports {K : PySem.W.Frag} {H : Hp} {a : Addr} {ts : List Addr} {ps : List (Nat × Nat)} (h : SqL K H a (ts.map V.ref)) (p : PairsAt K H ts ps) : Dp K H (.ref a) (dPorts ps) := .lst h (dp_paired dPort (fun _ _ z => dp_port z) p)
/-! ### lines -/
def dLine (l : Nat × Nat × Int) : PyData := .tuple [.int (l.1 : Int), .int (l.2.1 : Int), .int l.2.2]
def dLines (ls : List (Nat × Nat × Int)) : PyData := .list (ls.map dLine)
theorem shp_line (l : Nat × Nat × Int) : Shp 1 (dLine l) := shp_tuple fun d hd => by
  rcases List.mem_cons.mp hd with e | hd
  · rw [e]; exact shp_int _
  · rcases List.mem_cons.mp hd with e | hd
    · rw [e]; exact shp_int _
    · rw [List.mem_singleton.mp hd]; exact shp_int _
theorem eqv_line (p q : Nat × Nat × Int) : PyData.eqv (dLine p) (dLine q) = decide (p = q) := by
  obtain ⟨a, b, x⟩ := p
  obtain ⟨c, d, y⟩ := q
  unfold dLine
  rw [PyData.eqv, PyData.eqvAll, PyData.eqvAll, PyData.eqvAll, PyData.eqvAll, eqv_int, eqv_int, eqv_int, beq_dec, beq_dec, beq_dec, Bool.and_true, Bool.eq_iff_iff, Bool.and_eq_true, Bool.and_eq_true, decide_eq_true_eq, decide_eq_true_eq, decide_eq_true_eq, decide_eq_true_eq, Prod.mk.injEq, Prod.mk.injEq]
  show ((a : Int) = (c : Int) ∧ (b : Int) = (d : Int) ∧ x = y) ↔ _
  omega
theorem shp_lines (ls : List (Nat × Nat × Int)) : Shp 2 (dLines ls) := shp_list (shp_map shp_line)
theorem eqv_lines (a b : List (Nat × Nat × Int)) : PyData.eqv (dLines a) (dLines b) = decide (a = b) := by
  unfold dLines
  rw [PyData.eqv, eqv_map dLine eqv_line]
theorem dp_lines {K : PySem.W.Frag} {H : Hp} {a : Addr} {ts : List Addr} {ls : List (Nat × Nat × Int)} (h : SqL K H a (ts.map V.ref)) (p : LinesAt K H ts ls) : Dp K H (.ref a) (dLines ls) := .lst h (dp_paired dLine (fun _ _ z => .tup z (.cons (.int _) (.cons (.int _) (.cons (.int _) .nil)))) p)
end My
/-! Arcs between places, flows, turning around a way. Places are numbers: 2 v where one comes in at v, 2 v + 1 where one goes out. No row. -/
namespace My
open PySem PySem.Spec PyProof.Rows L2
/-- the arcs of split nodes -/
def arcs0 (N : NetD) (f : Nat) (p : Nat) : List Nat := if p % 2 = 0 then [p + 1] else (arcsOf N f (p / 2)).map fun w => 2 * w
def turnA (A : Nat → List Nat) (W : List Nat) (p : Nat) : List Nat := ((A p).filter fun h => !(portsOf W).contains (p, h)) ++ ((portsOf W).filter fun q => q.2 == p).map (·.1)
theorem turn_mem' {A : Nat → List Nat} {W : List Nat} {p h : Nat} : h ∈ turnA A W p ↔ (h ∈ A p ∧ (p, h) ∉ portsOf W) ∨ (h, p) ∈ portsOf W := by
  unfold turnA
  rw [List.mem_append, List.mem_filter, List.mem_map]
  constructor
  · rintro (⟨h1, h2⟩ | ⟨q, hq, rfl⟩)
    · exact .inl ⟨h1, by simpa using h2⟩
    · rw [List.mem_filter] at hq
      have : q.2 = p := by simpa using hq.2
      exact .inr (by rw [← this]; exact hq.1)
  · rintro (⟨h1, h2⟩ | h1)
    · exact .inl ⟨h1, by simpa using h2⟩
    · exact .inr ⟨(h, p), List.mem_filter.mpr ⟨h1, by simp⟩, rfl⟩
/-- a way along arcs: no place twice -/
structure Way (A : Nat → List Nat) (s t : Nat) (W : List Nat) : Prop where
  two : 1 ≤ W.length
  nd : W.Nodup
  fst : W.getD 0 0 = s
  lst : lastN W = t
  ch : ∀ k, k + 1 < W.length → W.getD (k + 1) 0 ∈ A (W.getD k 0)
/-- the rest of the arcs beside a flow -/
structure Res (Arc : Nat → Nat → Prop) (F : Nat → Nat → Prop) (A : Nat → List Nat) : Prop where
  mem : ∀ p h, h ∈ A p ↔ (Arc p h ∧ ¬ F p h) ∨ F h p
  sub : ∀ p h, F p h → Arc p h
def Anti (Arc : Nat → Nat → Prop) : Prop := ∀ p h, Arc p h → ¬ Arc h p
def plus (Arc F : Nat → Nat → Prop) (W : List Nat) (p h : Nat) : Prop := (F p h ∧ (h, p) ∉ portsOf W) ∨ (Arc p h ∧ (p, h) ∈ portsOf W)
theorem nd_getD {W : List Nat} (h : W.Nodup) {i j : Nat} (hi : i < W.length) (hj : j < W.length) (e : W.getD i 0 = W.getD j 0) : i = j := by
  rw [getD_lt 0 hi, getD_lt 0 hj] at e
  have p := List.pairwise_iff_getElem.mp h
  rcases Nat.lt_trichotomy i j with z | z | z
  · exact absurd e (p i j hi hj z)
  · exact z
  · exact absurd e.symm (p j i hj hi z)
theorem port_one {W : List Nat} (h : W.Nodup) {p q q' : Nat} (h1 : (p, q) ∈ portsOf W) (h2 : (p, q') ∈ portsOf W) : q = q' := by
  obtain ⟨k, hk, e⟩ := mem_ports.mp h1
  obtain ⟨j, hj, e'⟩ := mem_ports.mp h2
  injection e with e1 e2
  injection e' with e3 e4
  have : k = j := nd_getD h (by omega) (by omega) (by rw [← e1, ← e3])
  rw [e2, e4, this]
theorem port_back {W : List Nat} (h : W.Nodup) {p p' q : Nat} (h1 : (p, q) ∈ portsOf W) (h2 : (p', q) ∈ portsOf W) : p = p' := by
  obtain ⟨k, hk, e⟩ := mem_ports.mp h1
  obtain ⟨j, hj, e'⟩ := mem_ports.mp h2
  injection e with e1 e2
  injection e' with e3 e4
  have : k + 1 = j + 1 := nd_getD h hk hj (by rw [← e2, ← e4])
  have : k = j := by omega
  rw [e1, e3, this]
theorem port_anti {W : List Nat} (h : W.Nodup) {p q : Nat} (h1 : (p, q) ∈ portsOf W) : (q, p) ∉ portsOf W := fun h2 => by
  obtain ⟨k, hk, e⟩ := mem_ports.mp h1
  obtain ⟨j, hj, e'⟩ := mem_ports.mp h2
  injection e with e1 e2
  injection e' with e3 e4
  have a : k + 1 = j := nd_getD h hk (by omega) (by rw [← e2, ← e3])
  have b : k = j + 1 := nd_getD h (by omega) hj (by rw [← e1, ← e4])
  omega
theorem Way.port {A : Nat → List Nat} {s t : Nat} {W : List Nat} (w : Way A s t W) {p q : Nat} (h : (p, q) ∈ portsOf W) : q ∈ A p := by
  obtain ⟨k, hk, e⟩ := mem_ports.mp h
  injection e with e1 e2
  rw [e1, e2]
  exact w.ch k hk
theorem Way.no_start {A : Nat → List Nat} {s t : Nat} {W : List Nat} (w : Way A s t W) {p : Nat} : (p, s) ∉ portsOf W := fun h => by
  obtain ⟨k, hk, e⟩ := mem_ports.mp h
  injection e with e1 e2
  have := nd_getD w.nd hk (by omega : 0 < W.length) (by rw [← e2, w.fst])
  omega
theorem Way.no_end {A : Nat → List Nat} {s t : Nat} {W : List Nat} (w : Way A s t W) {q : Nat} : (t, q) ∉ portsOf W := fun h => by
  obtain ⟨k, hk, e⟩ := mem_ports.mp h
  injection e with e1 e2
  have l := w.lst
  unfold lastN at l
  have := nd_getD w.nd (by omega : k < W.length) (by omega : W.length - 1 < W.length) (by rw [← e1, l])
  omega
theorem Res.turn {Arc F : Nat → Nat → Prop} {A : Nat → List Nat} {s t : Nat} {W : List Nat} (an : Anti Arc) (r : Res Arc F A) (w : Way A s t W) : Res Arc (plus Arc F W) (turnA A W) := by
  refine ⟨fun p h => ?_, fun p h x => ?_⟩
  · rw [turn_mem']
    constructor
    · rintro (⟨h1, h2⟩ | h1)
      · rcases (r.mem p h).mp h1 with ⟨a, nf⟩ | b
        · refine .inl ⟨a, fun x => ?_⟩
          rcases x with ⟨x, _⟩ | ⟨_, x⟩
          · exact nf x
          · exact h2 x
        · exact .inr (.inl ⟨b, h2⟩)
      · rcases (r.mem h p).mp (w.port h1) with ⟨a, nf⟩ | b
        · exact .inr (.inr ⟨a, h1⟩)
        · refine .inl ⟨r.sub _ _ b, fun x => ?_⟩
          rcases x with ⟨_, x⟩ | ⟨_, x⟩
          · exact x h1
          · exact port_anti w.nd h1 x
    · rintro (⟨a, nf⟩ | x)
      · by_cases e : (h, p) ∈ portsOf W
        · exact .inr e
        · have e1 : (p, h) ∉ portsOf W := fun z => nf (.inr ⟨a, z⟩)
          refine .inl ⟨(r.mem p h).mpr (.inl ⟨a, fun z => nf (.inl ⟨z, e⟩)⟩), e1⟩
      · rcases x with ⟨x, y⟩ | ⟨x, y⟩
        · exact .inl ⟨(r.mem p h).mpr (.inr x), y⟩
        · exact .inr y
  · rcases x with ⟨x, _⟩ | ⟨x, _⟩
    · exact r.sub _ _ x
    · exact x
/-! ### what flows in and out -/
open Classical in
noncomputable def bi (P : Prop) : Int := if P then 1 else 0
theorem bi_t {P : Prop} (h : P) : bi P = 1 := if_pos h
theorem bi_f {P : Prop} (h : ¬ P) : bi P = 0 := if_neg h
theorem bi_01 (P : Prop) : 0 ≤ bi P ∧ bi P ≤ 1 := by
  by_cases h : P
  · rw [bi_t h]; omega
  · rw [bi_f h]; omega
def sumN (g : Nat → Int) : Nat → Int
  | 0 => 0
  | n + 1 => sumN g n + g n
theorem sum_add (g h : Nat → Int) : ∀ n, sumN (fun i => g i + h i) n = sumN g n + sumN h n
  | 0 => rfl
  | n + 1 => by
    show sumN (fun i => g i + h i) n + (g n + h n) = (sumN g n + g n) + (sumN h n + h n)
    rw [sum_add g h n]
    omega
theorem sum_sub (g h : Nat → Int) : ∀ n, sumN (fun i => g i - h i) n = sumN g n - sumN h n
  | 0 => rfl
  | n + 1 => by
    show sumN (fun i => g i - h i) n + (g n - h n) = (sumN g n + g n) - (sumN h n + h n)
    rw [sum_sub g h n]
    omega
theorem sum_congr {g h : Nat → Int} : ∀ {n : Nat}, (∀ i, i < n → g i = h i) → sumN g n = sumN h n
  | 0, _ => rfl
  | n + 1, e => by
    show sumN g n + g n = sumN h n + h n
    rw [sum_congr fun i hi => e i (by omega), e n (by omega)]
theorem sum_zero {g : Nat → Int} : ∀ {n : Nat}, (∀ i, i < n → g i = 0) → sumN g n = 0
  | 0, _ => rfl
  | n + 1, e => by
    show sumN g n + g n = 0
    rw [sum_zero fun i hi => e i (by omega), e n (by omega)]
    rfl
theorem sum_one {g : Nat → Int} {j : Nat} : ∀ {n : Nat}, j < n → (∀ i, i < n → i ≠ j → g i = 0) → sumN g n = g j
  | 0, h, _ => absurd h (Nat.not_lt_zero _)
  | n + 1, h, e => by
    show sumN g n + g n = g j
    by_cases z : j = n
    · rw [sum_zero fun i hi => e i (by omega) (by omega), z]
      omega
    · rw [sum_one (by omega) fun i hi => e i (by omega), e n (by omega) (by omega)]
      omega
theorem sum_nn {g : Nat → Int} : ∀ {n : Nat}, (∀ i, i < n → 0 ≤ g i) → 0 ≤ sumN g n
  | 0, _ => Int.le_refl _
  | n + 1, e => by
    have := sum_nn (n := n) fun i hi => e i (by omega)
    have := e n (by omega)
    show 0 ≤ sumN g n + g n
    omega
theorem sum_ge {g : Nat → Int} {j : Nat} : ∀ {n : Nat}, j < n → (∀ i, i < n → 0 ≤ g i) → g j ≤ sumN g n
  | 0, h, _ => absurd h (Nat.not_lt_zero _)
  | n + 1, h, e => by
    show g j ≤ sumN g n + g n
    have h0 := e n (by omega)
    by_cases z : j = n
    · have := sum_nn (n := n) fun i hi => e i (by omega)
      rw [z]
      omega
    · have := sum_ge (n := n) (by omega : j < n) fun i hi => e i (by omega)
      omega
noncomputable def outF (F : Nat → Nat → Prop) (M p : Nat) : Int := sumN (fun q => bi (F p q)) M
noncomputable def inF (F : Nat → Nat → Prop) (M p : Nat) : Int := sumN (fun q => bi (F q p)) M
theorem plus_diff {Arc F : Nat → Nat → Prop} {A : Nat → List Nat} {s t : Nat} {W : List Nat} (an : Anti Arc) (r : Res Arc F A) (w : Way A s t W) (p q : Nat) :
    bi (plus Arc F W p q) - bi (plus Arc F W q p) = (bi (F p q) - bi (F q p)) + (bi ((p, q) ∈ portsOf W) - bi ((q, p) ∈ portsOf W)) := by
  have anF : F p q → ¬ F q p := fun a b => an p q (r.sub _ _ a) (r.sub _ _ b)
  by_cases h1 : (p, q) ∈ portsOf W
  · have h2 := port_anti w.nd h1
    rw [bi_t h1, bi_f h2]
    rcases (r.mem p q).mp (w.port h1) with ⟨a, nf⟩ | b
    · have nq : ¬ F q p := fun z => an p q a (r.sub _ _ z)
      rw [bi_f nf, bi_f nq, bi_t (P := plus Arc F W p q) (.inr ⟨a, h1⟩), bi_f (P := plus Arc F W q p) (fun z => by
        rcases z with ⟨z, _⟩ | ⟨_, z⟩
        · exact nq z
        · exact h2 z)]
      rfl
    · have np : ¬ F p q := fun z => an p q (r.sub _ _ z) (r.sub _ _ b)
      rw [bi_t b, bi_f np, bi_f (fun z : plus Arc F W p q => by
        rcases z with ⟨z, _⟩ | ⟨z, _⟩
        · exact np z
        · exact an p q z (r.sub _ _ b)), bi_f (fun z : plus Arc F W q p => by
        rcases z with ⟨_, z⟩ | ⟨_, z⟩
        · exact z h1
        · exact h2 z)]
      rfl
  · by_cases h2 : (q, p) ∈ portsOf W
    · rw [bi_f h1, bi_t h2]
      rcases (r.mem q p).mp (w.port h2) with ⟨a, nf⟩ | b
      · have nq : ¬ F p q := fun z => an p q (r.sub _ _ z) a
        rw [bi_f nf, bi_f nq, bi_t (P := plus Arc F W q p) (.inr ⟨a, h2⟩), bi_f (P := plus Arc F W p q) (fun z => by
          rcases z with ⟨z, _⟩ | ⟨_, z⟩
          · exact nq z
          · exact h1 z)]
        rfl
      · have np : ¬ F q p := fun z => an p q (r.sub _ _ b) (r.sub _ _ z)
        rw [bi_t b, bi_f np, bi_f (fun z : plus Arc F W q p => by
          rcases z with ⟨z, _⟩ | ⟨z, _⟩
          · exact np z
          · exact an p q (r.sub _ _ b) z), bi_f (fun z : plus Arc F W p q => by
          rcases z with ⟨_, z⟩ | ⟨_, z⟩
          · exact z h2
          · exact h1 z)]
        rfl
    · rw [bi_f h1, bi_f h2]
      have e1 : plus Arc F W p q ↔ F p q := ⟨fun z => by
        rcases z with ⟨z, _⟩ | ⟨_, z⟩
        · exact z
        · exact absurd z h1, fun z => .inl ⟨z, h2⟩⟩
      have e2 : plus Arc F W q p ↔ F q p := ⟨fun z => by
        rcases z with ⟨z, _⟩ | ⟨_, z⟩
        · exact z
        · exact absurd z h2, fun z => .inl ⟨z, h1⟩⟩
      rw [show bi (plus Arc F W p q) = bi (F p q) by rw [propext e1], show bi (plus Arc F W q p) = bi (F q p) by rw [propext e2]]
      omega
/-- what goes out of a place by a way -/
theorem way_out {A : Nat → List Nat} {s t : Nat} {W : List Nat} {M : Nat} (w : Way A s t W) (hM : ∀ x ∈ W, x < M) (p : Nat) : sumN (fun q => bi ((p, q) ∈ portsOf W)) M = bi (p ∈ W ∧ p ≠ t) := by
  by_cases h : p ∈ W ∧ p ≠ t
  · rw [bi_t h]
    obtain ⟨k, ek⟩ := List.mem_iff_getElem?.mp h.1
    obtain ⟨hk, _⟩ := List.getElem?_eq_some_iff.mp ek
    have ep : W.getD k 0 = p := by rw [List.getD_eq_getElem?_getD, ek]; rfl
    have k1 : k + 1 < W.length := by
      rcases Nat.lt_or_ge (k + 1) W.length with z | z
      · exact z
      · refine absurd ?_ h.2
        have l := w.lst
        unfold lastN at l
        rw [show W.length - 1 = k by omega, ep] at l
        exact l
    have hm : (p, W.getD (k + 1) 0) ∈ portsOf W := mem_ports.mpr ⟨k, k1, by rw [ep]⟩
    rw [sum_one (j := W.getD (k + 1) 0) (hM _ (getD_in k1)) fun i _ hi => bi_f fun z => hi (port_one w.nd z hm), bi_t hm]
  · rw [bi_f h]
    refine sum_zero fun i _ => bi_f fun z => h ⟨(port_both z).1, fun e => ?_⟩
    rw [e] at z
    exact w.no_end z
theorem way_in {A : Nat → List Nat} {s t : Nat} {W : List Nat} {M : Nat} (w : Way A s t W) (hM : ∀ x ∈ W, x < M) (p : Nat) : sumN (fun q => bi ((q, p) ∈ portsOf W)) M = bi (p ∈ W ∧ p ≠ s) := by
  by_cases h : p ∈ W ∧ p ≠ s
  · rw [bi_t h]
    obtain ⟨k, ek⟩ := List.mem_iff_getElem?.mp h.1
    obtain ⟨hk, _⟩ := List.getElem?_eq_some_iff.mp ek
    have ep : W.getD k 0 = p := by rw [List.getD_eq_getElem?_getD, ek]; rfl
    have k0 : k ≠ 0 := fun z => h.2 (by rw [← w.fst, ← ep, z])
    have hm : (W.getD (k - 1) 0, p) ∈ portsOf W := mem_ports.mpr ⟨k - 1, by omega, by rw [show k - 1 + 1 = k by omega, ep]⟩
    rw [sum_one (j := W.getD (k - 1) 0) (hM _ (getD_in (by omega))) fun i _ hi => bi_f fun z => hi (port_back w.nd z hm), bi_t hm]
  · rw [bi_f h]
    refine sum_zero fun i _ => bi_f fun z => h ⟨(port_both z).2, fun e => ?_⟩
    rw [e] at z
    exact w.no_start z
noncomputable def exF (F : Nat → Nat → Prop) (M p : Nat) : Int := outF F M p - inF F M p
theorem ex_plus {Arc F : Nat → Nat → Prop} {A : Nat → List Nat} {s t : Nat} {W : List Nat} {M : Nat} (an : Anti Arc) (r : Res Arc F A) (w : Way A s t W) (hM : ∀ x ∈ W, x < M) (st : s ≠ t) (p : Nat) :
    exF (plus Arc F W) M p = exF F M p + bi (p = s) - bi (p = t) := by
  have e : exF (plus Arc F W) M p = exF F M p + (bi (p ∈ W ∧ p ≠ t) - bi (p ∈ W ∧ p ≠ s)) := by
    unfold exF outF inF
    rw [← sum_sub, sum_congr fun q _ => plus_diff an r w p q, sum_add, sum_sub, sum_sub, way_out w hM, way_in w hM]
  have hs : s ∈ W := by rw [← w.fst]; exact getD_in w.two
  have ht : t ∈ W := by
    have l := w.lst
    unfold lastN at l
    rw [← l]
    exact getD_in (by have := w.two; omega)
  rw [e]
  by_cases a : p = s
  · have pt : p ≠ t := fun z => st (by rw [← a, z])
    rw [bi_t a, bi_f pt, bi_t (P := p ∈ W ∧ p ≠ t) ⟨a ▸ hs, pt⟩, bi_f (P := p ∈ W ∧ p ≠ s) (fun z => z.2 a)]
    omega
  · by_cases b : p = t
    · rw [bi_f a, bi_t b, bi_f (P := p ∈ W ∧ p ≠ t) (fun z => z.2 b), bi_t (P := p ∈ W ∧ p ≠ s) ⟨b ▸ ht, a⟩]
      omega
    · rw [bi_f a, bi_f b]
      by_cases c : p ∈ W
      · rw [bi_t (P := p ∈ W ∧ p ≠ t) ⟨c, b⟩, bi_t (P := p ∈ W ∧ p ≠ s) ⟨c, a⟩]
        omega
      · rw [bi_f (P := p ∈ W ∧ p ≠ t) (fun z => c z.1), bi_f (P := p ∈ W ∧ p ≠ s) (fun z => c z.1)]
        omega
end My
/-! A flow of two through split nodes: it is followed along two separate paths. No row. -/
namespace My
open PySem PySem.Spec PyProof.Rows L2
theorem sum_two {g : Nat → Int} {i j : Nat} : ∀ {n : Nat}, i < n → j < n → i ≠ j → (∀ k, k < n → 0 ≤ g k) → g i + g j ≤ sumN g n
  | 0, h, _, _, _ => absurd h (Nat.not_lt_zero _)
  | n + 1, hi, hj, ne, e => by
    show g i + g j ≤ sumN g n + g n
    have en := e n (by omega)
    have e' : ∀ k, k < n → 0 ≤ g k := fun k hk => e k (by omega)
    by_cases a : i = n
    · have := sum_ge (by omega : j < n) e'
      rw [a]
      omega
    · by_cases b : j = n
      · have := sum_ge (by omega : i < n) e'
        rw [b]
        omega
      · have := sum_two (by omega : i < n) (by omega : j < n) ne e'
        omega
theorem sum_mem : ∀ {L : List Nat} {M : Nat}, L.Nodup → (∀ x ∈ L, x < M) → sumN (fun q => bi (q ∈ L)) M = (L.length : Int)
  | [], M, _, _ => sum_zero fun i _ => bi_f fun z => by cases z
  | x :: r, M, hn, hl => by
    rw [List.nodup_cons] at hn
    have e : ∀ q, q < M → bi (q ∈ x :: r) = bi (q = x) + bi (q ∈ r) := fun q _ => by
      by_cases a : q = x
      · rw [bi_t (P := q ∈ x :: r) (by rw [a]; exact List.mem_cons_self), bi_t a, bi_f (P := q ∈ r) (fun z => hn.1 (a ▸ z))]
        rfl
      · by_cases b : q ∈ r
        · rw [bi_t (P := q ∈ x :: r) (List.mem_cons_of_mem _ b), bi_f a, bi_t b]
          rfl
        · rw [bi_f (P := q ∈ x :: r) (fun z => by
            rcases List.mem_cons.mp z with z | z
            · exact a z
            · exact b z), bi_f a, bi_f b]
          rfl
    rw [sum_congr e, sum_add, sum_mem hn.2 fun y hy => hl y (List.mem_cons_of_mem _ hy), sum_one (j := x) (hl x List.mem_cons_self) fun i _ hi => bi_f hi, bi_t rfl, List.length_cons]
    omega
/-! ### the arcs -/
def Arc (N : NetD) (f p h : Nat) : Prop := h ∈ arcs0 N f p
theorem arc_even {N : NetD} {f v h : Nat} : Arc N f (2 * v) h ↔ h = 2 * v + 1 := by
  unfold Arc arcs0
  rw [if_pos (by omega), List.mem_singleton]
theorem arc_odd {N : NetD} {f v h : Nat} : Arc N f (2 * v + 1) h ↔ ∃ w, w ∈ arcsOf N f v ∧ h = 2 * w := by
  unfold Arc arcs0
  rw [if_neg (by omega), List.mem_map, show (2 * v + 1) / 2 = v by omega]
  exact ⟨fun ⟨w, h1, h2⟩ => ⟨w, h1, h2.symm⟩, fun ⟨w, h1, h2⟩ => ⟨w, h1, h2.symm⟩⟩
theorem arcs_mem {N : NetD} {f v w : Nat} : w ∈ arcsOf N f v ↔ (v = f ∨ host N v = false) ∧ w < N.ks.length ∧ adj N v w = true := by
  unfold arcsOf nbs
  split
  · rename_i h
    rw [List.mem_filter, List.mem_range]
    rw [Bool.or_eq_true, decide_eq_true_eq, Bool.not_eq_true'] at h
    exact ⟨fun z => ⟨h, z⟩, fun z => z.2⟩
  · rename_i h
    rw [Bool.or_eq_true, decide_eq_true_eq, Bool.not_eq_true'] at h
    exact ⟨(fun z => by cases z), fun z => absurd z.1 h⟩
theorem two_ways (p : Nat) : (∃ v, p = 2 * v) ∨ ∃ v, p = 2 * v + 1 := by
  by_cases h : p % 2 = 0
  · exact .inl ⟨p / 2, by omega⟩
  · exact .inr ⟨p / 2, by omega⟩
theorem arc_anti {N : NetD} (h : Dist N.ls) (f : Nat) : Anti (Arc N f) := fun p q a b => by
  rcases two_ways p with ⟨v, rfl⟩ | ⟨v, rfl⟩
  · rw [arc_even] at a
    rw [a] at b
    obtain ⟨w, h1, h2⟩ := arc_odd.mp b
    have : w = v := by omega
    rw [this] at h1
    have := (arcs_mem.mp h1).2.2
    rw [adj_self h] at this
    cases this
  · obtain ⟨w, h1, h2⟩ := arc_odd.mp a
    rw [h2] at b
    have := arc_even.mp b
    have : w = v := by omega
    rw [this] at h1
    have := (arcs_mem.mp h1).2.2
    rw [adj_self h] at this
    cases this
theorem res0 (N : NetD) (f : Nat) : Res (Arc N f) (fun _ _ => False) (arcs0 N f) := ⟨fun p h => ⟨fun z => .inl ⟨z, id⟩, fun z => z.elim (fun z => z.1) False.elim⟩, fun _ _ z => z.elim⟩
/-! ### a flow of two -/
structure Two (N : NetD) (f l : Nat) (F : Nat → Nat → Prop) : Prop where
  sub : ∀ p h, F p h → Arc N f p h
  bd : ∀ p h, F p h → p < 2 * N.ks.length ∧ h < 2 * N.ks.length
  ex : ∀ p, exF F (2 * N.ks.length) p = 2 * bi (p = 2 * f + 1) - 2 * bi (p = 2 * l)
  nos : ∀ p, ¬ F p (2 * f + 1)
structure Ends (N : NetD) (f l : Nat) : Prop where
  d : Dist N.ls
  hf : host N f = true
  hl : host N l = true
  ne : f ≠ l
  fl : f < N.ks.length
  ll : l < N.ks.length
section
variable {N : NetD} {f l : Nat} {F : Nat → Nat → Prop}
theorem Two.out_even (T : Two N f l F) {v : Nat} : outF F (2 * N.ks.length) (2 * v) = bi (F (2 * v) (2 * v + 1)) := by
  unfold outF
  by_cases h : 2 * v + 1 < 2 * N.ks.length
  · exact sum_one (j := 2 * v + 1) h fun i _ hi => bi_f fun z => hi (arc_even.mp (T.sub _ _ z))
  · rw [bi_f fun z => h (T.bd _ _ z).2]
    refine sum_zero fun i hi => bi_f fun z => ?_
    have := arc_even.mp (T.sub _ _ z)
    omega
theorem Two.in_odd (T : Two N f l F) {v : Nat} : inF F (2 * N.ks.length) (2 * v + 1) = bi (F (2 * v) (2 * v + 1)) := by
  have only : ∀ q, F q (2 * v + 1) → q = 2 * v := fun q z => by
    rcases two_ways q with ⟨u, rfl⟩ | ⟨u, rfl⟩
    · have := arc_even.mp (T.sub _ _ z)
      omega
    · obtain ⟨w, _, e⟩ := arc_odd.mp (T.sub _ _ z)
      omega
  unfold inF
  by_cases h : 2 * v < 2 * N.ks.length
  · exact sum_one (j := 2 * v) h fun i _ hi => bi_f fun z => hi (only i z)
  · rw [bi_f fun z => h (T.bd _ _ z).1]
    refine sum_zero fun i hi => bi_f fun z => ?_
    have := only i z
    omega
theorem Two.ex0 (T : Two N f l F) {p : Nat} (h1 : p ≠ 2 * f + 1) (h2 : p ≠ 2 * l) : outF F (2 * N.ks.length) p = inF F (2 * N.ks.length) p := by
  have := T.ex p
  rw [bi_f h1, bi_f h2] at this
  unfold exF at this
  omega
theorem in_pos {F : Nat → Nat → Prop} {M p q : Nat} (h : F q p) (hq : q < M) : 1 ≤ inF F M p := by
  have := sum_ge (g := fun q => bi (F q p)) hq fun k _ => (bi_01 _).1
  simp only [bi_t h] at this
  exact this
theorem Two.in_first (T : Two N f l F) (E : Ends N f l) {p : Nat} : ¬ F p (2 * f) := fun z => by
  have h1 := T.ex0 (p := 2 * f) (by omega) (by have := E.ne; omega)
  rw [T.out_even, bi_f (T.nos _)] at h1
  have := in_pos z (T.bd _ _ z).1
  omega
theorem Two.no_last (T : Two N f l F) (E : Ends N f l) {w : Nat} : ¬ F (2 * l + 1) w := fun z => by
  obtain ⟨x, h1, _⟩ := arc_odd.mp (T.sub _ _ z)
  rcases (arcs_mem.mp h1).1 with e | e
  · exact E.ne e.symm
  · rw [E.hl] at e
    cases e
/-- one way in at most, but at the last -/
theorem Two.pred (T : Two N f l F) (E : Ends N f l) {u u' v : Nat} (hv : v ≠ l) (h : F (2 * u + 1) (2 * v)) (h' : F (2 * u' + 1) (2 * v)) : u = u' := by
  have hf : v ≠ f := fun e => T.in_first E (e ▸ h)
  have h1 := T.ex0 (p := 2 * v) (by omega) (by omega)
  rw [T.out_even] at h1
  have b := bi_01 (F (2 * v) (2 * v + 1))
  by_cases e : u = u'
  · exact e
  · have := sum_two (g := fun q => bi (F q (2 * v))) (T.bd _ _ h).1 (T.bd _ _ h').1 (by omega) fun k _ => (bi_01 _).1
    simp only [bi_t h, bi_t h'] at this
    unfold inF at h1
    omega
/-- the nodes to which the flow goes on -/
def usedN (N : NetD) (A : Nat → List Nat) (v : Nat) : List Nat := (nbs N v).filter fun w => (A (2 * w)).contains (2 * v + 1)
theorem used_mem {A : Nat → List Nat} (d : Dist N.ls) (r : Res (Arc N f) F A) {v w : Nat} : w ∈ usedN N A v ↔ F (2 * v + 1) (2 * w) := by
  unfold usedN nbs
  rw [List.mem_filter, List.mem_filter, List.mem_range]
  constructor
  · rintro ⟨⟨h1, h2⟩, h3⟩
    have h3 : 2 * v + 1 ∈ A (2 * w) := by simpa using h3
    rcases (r.mem _ _).mp h3 with ⟨a, _⟩ | b
    · have := arc_even.mp a
      have : v = w := by omega
      rw [this, adj_self d] at h2
      cases h2
    · exact b
  · intro h
    obtain ⟨x, h1, h2⟩ := arc_odd.mp (r.sub _ _ h)
    have e : w = x := by omega
    rw [← e] at h1
    obtain ⟨_, a, b⟩ := arcs_mem.mp h1
    exact ⟨⟨a, b⟩, by simpa using (r.mem _ _).mpr (.inr h)⟩
theorem used_nd {A : Nat → List Nat} (v : Nat) : (usedN N A v).Nodup := by
  unfold usedN nbs
  exact ((range_pw _).imp fun h => Nat.ne_of_lt h).filter _ |>.filter _
theorem used_len {A : Nat → List Nat} (d : Dist N.ls) (r : Res (Arc N f) F A) (T : Two N f l F) (v : Nat) : ((usedN N A v).length : Int) = outF F (2 * N.ks.length) (2 * v + 1) := by
  have nd : ((usedN N A v).map fun w => 2 * w).Nodup := by
    unfold List.Nodup
    rw [List.pairwise_map]
    exact (used_nd v).imp fun h e => h (by omega)
  have hm : ∀ q, q ∈ (usedN N A v).map (fun w => 2 * w) ↔ F (2 * v + 1) q := fun q => by
    rw [List.mem_map]
    constructor
    · rintro ⟨w, hw, rfl⟩
      exact (used_mem d r).mp hw
    · intro h
      obtain ⟨x, _, e⟩ := arc_odd.mp (r.sub _ _ h)
      exact ⟨x, (used_mem d r).mpr (e ▸ h), e.symm⟩
  have := sum_mem (M := 2 * N.ks.length) nd fun x hx => (T.bd _ _ ((hm x).mp hx)).2
  rw [List.length_map] at this
  rw [← this]
  unfold outF
  exact sum_congr fun q _ => by rw [propext (hm q)]
theorem used_first {A : Nat → List Nat} (E : Ends N f l) (r : Res (Arc N f) F A) (T : Two N f l F) : ∃ x y, usedN N A f = [x, y] ∧ x ≠ y := by
  have h := used_len E.d r T f
  have ex := T.ex (2 * f + 1)
  rw [bi_t rfl, bi_f (fun z : 2 * f + 1 = 2 * l => by omega)] at ex
  unfold exF at ex
  rw [T.in_odd, bi_f (T.nos _)] at ex
  have hl : (usedN N A f).length = 2 := by omega
  have nd := used_nd (N := N) (A := A) f
  match hu : usedN N A f, hl with
  | [x, y], _ =>
    rw [hu, List.nodup_cons] at nd
    exact ⟨x, y, rfl, fun e => nd.1 (List.mem_singleton.mpr e)⟩
theorem used_one {A : Nat → List Nat} (E : Ends N f l) (r : Res (Arc N f) F A) (T : Two N f l F) {u v : Nat} (h : F (2 * u + 1) (2 * v)) (hv : v ≠ l) : ∃ x, usedN N A v = [x] := by
  have hf : v ≠ f := fun e => T.in_first E (e ▸ h)
  have h1 := T.ex0 (p := 2 * v) (by omega) (by omega)
  have h2 := T.ex0 (p := 2 * v + 1) (by omega) (by omega)
  rw [T.out_even] at h1
  rw [T.in_odd] at h2
  have := in_pos h (T.bd _ _ h).1
  have b := bi_01 (F (2 * v) (2 * v + 1))
  have hl := used_len E.d r T v
  have hl : (usedN N A v).length = 1 := by omega
  match hu : usedN N A v, hl with
  | [x], _ => exact ⟨x, rfl⟩
/-! ### trails -/
structure Trail (f : Nat) (F : Nat → Nat → Prop) (r : List Nat) : Prop where
  two : 2 ≤ r.length
  fst : r.getD 0 0 = f
  ch : ∀ k, k + 1 < r.length → F (2 * r.getD k 0 + 1) (2 * r.getD (k + 1) 0)
theorem Trail.not_first (T : Two N f l F) (E : Ends N f l) {r : List Nat} (t : Trail f F r) {k : Nat} (k0 : 0 < k) (hk : k < r.length) : r.getD k 0 ≠ f := fun e => by
  have := t.ch (k - 1) (by omega)
  rw [show k - 1 + 1 = k by omega, e] at this
  exact T.in_first E this
theorem Trail.not_last (T : Two N f l F) (E : Ends N f l) {r : List Nat} (t : Trail f F r) {k : Nat} (hk : k + 1 < r.length) : r.getD k 0 ≠ l := fun e => by
  have := t.ch k hk
  rw [e] at this
  exact T.no_last E this
theorem Trail.inj (T : Two N f l F) (E : Ends N f l) {r : List Nat} (t : Trail f F r) : ∀ i j, i < j → j < r.length → r.getD i 0 ≠ r.getD j 0
  | 0, j, h, hj, e => t.not_first T E h hj (by rw [← e, t.fst])
  | i + 1, j, h, hj, e => by
    have a := t.ch i (by omega)
    have b := t.ch (j - 1) (by omega)
    rw [show j - 1 + 1 = j by omega, ← e] at b
    exact Trail.inj T E t i (j - 1) (by omega) (by omega) (T.pred E (t.not_last T E (by omega)) a b)
theorem Trail.nodup (T : Two N f l F) (E : Ends N f l) {r : List Nat} (t : Trail f F r) : r.Nodup := by
  refine List.pairwise_iff_getElem.mpr fun i j hi hj h e => ?_
  refine t.inj T E i j h hj ?_
  rw [getD_lt 0 hi, getD_lt 0 hj]
  exact e
theorem Trail.is_path (T : Two N f l F) (E : Ends N f l) {r : List Nat} (t : Trail f F r) (hl : lastN r = l) : IsP N r := by
  have arc : ∀ k, k + 1 < r.length → (r.getD k 0 = f ∨ host N (r.getD k 0) = false) ∧ adj N (r.getD k 0) (r.getD (k + 1) 0) = true := fun k hk => by
    obtain ⟨w, h1, h2⟩ := arc_odd.mp (T.sub _ _ (t.ch k hk))
    have : w = r.getD (k + 1) 0 := by omega
    rw [this] at h1
    obtain ⟨a, _, b⟩ := arcs_mem.mp h1
    exact ⟨a, b⟩
  refine ⟨t.two, t.nodup T E, fun k hk => ?_, fun k hk => (arc k hk).2⟩
  by_cases e0 : k = 0
  · rw [e0, t.fst, E.hf]; rfl
  · by_cases e1 : k + 1 = r.length
    · unfold lastN at hl
      rw [show k = r.length - 1 by omega, hl, E.hl, decide_eq_true (by omega : r.length - 1 + 1 = r.length), Bool.or_true]
    · rcases (arc k (by omega)).1 with z | z
      · exact absurd z (t.not_first T E (by omega) hk)
      · rw [z, decide_eq_false e0, decide_eq_false e1]; rfl
theorem Trail.lt (T : Two N f l F) {r : List Nat} (E : Ends N f l) (t : Trail f F r) : ∀ x ∈ r, x < N.ks.length := fun x hx => by
  obtain ⟨k, ek⟩ := List.mem_iff_getElem?.mp hx
  obtain ⟨hk, _⟩ := List.getElem?_eq_some_iff.mp ek
  have ex : r.getD k 0 = x := by rw [List.getD_eq_getElem?_getD, ek]; rfl
  by_cases e0 : k = 0
  · rw [← ex, e0, t.fst]; exact E.fl
  · have := t.ch (k - 1) (by omega)
    rw [show k - 1 + 1 = k by omega, ex] at this
    have := (T.bd _ _ this).2
    omega
theorem trail_sep (T : Two N f l F) (E : Ends N f l) {r s : List Nat} (a : Trail f F r) (b : Trail f F s) (ne : r.getD 1 0 ≠ s.getD 1 0) : ∀ i j, 0 < i → 0 < j → i + 1 < r.length → j < s.length → r.getD i 0 ≠ s.getD j 0
  | 0, _, h, _, _, _, _ => absurd h (Nat.lt_irrefl _)
  | i + 1, 0, _, h, _, _, _ => absurd h (Nat.lt_irrefl _)
  | i + 1, j + 1, _, _, hi, hj, e => by
    have x := a.ch i (by omega)
    have y := b.ch j (by omega)
    rw [← e] at y
    have z := T.pred E (a.not_last T E hi) x y
    by_cases i0 : i = 0
    · by_cases j0 : j = 0
      · rw [i0, j0] at e
        exact ne e
      · rw [i0, a.fst] at z
        exact b.not_first T E (by omega) (by omega) z.symm
    · by_cases j0 : j = 0
      · rw [j0, b.fst] at z
        exact a.not_first T E (by omega) (by omega) z
      · exact trail_sep T E a b ne i j (by omega) (by omega) (by omega) (by omega) z
theorem Trail.start {x : Nat} (h : F (2 * f + 1) (2 * x)) : Trail f F [f, x] := ⟨by show 2 ≤ 2; omega, rfl, fun k hk => by
  have : k + 1 < 2 := hk
  have e : k = 0 := by omega
  rw [e]
  exact h⟩
theorem Trail.ext {r : List Nat} {x : Nat} (t : Trail f F r) (h : F (2 * lastN r + 1) (2 * x)) : Trail f F (r ++ [x]) := by
  have two := t.two
  refine ⟨by rw [List.length_append]; omega, by rw [app_l (by omega)]; exact t.fst, fun k hk => ?_⟩
  rw [List.length_append, List.length_singleton] at hk
  by_cases e : k + 1 < r.length
  · rw [app_l (by omega), app_l e]
    exact t.ch k e
  · have e2 : k = r.length - 1 := by omega
    rw [app_l (by omega), show k + 1 = r.length by omega, app_r, e2]
    exact h
end
end My
/-! Two ways give a flow of two; where there is no second way, all paths have a switch in common, or there is but the line between the ends. No row. -/
namespace My
open PySem PySem.Spec PyProof.Rows L2
section
variable {N : NetD} {f l : Nat}
theorem arc_bd {p h : Nat} (a : Arc N f p h) (hp : p < 2 * N.ks.length) : h < 2 * N.ks.length := by
  rcases two_ways p with ⟨v, rfl⟩ | ⟨v, rfl⟩
  · have := arc_even.mp a
    omega
  · obtain ⟨w, h1, h2⟩ := arc_odd.mp a
    have := (arcs_mem.mp h1).2.1
    omega
theorem Way.bd {A : Nat → List Nat} {s t M : Nat} {W : List Nat} (w : Way A s t W) (hs : s < M) (hA : ∀ p, p < M → ∀ h ∈ A p, h < M) : ∀ x ∈ W, x < M := by
  have all : ∀ k, k < W.length → W.getD k 0 < M := fun k => by
    induction k with
    | zero => intro _; rw [w.fst]; exact hs
    | succ k ih => intro hk; exact hA _ (ih (by omega)) _ (w.ch k hk)
  intro x hx
  obtain ⟨k, ek⟩ := List.mem_iff_getElem?.mp hx
  obtain ⟨hk, _⟩ := List.getElem?_eq_some_iff.mp ek
  have := all k hk
  rw [List.getD_eq_getElem?_getD, ek] at this
  exact this
theorem turn_bd {A : Nat → List Nat} {W : List Nat} {M : Nat} (hA : ∀ p, p < M → ∀ h ∈ A p, h < M) (hW : ∀ x ∈ W, x < M) : ∀ p, p < M → ∀ h ∈ turnA A W p, h < M := fun p hp h hh => by
  rcases turn_mem'.mp hh with ⟨a, _⟩ | a
  · exact hA p hp h a
  · exact hW h (port_both a).1
theorem ex_none (M p : Nat) : exF (fun _ _ => False) M p = 0 := by
  unfold exF outF inF
  rw [sum_zero fun i _ => bi_f id]
  rfl
theorem plus_bd {Arc F : Nat → Nat → Prop} {W : List Nat} {M : Nat} (hF : ∀ p h, F p h → p < M ∧ h < M) (hW : ∀ x ∈ W, x < M) : ∀ p h, plus Arc F W p h → p < M ∧ h < M := fun p h x => by
  rcases x with ⟨x, _⟩ | ⟨_, x⟩
  · exact hF p h x
  · exact ⟨hW p (port_both x).1, hW h (port_both x).2⟩
def F1 (N : NetD) (f : Nat) (W : List Nat) : Nat → Nat → Prop := plus (Arc N f) (fun _ _ => False) W
theorem two_of {W V : List Nat} (E : Ends N f l) (w : Way (arcs0 N f) (2 * f + 1) (2 * l) W) (v : Way (turnA (arcs0 N f) W) (2 * f + 1) (2 * l) V) :
    Two N f l (plus (Arc N f) (F1 N f W) V) ∧ Res (Arc N f) (plus (Arc N f) (F1 N f W) V) (turnA (turnA (arcs0 N f) W) V) := by
  have hM : 2 * f + 1 < 2 * N.ks.length := by have := E.fl; omega
  have bA : ∀ p, p < 2 * N.ks.length → ∀ h ∈ arcs0 N f p, h < 2 * N.ks.length := fun p hp h hh => arc_bd hh hp
  have bW := w.bd hM bA
  have bV := v.bd hM (turn_bd bA bW)
  have r1 := (res0 N f).turn (arc_anti E.d f) w
  have r2 := r1.turn (arc_anti E.d f) v
  have st : 2 * f + 1 ≠ 2 * l := by omega
  refine ⟨⟨r2.sub, plus_bd (plus_bd (fun _ _ z => z.elim) bW) bV, fun p => ?_, fun p z => ?_⟩, r2⟩
  · have x1 := ex_plus (arc_anti E.d f) r1 v bV st p
    have x2 := ex_plus (arc_anti E.d f) (res0 N f) w bW st p
    rw [ex_none] at x2
    show exF (plus (Arc N f) (plus (Arc N f) (fun _ _ => False) W) V) _ p = _
    rw [x1, x2]
    omega
  · rcases z with ⟨z, _⟩ | ⟨_, z⟩
    · rcases z with ⟨z, _⟩ | ⟨_, z⟩
      · exact z
      · exact w.no_start z
    · exact v.no_start z
/-! ### the cut -/
theorem nd_take' {r : List Nat} (h : r.Nodup) (i : Nat) : (r.take i).Nodup := (List.take_sublist i r).nodup h
theorem Way.pre {A : Nat → List Nat} {s t : Nat} {W : List Nat} (w : Way A s t W) {k : Nat} (hk : k < W.length) : Way A s (W.getD k 0) (W.take (k + 1)) := by
  have len : (W.take (k + 1)).length = k + 1 := by rw [List.length_take]; omega
  have at_ : ∀ i, i < k + 1 → (W.take (k + 1)).getD i 0 = W.getD i 0 := fun i hi => by
    rw [List.getD_eq_getElem?_getD, List.getElem?_take, if_pos hi, ← List.getD_eq_getElem?_getD]
  refine ⟨by omega, nd_take' w.nd _, by rw [at_ 0 (by omega)]; exact w.fst, ?_, fun i hi => ?_⟩
  · unfold lastN
    rw [len, Nat.add_sub_cancel, at_ k (by omega)]
  · rw [len] at hi
    rw [at_ i (by omega), at_ (i + 1) hi]
    exact w.ch i (by omega)
theorem Way.ext {A : Nat → List Nat} {s t h : Nat} {W : List Nat} (w : Way A s t W) (hh : h ∈ A t) : ∃ V, Way A s h V := by
  by_cases m : h ∈ W
  · obtain ⟨k, ek⟩ := List.mem_iff_getElem?.mp m
    obtain ⟨hk, _⟩ := List.getElem?_eq_some_iff.mp ek
    have ex : W.getD k 0 = h := by rw [List.getD_eq_getElem?_getD, ek]; rfl
    exact ⟨_, ex ▸ w.pre hk⟩
  · have two := w.two
    refine ⟨W ++ [h], by rw [List.length_append]; omega, nd_snoc' w.nd m, by rw [app_l (by omega)]; exact w.fst, lastN_app W h, fun k hk => ?_⟩
    rw [List.length_append, List.length_singleton] at hk
    by_cases e : k + 1 < W.length
    · rw [app_l (by omega), app_l e]
      exact w.ch k e
    · rw [app_l (by omega), show k + 1 = W.length by omega, app_r, show k = W.length - 1 by omega]
      have l := w.lst
      unfold lastN at l
      rw [l]
      exact hh
theorem Way.one (A : Nat → List Nat) (s : Nat) : Way A s s [s] := ⟨Nat.le_refl _, by simp, rfl, rfl, fun k hk => by
  have : k + 1 < 1 := hk
  omega⟩
/-- the first step out of S -/
theorem step_out {S : Nat → Prop} : ∀ {m : Nat} {g : Nat → Nat}, S (g 0) → ¬ S (g m) → ∃ k, k < m ∧ S (g k) ∧ ¬ S (g (k + 1))
  | 0, _, h, n => absurd h n
  | m + 1, g, h, n => by
    by_cases e : S (g m)
    · exact ⟨m, Nat.lt_succ_self _, e, n⟩
    · obtain ⟨k, h1, h2⟩ := step_out h e
      exact ⟨k, by omega, h2⟩
theorem cut_of {W : List Nat} (E : Ends N f l) (w : Way (arcs0 N f) (2 * f + 1) (2 * l) W) (hno : ∀ V, ¬ Way (turnA (arcs0 N f) W) (2 * f + 1) (2 * l) V) :
    (∃ v, v < N.ks.length ∧ host N v = false ∧ ∀ r, IsP N r → (∀ x ∈ r, x < N.ks.length) → r.getD 0 0 = f → lastN r = l → v ∈ r) ∨ ∀ r, IsP N r → (∀ x ∈ r, x < N.ks.length) → r.getD 0 0 = f → lastN r = l → r = [f, l] := by
  have hM : 2 * f + 1 < 2 * N.ks.length := by have := E.fl; omega
  have bA : ∀ p, p < 2 * N.ks.length → ∀ h ∈ arcs0 N f p, h < 2 * N.ks.length := fun p hp h hh => arc_bd hh hp
  have bW := w.bd hM bA
  have hS : ∃ S : Nat → Prop, ∀ p, S p ↔ ∃ V, Way (turnA (arcs0 N f) W) (2 * f + 1) p V := ⟨_, fun _ => Iff.rfl⟩
  obtain ⟨S, hS⟩ := hS
  have s0 : S (2 * f + 1) := (hS _).mpr ⟨_, Way.one _ _⟩
  have st : ¬ S (2 * l) := fun z => by
    obtain ⟨V, hV⟩ := (hS _).mp z
    exact hno V hV
  have step : ∀ p h, S p → h ∈ turnA (arcs0 N f) W p → S h := fun p h z hh => by
    obtain ⟨V, hV⟩ := (hS _).mp z
    exact (hS _).mpr (hV.ext hh)
  -- an arc out of S is of the way
  have cross : ∀ p h, Arc N f p h → S p → ¬ S h → (p, h) ∈ portsOf W := fun p h a z n => by
    by_cases m : (p, h) ∈ portsOf W
    · exact m
    · exact absurd (step p h z (turn_mem'.mpr (.inl ⟨a, m⟩))) n
  have down : ∀ k, k + 1 < W.length → S (W.getD (k + 1) 0) → S (W.getD k 0) := fun k hk z => step _ _ z (turn_mem'.mpr (.inr (mem_ports.mpr ⟨k, hk, rfl⟩)))
  have hl := w.lst
  unfold lastN at hl
  obtain ⟨c, c1, c2, c3⟩ := step_out (S := S) (m := W.length - 1) (g := fun k => W.getD k 0) (by rw [w.fst]; exact s0) (by rw [hl]; exact st)
  have le : ∀ k d, k + d < W.length → S (W.getD (k + d) 0) → S (W.getD k 0) := fun k d => by
    induction d with
    | zero => intro _ z; exact z
    | succ d ih => intro h z; exact ih (by omega) (down (k + d) h z)
  have only : ∀ p h, Arc N f p h → S p → ¬ S h → p = W.getD c 0 ∧ h = W.getD (c + 1) 0 := fun p h a z n => by
    obtain ⟨k, hk, e⟩ := mem_ports.mp (cross p h a z n)
    injection e with e1 e2
    have k1 : k ≤ c := by
      rcases Nat.lt_or_ge c k with x | x
      · refine absurd ?_ c3
        have := le (c + 1) (k - (c + 1)) (by omega)
        rw [show c + 1 + (k - (c + 1)) = k by omega] at this
        exact this (e1 ▸ z)
      · exact x
    have k2 : c ≤ k := by
      rcases Nat.lt_or_ge k c with x | x
      · refine absurd ?_ n
        rw [e2]
        have := le (k + 1) (c - (k + 1)) (by omega)
        rw [show k + 1 + (c - (k + 1)) = c by omega] at this
        exact this c2
      · exact x
    have : k = c := by omega
    subst this
    exact ⟨e1, e2⟩
  -- each path goes along the one arc
  have row : ∀ r, IsP N r → (∀ x ∈ r, x < N.ks.length) → r.getD 0 0 = f → lastN r = l → (∃ k, k + 1 < r.length ∧ 2 * r.getD k 0 + 1 = W.getD c 0 ∧ 2 * r.getD (k + 1) 0 = W.getD (c + 1) 0) ∨ ∃ k, k < r.length ∧ 2 * r.getD k 0 = W.getD c 0 ∧ 2 * r.getD k 0 + 1 = W.getD (c + 1) 0 := fun r hr hb h0 h1 => by
    have two := hr.two
    unfold lastN at h1
    have arc : ∀ k, k + 1 < r.length → Arc N f (2 * r.getD k 0 + 1) (2 * r.getD (k + 1) 0) := fun k hk => by
      refine arc_odd.mpr ⟨_, arcs_mem.mpr ⟨?_, hb _ (getD_in hk), hr.ad k hk⟩, rfl⟩
      by_cases e : k = 0
      · exact .inl (by rw [e, h0])
      · refine .inr ?_
        rw [hr.hs k (by omega), decide_eq_false e, decide_eq_false (by omega)]
        rfl
    by_cases a : ∃ k, k + 1 < r.length ∧ S (2 * r.getD k 0 + 1) ∧ ¬ S (2 * r.getD (k + 1) 0)
    · obtain ⟨k, hk, x, y⟩ := a
      obtain ⟨e1, e2⟩ := only _ _ (arc k hk) x y
      exact .inl ⟨k, hk, e1, e2⟩
    · by_cases b : ∃ k, k < r.length ∧ S (2 * r.getD k 0) ∧ ¬ S (2 * r.getD k 0 + 1)
      · obtain ⟨k, hk, x, y⟩ := b
        obtain ⟨e1, e2⟩ := only _ _ (arc_even.mpr rfl) x y
        exact .inr ⟨k, hk, e1, e2⟩
      · have all : ∀ k, k < r.length → S (2 * r.getD k 0 + 1) := fun k => by
          induction k with
          | zero => intro _; rw [h0]; exact s0
          | succ k ih =>
            intro hk
            have i := ih (by omega)
            have j : S (2 * r.getD (k + 1) 0) := Classical.byContradiction fun z => a ⟨k, hk, i, z⟩
            exact Classical.byContradiction fun z => b ⟨k + 1, hk, j, z⟩
        refine absurd ?_ st
        have i := all (r.length - 2) (by omega)
        refine Classical.byContradiction fun z => a ⟨r.length - 2, by omega, i, ?_⟩
        rw [show r.length - 2 + 1 = r.length - 1 by omega, h1]
        exact z
  have wc := w.ch c (by omega)
  have fin : c + 1 = W.length - 1 → W.getD (c + 1) 0 = 2 * l := fun e => by rw [e]; exact hl
  -- what goes on from an out place of the way
  have sw : ∀ k v, k + 1 < W.length → W.getD k 0 = 2 * v + 1 → v ≠ f → host N v = false := fun k v hk e ne => by
    have := w.ch k hk
    rw [e] at this
    obtain ⟨x, h1, _⟩ := arc_odd.mp this
    rcases (arcs_mem.mp h1).1 with z | z
    · exact absurd z ne
    · exact z
  have lt : ∀ v, (2 * v ∈ W ∨ 2 * v + 1 ∈ W) → v < N.ks.length := fun v h => by
    rcases h with h | h
    · have := bW _ h
      omega
    · have := bW _ h
      omega
  have mc : W.getD c 0 ∈ W := getD_in (by omega)
  have mc1 : W.getD (c + 1) 0 ∈ W := getD_in (by omega)
  rcases two_ways (W.getD c 0) with ⟨v, ev⟩ | ⟨v, ev⟩
  · -- a switch's own arc
    rw [ev] at wc
    have e1 := arc_even.mp wc
    have nf : v ≠ f := fun z => c3 (by
      show S (W.getD (c + 1) 0)
      rw [e1, z]
      exact s0)
    have c4 : c + 1 ≠ W.length - 1 := fun z => by
      have := fin z
      omega
    refine .inl ⟨v, lt v (.inl (ev ▸ mc)), sw (c + 1) v (by omega) e1 nf, fun r hr hb h0 h1 => ?_⟩
    rcases row r hr hb h0 h1 with ⟨k, hk, a, b⟩ | ⟨k, hk, a, b⟩
    · omega
    · have : r.getD k 0 = v := by omega
      rw [← this]
      exact getD_in hk
  · rw [ev] at wc
    obtain ⟨x, h1, e1⟩ := arc_odd.mp wc
    have rows : ∀ r, IsP N r → (∀ x ∈ r, x < N.ks.length) → r.getD 0 0 = f → lastN r = l → ∃ k, k + 1 < r.length ∧ r.getD k 0 = v ∧ r.getD (k + 1) 0 = x := fun r hr hb h0 h1 => by
      rcases row r hr hb h0 h1 with ⟨k, hk, a, b⟩ | ⟨k, hk, a, b⟩
      · exact ⟨k, hk, by omega, by omega⟩
      · omega
    by_cases xl : x = l
    · by_cases vf : v = f
      · refine .inr fun r hr hb h0 h1 => ?_
        obtain ⟨k, hk, a, b⟩ := rows r hr hb h0 h1
        have k0 : k = 0 := nd_getD hr.nd (by omega) (by omega) (by rw [a, h0, vf])
        unfold lastN at h1
        have k1 : k + 1 = r.length - 1 := nd_getD hr.nd hk (by omega) (by rw [b, h1, xl])
        have h2 : r.length = 2 := by omega
        rw [k0, xl] at b
        match r, h2, h0, b with
        | [y, z], _, h0, b =>
          have h0 : y = f := h0
          have b : z = l := b
          rw [h0, b]
      · refine .inl ⟨v, lt v (.inr (ev ▸ mc)), sw c v (by omega) ev vf, fun r hr hb h0 h1 => ?_⟩
        obtain ⟨k, hk, a, _⟩ := rows r hr hb h0 h1
        rw [← a]
        exact getD_in (by omega)
    · have c4 : c + 1 ≠ W.length - 1 := fun z => by
        have := fin z
        omega
      have wc1 := w.ch (c + 1) (by omega)
      rw [e1] at wc1
      have e2 := arc_even.mp wc1
      have xf : x ≠ f := fun z => by
        rw [z] at e2
        have := nd_getD w.nd (by omega : c + 1 + 1 < W.length) (by omega : 0 < W.length) (by rw [e2, w.fst])
        omega
      have c5 : c + 1 + 1 ≠ W.length - 1 := fun z => by
        have : W.getD (c + 1 + 1) 0 = 2 * l := by rw [z]; exact hl
        omega
      refine .inl ⟨x, lt x (.inl (e1 ▸ mc1)), sw (c + 1 + 1) x (by omega) e2 xf, fun r hr hb h0 h1 => ?_⟩
      obtain ⟨k, hk, _, b⟩ := rows r hr hb h0 h1
      rw [← b]
      exact getD_in hk
end
end My
/-! The search level by level along any arcs: it finds a way just where there is one. No row. -/
namespace My
open PySem PySem.Spec PyProof.Rows L2
section
variable {A : Nat → List Nat} {s n : Nat}
structure In (A : Nat → List Nat) (s t : Nat) (W0 : Ways) (st : Ways × List Nat) : Prop where
  way : ∀ v r, st.1 v = some r → Way A s v r ∧ ∀ x ∈ r, (st.1 x).isSome = true
  lev : ∀ v ∈ st.2, ∃ r, st.1 v = some r ∧ r.length = t + 1
  old : ∀ v r, W0 v = some r → st.1 v = some r
  new : ∀ v, (st.1 v).isSome = true → (W0 v).isSome = true ∨ v ∈ st.2
theorem Way.snoc {t v : Nat} {r : List Nat} (w : Way A s t r) (hv : v ∈ A t) (nv : v ∉ r) : Way A s v (r ++ [v]) := by
  have two := w.two
  refine ⟨by rw [List.length_append]; omega, nd_snoc' w.nd nv, by rw [app_l (by omega)]; exact w.fst, lastN_app r v, fun k hk => ?_⟩
  rw [List.length_append, List.length_singleton] at hk
  by_cases e : k + 1 < r.length
  · rw [app_l (by omega), app_l e]
    exact w.ch k e
  · rw [app_l (by omega), show k + 1 = r.length by omega, app_r, show k = r.length - 1 by omega]
    have l := w.lst
    unfold lastN at l
    rw [l]
    exact hv
theorem In.visit {t u v : Nat} {W0 : Ways} {st : Ways × List Nat} {ru : List Nat} (h : In A s (t + 1) W0 st) (hu : W0 u = some ru) (hl : ru.length = t + 1) (hv : v ∈ A u) : In A s (t + 1) W0 (visit u st v) ∧ ((visit u st v).1 v).isSome = true := by
  by_cases e : (st.1 v).isSome = true
  · rw [visit_some e]
    exact ⟨h, e⟩
  · rw [visit_none e]
    have hu' := h.old u ru hu
    obtain ⟨w, hw⟩ := h.way u ru hu'
    have nv : v ∉ ru := fun m => e (hw v m)
    rw [hu']
    show In A s (t + 1) W0 (setW st.1 v (ru ++ [v]), st.2 ++ [v]) ∧ (setW st.1 v (ru ++ [v]) v).isSome = true
    have at_ : ∀ x, setW st.1 v (ru ++ [v]) x = if x = v then some (ru ++ [v]) else st.1 x := fun x => rfl
    have mono : ∀ x, (st.1 x).isSome = true → (setW st.1 v (ru ++ [v]) x).isSome = true := fun x hx => by
      rw [at_]
      split
      · rfl
      · exact hx
    refine ⟨⟨fun x r hx => ?_, fun x hx => ?_, fun x r hx => ?_, fun x hx => ?_⟩, by rw [at_, if_pos rfl]; rfl⟩
    · have hx : setW st.1 v (ru ++ [v]) x = some r := hx
      rw [at_] at hx
      by_cases z : x = v
      · rw [if_pos z] at hx
        have hx := Option.some.inj hx
        subst hx
        rw [z]
        refine ⟨w.snoc hv nv, fun y hy => ?_⟩
        rcases List.mem_append.mp hy with q | q
        · exact mono y (hw y q)
        · rw [List.mem_singleton.mp q]
          show (setW st.1 v (ru ++ [v]) v).isSome = true
          rw [at_, if_pos rfl]
          rfl
      · rw [if_neg z] at hx
        obtain ⟨a, b⟩ := h.way x r hx
        exact ⟨a, fun y hy => mono y (b y hy)⟩
    · rcases List.mem_append.mp hx with q | q
      · obtain ⟨r, a, b⟩ := h.lev x q
        refine ⟨r, ?_, b⟩
        show setW st.1 v (ru ++ [v]) x = some r
        rw [at_, if_neg fun z => e (by rw [← z, a]; rfl)]
        exact a
      · rw [List.mem_singleton.mp q]
        exact ⟨ru ++ [v], by show setW st.1 v (ru ++ [v]) v = _; rw [at_, if_pos rfl], by rw [List.length_append, hl]; rfl⟩
    · show setW st.1 v (ru ++ [v]) x = some r
      have := h.old x r hx
      rw [at_, if_neg fun z => e (by rw [← z, this]; rfl)]
      exact this
    · have hx : (setW st.1 v (ru ++ [v]) x).isSome = true := hx
      by_cases z : x = v
      · exact .inr (List.mem_append.mpr (.inr (List.mem_singleton.mpr z)))
      · rw [at_, if_neg z] at hx
        rcases h.new x hx with q | q
        · exact .inl q
        · exact .inr (List.mem_append.mpr (.inl q))
theorem visitP_keep {st : Ways × List Nat} {p : Nat × Nat} {x : Nat} (h : (st.1 x).isSome = true) : ((visitP st p).1 x).isSome = true := by
  obtain ⟨r, hr⟩ := Option.isSome_iff_exists.mp h
  unfold visitP
  rw [visit_keep hr]
  rfl
theorem fold_keep {x : Nat} : ∀ (ps : List (Nat × Nat)) {st : Ways × List Nat}, (st.1 x).isSome = true → ((ps.foldl visitP st).1 x).isSome = true
  | [], _, h => h
  | p :: r, _, h => fold_keep r (visitP_keep h)
theorem In.fold {t : Nat} {W0 : Ways} : ∀ (ps : List (Nat × Nat)) {st : Ways × List Nat}, In A s (t + 1) W0 st → (∀ p ∈ ps, p.2 ∈ A p.1 ∧ ∃ ru, W0 p.1 = some ru ∧ ru.length = t + 1) →
    In A s (t + 1) W0 (ps.foldl visitP st) ∧ ∀ p ∈ ps, ((ps.foldl visitP st).1 p.2).isSome = true
  | [], _, h, _ => ⟨h, fun p hp => by cases hp⟩
  | p :: r, st, h, hp => by
    obtain ⟨h1, ru, h2, h3⟩ := hp p List.mem_cons_self
    obtain ⟨i1, i2⟩ := h.visit h2 h3 h1
    obtain ⟨j1, j2⟩ := In.fold r (st := visitP st p) i1 fun q hq => hp q (List.mem_cons_of_mem _ hq)
    refine ⟨j1, fun q hq => ?_⟩
    rcases List.mem_cons.mp hq with e | hq
    · rw [e]
      exact fold_keep r i2
    · exact j2 q hq
/-- a level that is through -/
structure Lvl (A : Nat → List Nat) (s t : Nat) (st : Ways × List Nat) : Prop where
  way : ∀ v r, st.1 v = some r → Way A s v r ∧ ∀ x ∈ r, (st.1 x).isSome = true
  lev : ∀ v ∈ st.2, ∃ r, st.1 v = some r ∧ r.length = t + 1
  clo : ∀ v, (st.1 v).isSome = true → v ∉ st.2 → ∀ h ∈ A v, (st.1 h).isSome = true
  fst : (st.1 s).isSome = true
theorem lvl_all : ∀ t, Lvl A s t (lev A s t)
  | 0 => by
    have at_ : ∀ x, (lev A s 0).1 x = if x = s then some [s] else none := fun x => rfl
    refine ⟨fun v r h => ?_, fun v hv => ?_, fun v h n => ?_, by rw [at_, if_pos rfl]; rfl⟩
    · rw [at_] at h
      by_cases z : v = s
      · rw [if_pos z] at h
        have h := Option.some.inj h
        subst h
        rw [z]
        refine ⟨Way.one A s, fun x hx => ?_⟩
        rw [List.mem_singleton.mp hx, at_, if_pos rfl]
        rfl
      · rw [if_neg z] at h
        cases h
    · have hv : v ∈ [s] := hv
      rw [List.mem_singleton.mp hv]
      exact ⟨[s], by rw [at_, if_pos rfl], rfl⟩
    · rw [at_] at h
      by_cases z : v = s
      · refine absurd ?_ n
        show v ∈ [s]
        exact List.mem_singleton.mpr z
      · rw [if_neg z] at h
        cases h
  | t + 1 => by
    have ih := lvl_all t
    have e : lev A s (t + 1) = (pairsOf A (lev A s t).2).foldl visitP ((lev A s t).1, []) := foldl_pairs A _ _
    have mp : ∀ p, p ∈ pairsOf A (lev A s t).2 ↔ p.1 ∈ (lev A s t).2 ∧ p.2 ∈ A p.1 := fun p => by
      unfold pairsOf
      rw [List.mem_flatMap]
      constructor
      · rintro ⟨u, hu, h⟩
        obtain ⟨v, hv, rfl⟩ := List.mem_map.mp h
        exact ⟨hu, hv⟩
      · rintro ⟨hu, hv⟩
        exact ⟨p.1, hu, List.mem_map.mpr ⟨p.2, hv, rfl⟩⟩
    have st : In A s (t + 1) (lev A s t).1 ((lev A s t).1, []) := ⟨ih.way, (fun v hv => by cases hv), fun v r h => h, fun v h => .inl h⟩
    obtain ⟨j1, j2⟩ := In.fold (t := t) (pairsOf A (lev A s t).2) st fun p hp => by
      obtain ⟨a, b⟩ := (mp p).mp hp
      exact ⟨b, ih.lev p.1 a⟩
    rw [← e] at j1 j2
    have keep : ∀ x, ((lev A s t).1 x).isSome = true → ((lev A s (t + 1)).1 x).isSome = true := fun x hx => by
      obtain ⟨r, hr⟩ := Option.isSome_iff_exists.mp hx
      rw [j1.old x r hr]
      rfl
    refine ⟨j1.way, j1.lev, fun v h nm hd hh => ?_, keep s ih.fst⟩
    rcases j1.new v h with q | q
    · by_cases m : v ∈ (lev A s t).2
      · exact j2 (v, hd) ((mp _).mpr ⟨m, hh⟩)
      · exact keep hd (ih.clo v q m hd hh)
    · exact absurd q nm
theorem lev_done (hs : s < n) (hA : ∀ a, a < n → ∀ b ∈ A a, b < n) : (lev A s n).2 = [] := by
  have h := lvl_all (A := A) (s := s) n
  cases e : (lev A s n).2 with
  | nil => rfl
  | cons u t =>
    obtain ⟨r, hr, hl⟩ := h.lev u (by rw [e]; exact List.mem_cons_self)
    have w := (h.way u r hr).1
    have := nodup_lt n r w.nd (w.bd hs hA)
    omega
theorem lev_way {T v : Nat} {r : List Nat} (h : (lev A s T).1 v = some r) : Way A s v r := ((lvl_all T).way v r h).1
theorem lev_none {T v : Nat} (hT : (lev A s T).2 = []) (h : (lev A s T).1 v = none) : ∀ W, ¬ Way A s v W := fun W w => by
  have L := lvl_all (A := A) (s := s) T
  have all : ∀ k, k < W.length → ((lev A s T).1 (W.getD k 0)).isSome = true := fun k => by
    induction k with
    | zero => intro _; rw [w.fst]; exact L.fst
    | succ k ih => intro hk; exact L.clo _ (ih (by omega)) (by rw [hT]; intro z; cases z) _ (w.ch k hk)
  have := all (W.length - 1) (by have := w.two; omega)
  have l := w.lst
  unfold lastN at l
  rw [l, h] at this
  cases this
end
end My
/-! Paths as ways, nets without a node or a line, what a bottleneck is. No row. -/
namespace My
open PySem PySem.Spec PyProof.Rows L2
structure Path (N : NetD) (f l : Nat) (r : List Nat) : Prop where
  is : IsP N r
  fst : r.getD 0 0 = f
  lst : lastN r = l
  lt : ∀ x ∈ r, x < N.ks.length
section
variable {N : NetD} {f l : Nat}
theorem arcs_lt' {p : Nat} : ∀ h ∈ arcsOf N f p, h < N.ks.length := fun h hh => (arcs_mem.mp hh).2.1
theorem way_path (E : Ends N f l) {r : List Nat} (w : Way (arcsOf N f) f l r) : Path N f l r := by
  have bd : ∀ x ∈ r, x < N.ks.length := w.bd E.fl fun p _ => arcs_lt'
  have hl := w.lst
  unfold lastN at hl
  have two : 2 ≤ r.length := by
    have h1 := w.two
    by_cases e : r.length = 1
    · rw [e] at hl
      exact absurd (w.fst.symm.trans hl) E.ne
    · omega
  refine ⟨⟨two, w.nd, fun k hk => ?_, fun k hk => (arcs_mem.mp (w.ch k hk)).2.2⟩, w.fst, w.lst, bd⟩
  by_cases e0 : k = 0
  · rw [e0, w.fst, E.hf]; rfl
  · by_cases e1 : k + 1 = r.length
    · rw [show k = r.length - 1 by omega, hl, E.hl, decide_eq_true (by omega : r.length - 1 + 1 = r.length), Bool.or_true]
    · rcases (arcs_mem.mp (w.ch k (by omega))).1 with z | z
      · refine absurd (nd_getD w.nd hk (by omega : 0 < r.length) (by rw [z, w.fst])) e0
      · rw [z, decide_eq_false e0, decide_eq_false e1]; rfl
theorem path_way {r : List Nat} (p : Path N f l r) : Way (arcsOf N f) f l r := by
  have two := p.is.two
  refine ⟨by omega, p.is.nd, p.fst, p.lst, fun k hk => arcs_mem.mpr ⟨?_, p.lt _ (getD_in hk), p.is.ad k hk⟩⟩
  by_cases e : k = 0
  · exact .inl (by rw [e]; exact p.fst)
  · refine .inr ?_
    rw [p.is.hs k (by omega), decide_eq_false e, decide_eq_false (by omega)]
    rfl
/-- nodes along arcs, places along split ones -/
theorem split_of {v : Nat} {r : List Nat} (w : Way (arcsOf N f) f v r) (hv : v ≠ f) : ∃ W, Way (arcs0 N f) (2 * f + 1) (2 * v) W := by
  have hl := w.lst
  unfold lastN at hl
  have all : ∀ k, k < r.length → ∃ W, Way (arcs0 N f) (2 * f + 1) (2 * r.getD k 0 + 1) W := fun k => by
    induction k with
    | zero => intro _; rw [w.fst]; exact ⟨_, Way.one _ _⟩
    | succ k ih =>
      intro hk
      obtain ⟨W, h⟩ := ih (by omega)
      obtain ⟨V, h⟩ := h.ext (arc_odd.mpr ⟨_, w.ch k hk, rfl⟩)
      exact h.ext (arc_even.mpr rfl)
  have two := w.two
  by_cases e : r.length = 1
  · rw [e] at hl
    exact absurd (hl.symm.trans w.fst) hv
  · obtain ⟨W, h⟩ := all (r.length - 2) (by omega)
    have := w.ch (r.length - 2) (by omega)
    rw [show r.length - 2 + 1 = r.length - 1 by omega, hl] at this
    exact h.ext (arc_odd.mpr ⟨_, this, rfl⟩)
theorem of_split {W : List Nat} (w : Way (arcs0 N f) (2 * f + 1) (2 * l) W) : ∃ r, Way (arcsOf N f) f l r := by
  have hl := w.lst
  unfold lastN at hl
  have all : ∀ k, k < W.length → ∀ v, (W.getD k 0 = 2 * v ∨ W.getD k 0 = 2 * v + 1) → ∃ r, Way (arcsOf N f) f v r := fun k => by
    induction k with
    | zero =>
      intro _ v hv
      rw [w.fst] at hv
      have : v = f := by omega
      rw [this]
      exact ⟨_, Way.one _ _⟩
    | succ k ih =>
      intro hk v hv
      have c := w.ch k hk
      rcases two_ways (W.getD k 0) with ⟨u, eu⟩ | ⟨u, eu⟩
      · rw [eu] at c
        have := arc_even.mp c
        exact ih (by omega) v (.inl (by omega))
      · rw [eu] at c
        obtain ⟨x, h1, h2⟩ := arc_odd.mp c
        have : v = x := by omega
        obtain ⟨r, hr⟩ := ih (by omega) u (.inr eu)
        rw [this]
        exact hr.ext h1
  have two := w.two
  exact all (W.length - 1) (by omega) l (.inl hl)
/-! ### without a node, without a line -/
def noNode (N : NetD) (v : Nat) : NetD := { N with ls := N.ls.filter fun x => !(decide (x.1 = v) || decide (x.2.1 = v)) }
def noLine (N : NetD) (a b : Nat) : NetD := { N with ls := N.ls.filter fun x => !hits a b x }
theorem adj_iff {a b : Nat} : adj N a b = true ↔ ∃ x ∈ N.ls, hits a b x = true := by
  unfold adj
  rw [List.any_eq_true]
theorem adj_node {v a b : Nat} : adj (noNode N v) a b = true ↔ adj N a b = true ∧ a ≠ v ∧ b ≠ v := by
  rw [adj_iff, adj_iff]
  constructor
  · rintro ⟨x, hx, h⟩
    obtain ⟨h1, h2⟩ := List.mem_filter.mp hx
    rw [Bool.not_eq_true', Bool.or_eq_false_iff, decide_eq_false_iff_not, decide_eq_false_iff_not] at h2
    refine ⟨⟨x, h1, h⟩, ?_⟩
    rcases hits_of h with ⟨e1, e2⟩ | ⟨e1, e2⟩
    · exact ⟨e1 ▸ h2.1, e2 ▸ h2.2⟩
    · exact ⟨e2 ▸ h2.2, e1 ▸ h2.1⟩
  · rintro ⟨⟨x, h1, h⟩, ha, hb⟩
    refine ⟨x, List.mem_filter.mpr ⟨h1, ?_⟩, h⟩
    rw [Bool.not_eq_true', Bool.or_eq_false_iff, decide_eq_false_iff_not, decide_eq_false_iff_not]
    rcases hits_of h with ⟨e1, e2⟩ | ⟨e1, e2⟩
    · exact ⟨e1 ▸ ha, e2 ▸ hb⟩
    · exact ⟨e1 ▸ hb, e2 ▸ ha⟩
theorem adj_line {a b x y : Nat} : adj (noLine N a b) x y = true ↔ adj N x y = true ∧ ¬ (x = a ∧ y = b) ∧ ¬ (x = b ∧ y = a) := by
  rw [adj_iff, adj_iff]
  constructor
  · rintro ⟨k, hk, h⟩
    obtain ⟨h1, h2⟩ := List.mem_filter.mp hk
    rw [Bool.not_eq_true'] at h2
    refine ⟨⟨k, h1, h⟩, fun z => ?_, fun z => ?_⟩
    · rw [z.1, z.2, h2] at h
      cases h
    · rw [z.1, z.2] at h
      rcases hits_of h with ⟨e1, e2⟩ | ⟨e1, e2⟩
      · rw [hits_mk (.inr ⟨e1, e2⟩)] at h2
        cases h2
      · rw [hits_mk (.inl ⟨e1, e2⟩)] at h2
        cases h2
  · rintro ⟨⟨k, h1, h⟩, n1, n2⟩
    refine ⟨k, List.mem_filter.mpr ⟨h1, ?_⟩, h⟩
    rw [Bool.not_eq_true']
    cases q : hits a b k with
    | false => rfl
    | true =>
      rcases hits_of h with ⟨e1, e2⟩ | ⟨e1, e2⟩ <;> rcases hits_of q with ⟨e3, e4⟩ | ⟨e3, e4⟩
      · exact absurd ⟨e1.symm.trans e3, e2.symm.trans e4⟩ n1
      · exact absurd ⟨e1.symm.trans e3, e2.symm.trans e4⟩ n2
      · exact absurd ⟨e2.symm.trans e4, e1.symm.trans e3⟩ n2
      · exact absurd ⟨e2.symm.trans e4, e1.symm.trans e3⟩ n1
def uses (r : List Nat) (a b : Nat) : Prop := (a, b) ∈ portsOf r ∨ (b, a) ∈ portsOf r
def openN (N : NetD) (f l v : Nat) : Prop := ∃ r, Path N f l r ∧ v ∉ r
def openL (N : NetD) (f l a b : Nat) : Prop := ∃ r, Path N f l r ∧ ¬ uses r a b
theorem path_node {v : Nat} : (∃ r, Path (noNode N v) f l r) ↔ openN N f l v := by
  constructor
  · rintro ⟨r, p⟩
    have two := p.is.two
    refine ⟨r, ⟨⟨p.is.two, p.is.nd, p.is.hs, fun k hk => (adj_node.mp (p.is.ad k hk)).1⟩, p.fst, p.lst, p.lt⟩, fun m => ?_⟩
    obtain ⟨k, ek⟩ := List.mem_iff_getElem?.mp m
    obtain ⟨hk, _⟩ := List.getElem?_eq_some_iff.mp ek
    have ex : r.getD k 0 = v := by rw [List.getD_eq_getElem?_getD, ek]; rfl
    by_cases e : k + 1 < r.length
    · exact (adj_node.mp (p.is.ad k e)).2.1 ex
    · have := (adj_node.mp (p.is.ad (k - 1) (by omega))).2.2
      rw [show k - 1 + 1 = k by omega] at this
      exact this ex
  · rintro ⟨r, p, n⟩
    have ne : ∀ k, k < r.length → r.getD k 0 ≠ v := fun k hk e => n (e ▸ getD_in hk)
    exact ⟨r, ⟨⟨p.is.two, p.is.nd, p.is.hs, fun k hk => adj_node.mpr ⟨p.is.ad k hk, ne k (by omega), ne (k + 1) hk⟩⟩, p.fst, p.lst, p.lt⟩⟩
theorem path_line {a b : Nat} : (∃ r, Path (noLine N a b) f l r) ↔ openL N f l a b := by
  constructor
  · rintro ⟨r, p⟩
    refine ⟨r, ⟨⟨p.is.two, p.is.nd, p.is.hs, fun k hk => (adj_line.mp (p.is.ad k hk)).1⟩, p.fst, p.lst, p.lt⟩, fun m => ?_⟩
    rcases m with m | m
    · obtain ⟨k, hk, e⟩ := mem_ports.mp m
      injection e with e1 e2
      exact (adj_line.mp (p.is.ad k hk)).2.1 ⟨e1.symm, e2.symm⟩
    · obtain ⟨k, hk, e⟩ := mem_ports.mp m
      injection e with e1 e2
      exact (adj_line.mp (p.is.ad k hk)).2.2 ⟨e1.symm, e2.symm⟩
  · rintro ⟨r, p, n⟩
    refine ⟨r, ⟨⟨p.is.two, p.is.nd, p.is.hs, fun k hk => adj_line.mpr ⟨p.is.ad k hk, fun z => n (.inl ?_), fun z => n (.inr ?_)⟩⟩, p.fst, p.lst, p.lt⟩⟩
    · exact mem_ports.mpr ⟨k, hk, by rw [z.1, z.2]⟩
    · exact mem_ports.mpr ⟨k, hk, by rw [z.1, z.2]⟩
/-! ### bottlenecks -/
def lexP (p q : Nat × Nat) : Prop := p.1 < q.1 ∨ (p.1 = q.1 ∧ p.2 < q.2)
def isLine (N : NetD) (p : Nat × Nat) : Prop := p.1 < p.2 ∧ adj N p.1 p.2 = true
inductive Bott (N : NetD) (f l : Nat) : Option (Nat ⊕ Nat × Nat) → Prop
  | sw {v : Nat} (lt : v < N.ks.length) (h : host N v = false) (no : ¬ openN N f l v) (least : ∀ u, u < v → host N u = false → openN N f l u) : Bott N f l (some (.inl v))
  | line {p : Nat × Nat} (sws : ∀ u, u < N.ks.length → host N u = false → openN N f l u) (h : isLine N p) (no : ¬ openL N f l p.1 p.2) (least : ∀ q, isLine N q → lexP q p → openL N f l q.1 q.2) : Bott N f l (some (.inr p))
  | none (sws : ∀ u, u < N.ks.length → host N u = false → openN N f l u) (lines : ∀ q, isLine N q → openL N f l q.1 q.2) : Bott N f l none
theorem Bott.one {o o' : Option (Nat ⊕ Nat × Nat)} (h : Bott N f l o) (h' : Bott N f l o') : o = o' := by
  cases h with
  | @sw v lt hh no least =>
    cases h' with
    | @sw v' lt' hh' no' least' =>
      have : v = v' := by
        rcases Nat.lt_trichotomy v v' with z | z | z
        · exact absurd (least' v z hh) no
        · exact z
        · exact absurd (least v' z hh') no'
      rw [this]
    | line sws _ _ _ => exact absurd (sws v lt hh) no
    | none sws _ => exact absurd (sws v lt hh) no
  | @line p sws hh no least =>
    cases h' with
    | sw lt' hh' no' least' => exact absurd (sws _ lt' hh') no'
    | @line q sws' hh' no' least' =>
      have : p = q := by
        obtain ⟨a, b⟩ := p
        obtain ⟨c, d⟩ := q
        by_cases z : lexP (a, b) (c, d)
        · exact absurd (least' _ hh z) no
        · by_cases z' : lexP (c, d) (a, b)
          · exact absurd (least _ hh' z') no'
          · unfold lexP at z z'
            have z : ¬ (a < c ∨ (a = c ∧ b < d)) := z
            have z' : ¬ (c < a ∨ (c = a ∧ d < b)) := z'
            have e1 : a = c := by omega
            have e2 : b = d := by omega
            rw [e1, e2]
      rw [this]
    | none _ lines => exact absurd (lines _ hh) no
  | none sws lines =>
    cases h' with
    | sw lt' hh' no' least' => exact absurd (sws _ lt' hh') no'
    | line _ hh' no' _ => exact absurd (lines _ hh') no'
    | none _ _ => rfl
/-- two separate paths leave no bottleneck -/
theorem two_none {r s : List Nat} (a : Path N f l r) (b : Path N f l s) (hi : ∀ x, x ∈ inner r → x ∉ inner s) (h3 : 2 < r.length ∨ 2 < s.length) : Bott N f l none := by
  have sep : ∀ x, x ∈ r → x ∈ s → host N x = false → False := fun x hx hy hh => hi x (a.is.in_inner hx hh) (b.is.in_inner hy hh)
  have both : ∀ p, p ∈ portsOf r → (p ∈ portsOf s ∨ (p.2, p.1) ∈ portsOf s) → False := fun p hp hq => by
    obtain ⟨p1, p2⟩ := port_both hp
    have q12 : p.1 ∈ s ∧ p.2 ∈ s := by
      rcases hq with hq | hq
      · exact port_both hq
      · exact ⟨(port_both hq).2, (port_both hq).1⟩
    rcases h3 with h3 | h3
    · rcases a.is.port_sw h3 hp with ⟨_, z⟩ | ⟨_, z⟩
      · exact sep _ p1 q12.1 z
      · exact sep _ p2 q12.2 z
    · rcases hq with hq | hq
      · rcases b.is.port_sw h3 hq with ⟨_, z⟩ | ⟨_, z⟩
        · exact sep _ p1 q12.1 z
        · exact sep _ p2 q12.2 z
      · rcases b.is.port_sw h3 hq with ⟨_, z⟩ | ⟨_, z⟩
        · exact sep _ p2 q12.2 z
        · exact sep _ p1 q12.1 z
  refine .none (fun u _ hu => ?_) (fun q _ => ?_)
  · by_cases m : u ∈ r
    · exact ⟨s, b, fun z => sep u m z hu⟩
    · exact ⟨r, a, m⟩
  · by_cases m : uses r q.1 q.2
    · refine ⟨s, b, fun z => ?_⟩
      rcases m with m | m
      · exact both _ m z
      · exact both _ m z.symm
    · exact ⟨r, a, m⟩
/-- where all paths have something in common there is one -/
theorem cut_some {o : Option (Nat ⊕ Nat × Nat)} {r0 : List Nat} (E : Ends N f l) (h0 : Path N f l r0) (h : (∃ v, v < N.ks.length ∧ host N v = false ∧ ∀ r, IsP N r → (∀ x ∈ r, x < N.ks.length) → r.getD 0 0 = f → lastN r = l → v ∈ r) ∨ ∀ r, IsP N r → (∀ x ∈ r, x < N.ks.length) → r.getD 0 0 = f → lastN r = l → r = [f, l])
    (b : Bott N f l o) : o ≠ none := fun e => by
  subst e
  cases b with
  | none sws lines =>
    rcases h with ⟨v, lt, hv, all⟩ | all
    · obtain ⟨r, p, n⟩ := sws v lt hv
      exact n (all r p.is p.lt p.fst p.lst)
    · have e0 := all r0 h0.is h0.lt h0.fst h0.lst
      have hfl : adj N f l = true := by
        have := h0.is.ad 0 (by rw [e0]; show 1 < 2; omega)
        rw [e0] at this
        exact this
      have hlf : adj N l f = true := by
        obtain ⟨x, hx, h⟩ := adj_iff.mp hfl
        refine adj_iff.mpr ⟨x, hx, ?_⟩
        rcases hits_of h with ⟨e1, e2⟩ | ⟨e1, e2⟩
        · exact hits_mk (.inr ⟨e1, e2⟩)
        · exact hits_mk (.inl ⟨e1, e2⟩)
      have port : ∀ r, Path N f l r → (f, l) ∈ portsOf r := fun r p => by
        have e := all r p.is p.lt p.fst p.lst
        rw [e]
        exact mem_ports.mpr ⟨0, by show 1 < 2; omega, rfl⟩
      rcases Nat.lt_or_ge f l with z | z
      · obtain ⟨r, p, n⟩ := lines (f, l) ⟨z, hfl⟩
        exact n (.inl (port r p))
      · have := E.ne
        obtain ⟨r, p, n⟩ := lines (l, f) ⟨by show l < f; omega, hlf⟩
        exact n (.inr (port r p))
end
end My
/-! Places in the heap: tuples ("in", v) and ("out", v), lists of them, dicts by them. No row. -/
namespace My
open PySem PySem.Spec PyProof.Rows L2
def sideS (c : Nat) : Str := if c % 2 = 0 then "in" else "out"
def plV (c : Nat) : List V := [.str (sideS c), .int ((c / 2 : Nat) : Int)]
def keyP (c : Nat) : List Key := [Sum.inr (sideS c), Sum.inl ((c / 2 : Nat) : Int)]
theorem keyP_map (c : Nat) : (keyP c).map kV = plV c := rfl
theorem side_ne : (Str.ofString "in" : Str) ≠ Str.ofString "out" := by decide +kernel
theorem keyP_inj {c d : Nat} (e : keyP c = keyP d) : c = d := by
  unfold keyP at e
  injection e with e1 e2
  injection e2 with e2 _
  injection e1 with e1
  injection e2 with e2
  have e2 : c / 2 = d / 2 := by omega
  unfold sideS at e1
  by_cases h : c % 2 = 0 <;> by_cases h' : d % 2 = 0
  · omega
  · rw [if_pos h, if_neg h'] at e1
    exact absurd e1 side_ne
  · rw [if_neg h, if_pos h'] at e1
    exact absurd e1.symm side_ne
  · omega
def PlAt (H : Hp) (a : Addr) (c : Nat) : Prop := H a = some (.tup (plV c))
abbrev Refs (H : Hp) (as : List Addr) (cs : List Nat) : Prop := Paired (fun (a : Addr) (c : Nat) => PlAt H a c) as cs
theorem Refs.mono {H H' : Hp} {as : List Addr} {cs : List Nat} (h : Refs H as cs) (f : ∀ a xs, H a = some (.tup xs) → H' a = some (.tup xs)) : Refs H' as cs := Paired.imp h fun _ _ z => f _ _ z
theorem Refs.snoc {H : Hp} {as : List Addr} {cs : List Nat} {a : Addr} {c : Nat} (h : Refs H as cs) (p : PlAt H a c) : Refs H (as ++ [a]) (cs ++ [c]) := Paired.snoc (F := fun (a : Addr) (c : Nat) => PlAt H a c) p h
def LstP (H : Hp) (l : Addr) (cs : List Nat) : Prop := ∃ as : List Addr, H l = some (.lst (as.map V.ref)) ∧ Refs H as cs
theorem LstP.same {H H' : Hp} {l : Addr} {cs : List Nat} (h : LstP H l cs) (e : Same H H') : LstP H' l cs := by
  obtain ⟨as, h1, h2⟩ := h
  exact ⟨as, e _ _ h1, h2.mono fun _ _ z => e _ _ z⟩
def ArcsT (H : Hp) (d : Addr) (A : Nat → List Nat) (n : Nat) : Prop := ∃ kvs : List (List Key × V), H d = some (.dT kvs) ∧ ∀ c, c < n → ∃ l, valV kvs (keyP c) = some (.ref l) ∧ LstP H l (A c)
theorem ArcsT.same {H H' : Hp} {d : Addr} {A : Nat → List Nat} {n : Nat} (h : ArcsT H d A n) (e : Same H H') : ArcsT H' d A n := by
  obtain ⟨kvs, h1, h2⟩ := h
  exact ⟨kvs, e _ _ h1, fun a ha => let ⟨l, x, y⟩ := h2 a ha; ⟨l, x, y.same e⟩⟩
def WayT (H0 H : Hp) (o : Option (List Nat)) (v : V) : Prop := match o with
  | none => v = .non
  | some r => ∃ l, v = .ref l ∧ H0 l = none ∧ LstP H l r
def WaysT (H0 H : Hp) (d : Addr) (W : Ways) (m : Nat) (q : Addr) : Prop := ∃ kvs : List (List Key × V), H d = some (.dT kvs) ∧ kvs.length ≤ m ∧ (∀ v, W v = none → valV kvs (keyP v) = none) ∧
  ∀ v r, W v = some r → r.length ≤ kvs.length ∧ ∃ l, valV kvs (keyP v) = some (.ref l) ∧ LstP H l r ∧ H0 l = none ∧ l ≠ q
theorem WaysT.get {H0 H : Hp} {d b : Addr} {W : Ways} {m : Nat} {q : Addr} (h : WaysT H0 H d W m q) {v : Nat} (hb : PlAt H b v) : ∃ o, DGet H d (.ref b) o ∧ o.isSome = (W v).isSome ∧ WayT H0 H (W v) (o.getD .non) := by
  obtain ⟨kvs, h1, _, h2, h3⟩ := h
  refine ⟨valV kvs (keyP v), DGet.t h1 (k := keyP v) hb, ?_, ?_⟩
  · cases e : W v with
    | none => rw [h2 v e]; rfl
    | some r =>
      obtain ⟨_, l, x, _⟩ := h3 v r e
      rw [x]
      rfl
  · cases e : W v with
    | none => rw [h2 v e]; rfl
    | some r =>
      obtain ⟨_, l, x, y, z, _⟩ := h3 v r e
      rw [x]
      exact ⟨l, rfl, z, y⟩
theorem WaysT.mono {H0 H H' : Hp} {d : Addr} {W : Ways} {m : Nat} {q q' : Addr} (h : WaysT H0 H d W m q) (hd : ∀ kvs, H d = some (.dT kvs) → H' d = some (.dT kvs)) (hl : ∀ l xs, l ≠ q → H l = some (.lst xs) → H' l = some (.lst xs) ∧ l ≠ q') (ht : ∀ a xs, H a = some (.tup xs) → H' a = some (.tup xs)) : WaysT H0 H' d W m q' := by
  obtain ⟨kvs, h1, h2, h3, h4⟩ := h
  refine ⟨kvs, hd _ h1, h2, h3, fun v r e => ?_⟩
  obtain ⟨a, l, x, ⟨as, y1, y2⟩, z, n⟩ := h4 v r e
  exact ⟨a, l, x, ⟨as, (hl l _ n y1).1, y2.mono ht⟩, z, (hl l _ n y1).2⟩
theorem WaysT.put {H0 H : Hp} {d : Addr} {W : Ways} {m : Nat} {q : Addr} {v : Nat} {r : List Nat} {l : Addr} {kvs : List (List Key × V)} (h : WaysT H0 H d W m q) (hd : H d = some (.dT kvs)) (hv : W v = none) (hr : r.length ≤ kvs.length + 1) (hl : LstP H l r) (h0 : H0 l = none) (hq : l ≠ q) :
    WaysT H0 (upd H d (.dT (putK kvs (keyP v) (.ref l)))) d (setW W v r) (m + 1) q := by
  obtain ⟨kvs', h1, h2, h3, h4⟩ := h
  rw [hd] at h1
  cases h1
  have en := putK_new (V.ref l) (h3 v hv)
  have key : ∀ x : Nat, keyP x = keyP v ↔ x = v := fun x => ⟨keyP_inj, fun z => by rw [z]⟩
  have kp : ∀ (l' : Addr) (r' : List Nat), LstP H l' r' → LstP (upd H d (.dT (putK kvs (keyP v) (.ref l)))) l' r' := fun l' r' ⟨as, a1, a2⟩ => ⟨as, by rw [upd_ne (ne_of a1 hd (by intro z; cases z))]; exact a1, a2.mono fun a xs e => by rw [upd_ne (ne_of e hd (by intro z; cases z))]; exact e⟩
  refine ⟨_, upd_same, by rw [en, List.length_append, List.length_singleton]; omega, fun x hx => ?_, fun x r' hx => ?_⟩
  · unfold setW at hx
    by_cases e : x = v
    · rw [if_pos e] at hx; cases hx
    · rw [if_neg e] at hx
      rw [valV_put, if_neg fun z => e ((key x).mp z)]
      exact h3 x hx
  · unfold setW at hx
    by_cases e : x = v
    · rw [if_pos e] at hx
      cases hx
      refine ⟨by rw [en, List.length_append, List.length_singleton]; exact hr, l, ?_, kp l _ hl, h0, hq⟩
      rw [valV_put, if_pos ((key x).mpr e)]
    · rw [if_neg e] at hx
      obtain ⟨a, l', x', y, z, n⟩ := h4 x r' hx
      refine ⟨by rw [en, List.length_append, List.length_singleton]; omega, l', ?_, kp l' r' y, z, n⟩
      rw [valV_put, if_neg fun z => e ((key x).mp z)]
      exact x'
end My
/-! {k: v}, k a tuple. No row. -/
namespace My
open PySem PySem.Spec PyProof.Rows L2
def tDispT (tk tv : TE) : TE := fun σ H Q => ∀ p, H p = none → tk σ (upd H p (.dT [])) fun x H1 => tv σ H1 fun y H2 => H2 p = some (.dT []) ∧ ∃ (b : Addr) (key : List Key), x = .ref b ∧ H2 b = some (.tup (key.map kV)) ∧ Q (.ref p) (upd H2 p (.dT (putK [] key y)))
theorem pe_dispT {X : Cx} {k v : Expr} {tk tv : TE} {pos : Pos} (hu : X.A.units + 1 < cLine) (hk : PE X k tk) (hv : PE X v tv) : PE X (.Dict [some k] [v] pos) (tDispT tk tv) := by
  refine ⟨fun pins s σ H Q I q => ?_⟩
  have hn := I.hok.fresh (Nat.le_refl s.heap.objs.size)
  have I1 := I.laid (a := s.heap.objs.size) (o := .dT []) (h' := s.heap.push { cls := .type "dict", data := .dict #[] }) (t' := s.toks) (fun _ _ q => Heap.get?_push_of_some _ q) (Nat.le_refl _) (dt_empty s.heap I.big)
  refine wpAny_Dict_any rfl rfl (by simp) (by show 1 ≤ 15; decide) (thn ((pps_cons (pos := pos) hk hv pps_nil).run pins _ σ _ (fun ps H2 => match ps with
    | [(x, y)] => H2 s.heap.objs.size = some (.dT []) ∧ ∃ (b : Addr) (key : List Key), x = .ref b ∧ H2 b = some (.tup (key.map kV)) ∧ Q (.ref s.heap.objs.size) (upd H2 s.heap.objs.size (.dT (putK [] key y)))
    | _ => False) I1 (q _ hn)) fun ws s2 ⟨ps, H2, I2, rel, e⟩ => ?_)
  match ps, rel, e with
  | [(x, y)], rel, ⟨e, b, key, ex, eb, q2⟩ =>
    subst ex
    cases rel with
    | @cons a c as cs h t =>
      cases t
      obtain ⟨c1, c2⟩ := c
      obtain ⟨h1, h2⟩ := h
      cases (show c1 = Value.ref b from h1)
      obtain ⟨z, hd, xs, rel, dd⟩ := dt_of I2.hok e
      cases rel
      unfold storeAll
      rw [List.forIn_cons]
      have hroom : (tupleKind (mixKind X.prog X.w)).room X.A := by
        show X.A.units < cLine
        omega
      refine wpAny_bind (wpAny_bind (wpAny_dictSet_heap (hsz := by decide) hroom (key_of I2.hok eb) dd fun h' dd' hs => wpAny_pure ?_))
      dsimp only
      rw [List.forIn_nil]
      refine wpAny_pure ?_
      obtain ⟨o, es, ep, hq, g2, g3, g4, _, g5⟩ := dd'
      refine ⟨.ref s.heap.objs.size, _, d_write (ob := .dT (putK [] key y)) I2 (by rw [e]; exact True.intro) hs ⟨o, hq⟩ ⟨(by show 1 ≤ sizeLine; decide), hd, _, ((KT.put (kvs := []) (xs := []) .nil key eb h2)).keeps fun c ys ec => ?_, o, es, ep, hq, g2, g3, g4, g5⟩, rfl, q2⟩
      rw [upd_ne (ne_of ec e (fun z => nomatch z))]
      exact ec
end My
/-! for k, v in d.items(), d with tuples as keys, locked. No row. -/
namespace My
open PySem PySem.Spec PyProof.Rows L2
section
variable {X : Cx} {pins : List (Addr × Obj)} {σ : L2.St} {H : Hp} {s : Shared} {d : Addr} {o : Obj}
theorem frz_ent {kvs : List (List Key × V)} (I : L2.Inv X pins σ H s) (h : H d = some (.frz o (.dT kvs))) :
    (d == sysModules) = false ∧ s.heap.get? d = some o ∧ o.ExactDict ∧ ∃ (es : Array DictEntry) (ep : Nat), o.data = .dict es ep ∧ es.size = kvs.length ∧
      ∀ (i : Nat) (k : List Key) (v : V), kvs[i]? = some (k, v) → ∃ (hi : i < es.size) (q : Addr), es[i].key = .ref q ∧ H q = some (.tup (k.map kV)) ∧ RelV v es[i].val := by
  obtain ⟨hd, z, hs, xs, pr, o', es, ep, ho, hx, hdt, he, _⟩ := I.hok d _ h
  rw [hd] at ho
  cases ho
  have l1 : es.size = xs.length := by rw [← Array.length_toList, he, List.length_map]
  have l2 : kvs.length = xs.length := Paired.length pr
  refine ⟨hs, hd, hx, es, ep, hdt, by omega, fun i k v e => ?_⟩
  obtain ⟨b, hb, e1, e2, e3⟩ := Paired.at pr e
  obtain ⟨hi, _⟩ := List.getElem?_eq_some_iff.mp hb
  have q : es.toList[i]? = some (⟨(tupleKind (mixKind X.prog X.w)).hash b.1, .ref b.2.1, b.2.2⟩ : DictEntry) := by
    rw [he, List.getElem?_map, hb]
    rfl
  have hi' : i < es.size := by omega
  have q2 : es[i] = (⟨(tupleKind (mixKind X.prog X.w)).hash b.1, .ref b.2.1, b.2.2⟩ : DictEntry) := by
    rw [Array.getElem?_toList, Array.getElem?_eq_getElem hi'] at q
    exact Option.some.inj q
  exact ⟨hi', b.2.1, by rw [q2], e2, by rw [q2]; exact e3⟩
end
/-- the pairs, each a new tuple of the key's own tuple and the value -/
def Itit (d : Addr) (o : Obj) (kvs : List (List Key × V)) : It :=
  ⟨fun i H => H d = some (.frz o (.dT kvs)) ∧ i < kvs.length, fun i H x H' => ∃ (T q : Addr) (k : List Key) (v : V), kvs[i]? = some (k, v) ∧ H q = some (.tup (k.map kV)) ∧ x = .ref T ∧ H T = none ∧ H' = upd H T (.tup [.ref q, v]), fun i H => H d = some (.frz o (.dT kvs)) ∧ kvs.length ≤ i⟩
theorem data_one {o : Obj} {es es' : Array DictEntry} {ep ep' : Nat} (h : o.data = .dict es ep) (h' : o.data = .dict es' ep') : es' = es ∧ ep' = ep := by
  rw [h] at h'
  cases h'
  exact ⟨rfl, rfl⟩
theorem turn_itemsT {P : Program} {w : World} {K : PySem.W.Frag} {d : Addr} {o : Obj} {es : Array DictEntry} {ep : Nat} {kvs : List (List Key × V)} {elts : List Expr} {kk : Nat} {tpos : Pos} (it : Addr) (hod : o.data = .dict es ep) :
    Turn P w K (.Tuple elts kk tpos) (Itit d o kvs) [it] it (fun i h => ∃ ok ov, IsItemIter h it d i kvs.length ep ok ov) where
  mem := by simp
  obj := fun i h st b hb => by
    obtain rfl : b = it := by simpa using hb
    obtain ⟨ok, ov, e⟩ := st
    exact ⟨_, e, fun v z => nomatch z⟩
  keep := fun i h h' st k => by
    obtain ⟨ok, ov, e⟩ := st
    exact ⟨ok, ov, k it (by simp) _ e⟩
  item := by
    intro X hP hw hK hc i pins s σ H E I hf st hg
    subst hP hw hK
    obtain ⟨hd, hi⟩ := hg
    obtain ⟨hs, hgd, hx, es', ep', hdt, hsz, ent⟩ := frz_ent I hd
    obtain ⟨rfl, rfl⟩ := data_one hod hdt
    obtain ⟨⟨k, v⟩, hkv⟩ : ∃ p, kvs[i]? = some p := ⟨kvs[i], List.getElem?_eq_getElem hi⟩
    obtain ⟨hie, q, hkey, hq, hv⟩ := ent i k v hkv
    obtain ⟨ok, ov, he⟩ := st
    have hlt : it < s.heap.objs.size := Heap.lt_size he
    rw [← hsz] at he
    refine DT.nextI he ⟨o, hgd, hx, hdt⟩ hie fun h' ho hT hz hk => ⟨_, rfl, wpAny_letOwnedTupleGo_items (s := { s with heap := h' }) ho fun h'' he' sb => ?_⟩
    have hT2 : h''.get? s.heap.objs.size = some { cls := .type "tuple", data := .seq #[es'[i].key, es'[i].val] } := (sb.2 _ (Nat.ne_of_gt hlt)).trans hT
    have new : ObjOk X.prog X.w (upd H s.heap.objs.size (.tup [.ref q, v])) h'' s.heap.objs.size (.tup [.ref q, v]) :=
      ⟨by show 2 ≤ sizeLine; decide, [es'[i].key, es'[i].val], .cons hkey (.cons hv .nil), ⟨_, hT2, rfl, _, rfl⟩⟩
    have I1 : L2.Inv X pins σ (upd H s.heap.objs.size (.tup [.ref q, v])) { s with heap := h'' } :=
      I.turnedNew (t' := s.toks) (ch := [it]) (fun b ob hb e => (sb.2 b (by simpa using hb)).trans (hk b ob (by simpa using hb) e)) hf (Nat.le_refl _) new
    refine ⟨.ref s.heap.objs.size, _, I1, rfl, ⟨_, q, k, v, hkv, hq, rfl, I.hok.fresh (Nat.le_refl _), rfl⟩, ⟨es'[i].key, es'[i].val, ?_⟩, fun b hb => ?_⟩
    · rw [← hsz]; exact he'
    · obtain rfl : b = it := by simpa using hb
      rw [upd_ne (Nat.ne_of_lt hlt)]
      exact (hf b (by simp)).1
  done := by
    intro X hP hw hK hc i pins s σ H E I hf st hg
    subst hP hw hK
    obtain ⟨hd, hi⟩ := hg
    obtain ⟨f0, f1, f2, f3, f4, f5⟩ := hf it (by simp)
    obtain ⟨hs, hgd, hx, es', ep', hdt, hsz, ent⟩ := frz_ent I hd
    obtain ⟨rfl, rfl⟩ := data_one hod hdt
    obtain ⟨ok, ov, he⟩ := st
    rw [← hsz] at he
    exact DT.endI (I.ok.hd hc) he ⟨o, hgd, hx, hdt⟩ (by omega) fun h' eb => ⟨rfl, I.turned (t' := s.toks) (fun b ob hb e => eb b ob hb e) f0 f1 f3 f4 f5⟩
  self := fun A i s Q E st h => by
    obtain ⟨_, _, e⟩ := st
    exact PySem.W.kcp_self e h
def iItemsT (td : TE) : TI := fun σ H R => td σ H fun x H1 => ∃ d o kvs, x = .ref d ∧ H1 d = some (.frz o (.dT kvs)) ∧ R (Itit d o kvs) H1
theorem pi_itemsT {X : Cx} {e : Expr} {td : TE} {apos cpos : Pos} {elts : List Expr} {kk : Nat} {tpos : Pos} (he : PE X e td) (hbase : attributeBase e "items" X.env (eval e X.env) = eval e X.env := by rfl) (hline : (apos.endLine == cpos.line) = true := by rfl) :
    PI X (.Tuple elts kk tpos) (.Call (.Attribute e "items" apos) [] [] cpos) (iItemsT td) := by
  refine ⟨fun pins s σ H R I h => ?_⟩
  refine wpAny_Call_method (T := "dict") (id := "dict.items") hbase rfl hline F.plainAttrs_dict F.slot_dict_items F.type_dict_items (thn (he.run pins s σ H _ I h) fun u s1 ⟨x, H1, I1, rx, d, o, kvs, ex, hd, q⟩ => ?_)
  subst ex
  obtain rfl : u = Value.ref d := rx
  obtain ⟨hs, hgd, hx, es, ep, hdt, hsz, ent⟩ := frz_ent I1 hd
  have raw : DT.Raw s1.heap d es ep := ⟨o, hgd, hx, hdt⟩
  have nod : ∀ b, Value.ref d = .ref b → ∃ ob, s1.heap.get? b = some ob ∧ ob.dict = none := fun b e => by
    injection e with e
    subst e
    exact ⟨o, hgd, hx.2.1⟩
  refine ⟨raw.typeIs, nod, ?_⟩
  have I2 : L2.Inv X pins σ H1 { s1 with heap := s1.heap.push { cls := .type "dict_items", data := .fields #[.ref d] } } := I1.kept (t' := s1.toks) fun b ob q => Heap.get?_push_of_some _ q
  have fin : wpAny (model X.prog X.w) X.A (pyIter (.ref s1.heap.objs.size)) (PIE X pins σ (.Tuple elts kk tpos) R) X.xe { s1 with heap := s1.heap.push { cls := .type "dict_items", data := .fields #[.ref d] } } := by
    refine DT.iterI (d := d) (es := es) (ep := ep) ⟨_, Heap.get?_push_size _ rfl, rfl, rfl⟩ (raw.push _) (pi_one (tk := s1.toks) I2 _ (turn_itemsT _ hdt) ⟨.none, .none, ?_⟩ q)
    rw [← hsz]
    exact Heap.get?_push_size _ rfl
  show wpAny _ _ (callWith cpos (.builtin "dict.items") [.ref d] [] []) _ X.xe s1
  exact method_meetsIn F.slot_dict_items F.entry_dict_items rfl (PySem.evalArgs_none ⟨rfl, raw.typeIs, F.args_dict_items_1 _, _, DT.meetsItems (es := es) (ep := ep) hs, ⟨raw, fin⟩⟩)
end My
/-! min(t), max(t) of a tuple of two ints. No row. -/
namespace My
open PySem PySem.Spec PyProof.Rows L2 PySem.W
def rMin2 (K : PySem.W.Frag) : List V → Hp → VK → Prop := fun vs H Q => ∃ (a : Addr) (i j : Int), vs = [V.ref a] ∧ SqT K H a [.int i, .int j] ∧ Q (.int (if j < i then j else i)) H
def rMax2 (K : PySem.W.Frag) : List V → Hp → VK → Prop := fun vs H Q => ∃ (a : Addr) (i j : Int), vs = [V.ref a] ∧ SqT K H a [.int i, .int j] ∧ Q (.int (if i < j then j else i)) H
section
variable {X : Cx}
theorem cr_min2 (hc : X.calm = true) (hu : X.A.units + 64 < cLine) : CallR X (.builtin "min") (rMin2 X.K) := by
  intro pins s σ H vs us Q I r h
  obtain ⟨a, i, j, rfl, hs, q⟩ := h
  obtain ⟨its, rv, it, _⟩ := I.tuple hs
  obtain ⟨u, rfl, ru⟩ := r.one
  cases (show u = Value.ref a from ru)
  have hd : DpAll X.K H [V.int i, V.int j] [.int i, .int j] := .cons (.int i) (.cons (.int j) .nil)
  obtain ⟨as, hr⟩ := Dp.readsAll I _ _ its hd rv
  have e : minD (.int i) [.int j] = .int (if j < i then j else i) := by
    show (if PySem.W.dataLt (.int j) (.int i) = true then PyData.int j else PyData.int i) = _
    rw [PySem.W.dataLt_int]
    by_cases h : j < i
    · rw [if_pos (decide_eq_true h), if_pos h]
    · rw [if_neg (fun z => h (of_decide_eq_true z)), if_neg h]
  refine min_tuple_data (x := .int i) (xs := [.int j]) (I.ok.hd hc) it (by simpa using hr) ⟨fun x hx y hy => ?_, fun x hx => ?_⟩ ?_ fun k v h' tk bs hv hr' hk => ?_
  · have : ∀ z, z ∈ [PyData.int i, .int j] → ∃ m, z = .int m := fun z hz => by
      rcases List.mem_cons.mp hz with e | hz
      · exact ⟨_, e⟩
      · exact ⟨_, List.mem_singleton.mp hz⟩
    obtain ⟨m, rfl⟩ := this x hx
    obtain ⟨m', rfl⟩ := this y hy
    rw [PySem.W.alike]
  · rcases List.mem_cons.mp hx with e | hx
    · rw [e]; intro z; cases z
    · rw [List.mem_singleton.mp hx]; intro z; cases z
  · have d0 : PyData.depthAll [.int i, .int j] = 0 := by
      rw [PyData.depthAll, PyData.depthAll, PyData.depthAll, PyData.depth, PyData.depth]
      rfl
    rw [d0]
    omega
  · rw [e] at hr'
    cases hr'
    exact ⟨.int _, H, I.kept hk, ⟨_, rfl⟩, q⟩
theorem cr_max2 (hc : X.calm = true) (hu : X.A.units + 64 < cLine) : CallR X (.builtin "max") (rMax2 X.K) := by
  intro pins s σ H vs us Q I r h
  obtain ⟨a, i, j, rfl, hs, q⟩ := h
  obtain ⟨its, rv, it, _⟩ := I.tuple hs
  obtain ⟨u, rfl, ru⟩ := r.one
  cases (show u = Value.ref a from ru)
  have hd : DpAll X.K H [V.int i, V.int j] [.int i, .int j] := .cons (.int i) (.cons (.int j) .nil)
  obtain ⟨as, hr⟩ := Dp.readsAll I _ _ its hd rv
  have e : maxD (.int i) [.int j] = .int (if i < j then j else i) := by
    show (if PySem.W.dataLt (.int i) (.int j) = true then PyData.int j else PyData.int i) = _
    rw [PySem.W.dataLt_int]
    by_cases h : i < j
    · rw [if_pos (decide_eq_true h), if_pos h]
    · rw [if_neg (fun z => h (of_decide_eq_true z)), if_neg h]
  refine max_tuple_data (x := .int i) (xs := [.int j]) (I.ok.hd hc) it (by simpa using hr) ⟨fun x hx y hy => ?_, fun x hx => ?_⟩ ?_ fun k v h' tk bs hv hr' hk => ?_
  · have : ∀ z, z ∈ [PyData.int i, .int j] → ∃ m, z = .int m := fun z hz => by
      rcases List.mem_cons.mp hz with e | hz
      · exact ⟨_, e⟩
      · exact ⟨_, List.mem_singleton.mp hz⟩
    obtain ⟨m, rfl⟩ := this x hx
    obtain ⟨m', rfl⟩ := this y hy
    rw [PySem.W.alike]
  · rcases List.mem_cons.mp hx with e | hx
    · rw [e]; intro z; cases z
    · rw [List.mem_singleton.mp hx]; intro z; cases z
  · have d0 : PyData.depthAll [.int i, .int j] = 0 := by
      rw [PyData.depthAll, PyData.depthAll, PyData.depthAll, PyData.depth, PyData.depth]
      rfl
    rw [d0]
    omega
  · rw [e] at hr'
    cases hr'
    exact ⟨.int _, H, I.kept hk, ⟨_, rfl⟩, q⟩
end
end My
namespace My
open PySem PySem.Spec PyProof.Rows L2
def top (i : Nat) : Stmt := PySem.Challenge.pw_metronet_k03_whole_two_ways_or_a_bottlen.main.body.getD i (.Pass ⟨0, 0, 0, 0⟩)
abbrev sDraw : Stmt := top 17
abbrev sCell : Stmt := top 18
/-- the built-in names that the module leaves -/
structure Blt (mg : Str → Option Value) : Prop where
  range : mg "range" = none
  len : mg "len" = none
  int : mg "int" = none
  list : mg "list" = none
  enum : mg "enumerate" = none
section
variable {P : Program} {w : World} {K : PySem.W.Frag} {mg : Str → Option Value} {base : Heap}
/-! ### _law_draw -/
theorem scDraw : FnScope ["cell", "many", "bound", "numbers", "k", "seed", "mixed"] ["cell", "many", "bound"] (defScope sDraw) := ⟨rfl, rfl, rfl, by decide +kernel, rfl, by decide +kernel, by decide +kernel⟩
def spDraw : Sp := fun vs H Q _ => ∃ (c b : Int) (m : Nat), vs = [.int c, .int (m : Int), .int b] ∧ m ≤ 1000 ∧ 0 < b ∧ b < 2 ^ 64 ∧
  ∀ (H' : Hp) (p : Addr) (ns : List Int), Same H H' → H p = none → H' p = some (.lst (ns.map V.int)) → ns.length = m → (∀ x ∈ ns, 0 ≤ x ∧ x < b) → Q (.ref p) H'
theorem ok_draw {f : Addr} {fd : FuncData} {k : Nat} (F : Fun K "_law_draw" "_law_draw" sDraw f fd) (T : Blt mg) : FnOk P w K mg base CX0 (k + 1) f fd ["cell", "many", "bound"] spDraw := by
  refine F.ok scDraw (fun vs H Q E h => ?_) (fun cdv A outer s H vs Q E hr h => ?_)
  · obtain ⟨c, b, m, rfl, _⟩ := h
    rfl
  · obtain ⟨c, b, m, rfl, hm, hb0, hb1, q⟩ := h
    have nd := scDraw.nd
    refine ⟨_, pss_cons (ps_set (i := 3) nd rfl (.inl rfl) (pe_lst pa_nil))
      (pss_cons (ps_if (pt_cmpR op_ge (pv 0) (pe_op op_pow pe_int pe_int) (nomark _))
        (pss_cons (ps_for PassesOwn.never rfl (pi_range1 (by rfl) T.range (pa_cons (pv 1) pa_nil)) (pg_name (i := 4) nd rfl (.inl rfl))
          (pss_cons (ps_expr (pe_bm PySem.F.plainAttrs_list PySem.F.slot_list_append PySem.F.type_list_append mt_append (pv 3)
              (pa_cons (pe_op op_mod (pe_callTy call_int1 (by rfl) T.int (by decide +kernel) (pa_cons (pv 0) pa_nil)) (pv 2)) pa_nil)))
          (pss_one (ps_set (i := 0) nd rfl (.inl rfl) (pe_op op_fdivW (pv 0) (pv 2))))))
        (pss_one (ps_ret (pv 3)))) pss_nil)
      (pss_cons (ps_set (i := 5) nd rfl (.inl rfl) (pe_op op_mod (pe_callTy call_int1 (by rfl) T.int (by decide +kernel) (pa_cons (pv 0) pa_nil)) pe_int))
      (pss_cons (ps_for PassesOwn.never rfl (pi_range1 (by rfl) T.range (pa_cons (pv 1) pa_nil)) (pg_name (i := 4) nd rfl (.inl rfl))
          (pss_cons (ps_set (i := 5) nd rfl (.inl rfl) (pe_op op_mod (pe_callTy call_int1 (by rfl) T.int (by decide +kernel)
              (pa_cons (pe_op op_add (pe_op op_add (pe_op op_mul (pv 5) pe_int) pe_int) (pv 4)) pa_nil)) pe_int))
          (pss_cons (ps_set (i := 6) nd rfl (.inl rfl) (pe_op op_mod (pe_callTy call_int1 (by rfl) T.int (by decide +kernel)
              (pa_cons (pe_op op_add (pe_op op_mul (pv 5) pe_int) (pe_op op_mul pe_int (pv 4))) pa_nil)) pe_int))
          (pss_one (ps_expr (pe_bm PySem.F.plainAttrs_list PySem.F.slot_list_append PySem.F.type_list_append mt_append (pv 3)
              (pa_cons (pe_op op_mod (pe_callTy call_int1 (by rfl) T.int (by decide +kernel) (pa_cons (pe_op op_fdiv (pv 6) pe_int) pa_nil)) (pv 2)) pa_nil)))))))
      (pss_one (ps_ret (pv 3)))))), ?_⟩
    -- numbers = []
    refine ⟨Nat.zero_le _, fun p np => ?_⟩
    have s1 : Same H (upd H p (.lst [])) := same_new np
    -- cell >= 10 ** 18
    refine ⟨_, rfl, _, _, rfl, rfl, ⟨by decide, by decide, by decide⟩, _, _, rfl, rfl, _, rfl, ite2 (fun _ => ?_) (fun _ => ?_)⟩
    · refine ⟨_, rfl, (m : Int), rfl, by omega, by omega, for_range (n := m) (fun i σ H' => ∃ (c' : Int) (ns : List Int) (v4 v5 v6 : Option V), σ = [some (.int c'), some (.int m), some (.int b), some (.ref p), v4, v5, v6] ∧
        Same H H' ∧ H' p = some (.lst (ns.map V.int)) ∧ ns.length = i ∧ ∀ x ∈ ns, 0 ≤ x ∧ x < b) ⟨c, [], none, none, none, rfl, s1, upd_same, rfl, fun x hx => by cases hx⟩ ?_ ?_⟩
      · rintro i σ H' hi ⟨c', ns, v4, v5, v6, rfl, sm, hp, hl, hx⟩
        refine ⟨_, rfl, .inl ⟨rfl, _, SqL.of hp⟩, _, rfl, .inl ⟨_, rfl, _, rfl, _, _, rfl, rfl, hb0, ?_⟩⟩
        refine ⟨p, _, _, rfl, rfl, hp, by rw [List.length_map]; exact small1000 (by omega), ?_⟩
        refine ⟨_, rfl, _, rfl, _, _, rfl, rfl, wide_div (b := 64) hb0 (by omega) (by decide) (by decide), ?_⟩
        refine ⟨c' / b, ns ++ [c' % b], _, v5, v6, rfl, same_mut sm np, ?_, by rw [List.length_append, hl]; rfl, ?_⟩
        · rw [upd_same, List.map_append]; rfl
        · intro x hm
          rcases List.mem_append.mp hm with h1 | h1
          · exact hx x h1
          · rw [List.mem_singleton.mp h1]
            exact ⟨Int.emod_nonneg _ (by omega), Int.emod_lt_of_pos _ hb0⟩
      · rintro σ H' ⟨c', ns, v4, v5, v6, rfl, sm, hp, hl, hx⟩
        exact ⟨_, rfl, q H' p ns sm np hp hl hx⟩
    · refine ⟨_, rfl, .inl ⟨_, rfl, _, _, rfl, rfl, (by show (0 : Int) < 2147483647; decide), ?_⟩⟩
      refine ⟨_, rfl, (m : Int), rfl, by omega, by omega, for_range (n := m) (fun i σ H' => ∃ (c' sd : Int) (ns : List Int) (v4 v6 : Option V), σ = [some (.int c'), some (.int m), some (.int b), some (.ref p), v4, some (.int sd), v6] ∧
        0 ≤ sd ∧ sd < 2147483647 ∧ Same H H' ∧ H' p = some (.lst (ns.map V.int)) ∧ ns.length = i ∧ ∀ x ∈ ns, 0 ≤ x ∧ x < b)
        ⟨c, c % 2147483647, [], none, none, rfl, Int.emod_nonneg _ (by decide), Int.emod_lt_of_pos _ (by decide), s1, upd_same, rfl, fun x hx => by cases hx⟩ ?_ ?_⟩
      · rintro i σ H' hi ⟨c', sd, ns, v4, v6, rfl, d0, d1, sm, hp, hl, hx⟩
        refine ⟨_, rfl, _, _, rfl, rfl, .inl ⟨by omega, by omega⟩, _, _, rfl, rfl, _, rfl, _, _, rfl, rfl, .inl ⟨_, rfl, _, _, rfl, rfl, (by show (0 : Int) < 2147483647; decide), ?_⟩⟩
        have e0 : 0 ≤ (sd * 48271 + 12345 + (0 + (i : Int))) % 2147483647 := Int.emod_nonneg _ (by decide)
        have e1 : (sd * 48271 + 12345 + (0 + (i : Int))) % 2147483647 < 2147483647 := Int.emod_lt_of_pos _ (by decide)
        refine ⟨_, rfl, _, _, rfl, rfl, .inl ⟨by omega, by omega⟩, _, rfl, _, _, rfl, rfl, .inl ⟨by decide, by decide⟩, _, _, rfl, rfl, .inl ⟨_, rfl, _, _, rfl, rfl, (by show (0 : Int) < 2147483629; decide), ?_⟩⟩
        refine ⟨_, rfl, .inl ⟨rfl, _, SqL.of hp⟩, _, rfl, _, _, rfl, rfl, ⟨by decide, by decide⟩, .inl ⟨_, rfl, _, rfl, _, _, rfl, rfl, hb0, ?_⟩⟩
        refine ⟨p, _, _, rfl, rfl, hp, by rw [List.length_map]; exact small1000 (by omega), ?_⟩
        refine ⟨c', _, ns ++ [((sd * 48271 + 12345 + (0 + (i : Int))) % 2147483647 * 69621 + 977 * (0 + (i : Int))) % 2147483629 / 3 % b], _, _, rfl, e0, e1, same_mut sm np, ?_, by rw [List.length_append, hl]; rfl, ?_⟩
        · rw [upd_same, List.map_append]; rfl
        · intro x hm
          rcases List.mem_append.mp hm with h1 | h1
          · exact hx x h1
          · rw [List.mem_singleton.mp h1]
            exact ⟨Int.emod_nonneg _ (by omega), Int.emod_lt_of_pos _ hb0⟩
      · rintro σ H' ⟨c', sd, ns, v4, v6, rfl, d0, d1, sm, hp, hl, hx⟩
        exact ⟨_, rfl, q H' p ns sm np hp hl hx⟩
/-! ### _law_cell -/
theorem scCell : FnScope ["script", "k"] ["script", "k"] (defScope sCell) := ⟨rfl, rfl, rfl, by decide +kernel, rfl, by decide +kernel, by decide +kernel⟩
def spCell (K : PySem.W.Frag) : Sp := fun vs H Q _ => ∃ (a : Addr) (ns : List Int) (j : Nat), vs = [.ref a, .int (j : Int)] ∧ SqL K H a (ns.map V.int) ∧ Q (.int (ns.getD j 0)) H
theorem ok_cell {f : Addr} {fd : FuncData} {k : Nat} (F : Fun K "_law_cell" "_law_cell" sCell f fd) (T : Blt mg) : FnOk P w K mg base CX0 (k + 1) f fd ["script", "k"] (spCell K) := by
  refine F.ok scCell (fun vs H Q E h => ?_) (fun cdv A outer s H vs Q E hr h => ?_)
  · obtain ⟨a, ns, j, rfl, _⟩ := h
    rfl
  · obtain ⟨a, ns, j, rfl, hS, q⟩ := h
    refine ⟨_, pss_cons (ps_if (pt_cmpR op_lt (pv 1) (pe_callB call_len_seq (by rfl) T.len PySem.boot_len (pa_cons (pv 0) pa_nil)) (nomark _))
        (pss_one (ps_ret (pe_ix ix_list (pv 0) (pv 1) (fun _ _ => rfl)))) pss_nil) (pss_one (ps_ret pe_int)), ?_⟩
    refine ⟨_, rfl, _, rfl, a, _, rfl, .inl hS, _, _, rfl, rfl, _, rfl, ite2 (fun e => ?_) (fun e => ?_)⟩
    · have hj : j < ns.length := by
        have := of_decide_eq_true e
        rw [List.length_map] at this
        omega
      refine ⟨_, rfl, _, rfl, a, _, _, _, rfl, rfl, hS, atI_int hj, ?_⟩
      rw [List.getD_eq_getElem?_getD, List.getElem?_eq_getElem hj] at q
      exact q
    · have hj : ns.length ≤ j := by
        rcases Nat.lt_or_ge j ns.length with h | h
        · exact absurd (decide_eq_true (by rw [List.length_map]; omega)) e
        · exact h
      rw [List.getD_eq_getElem?_getD, List.getElem?_eq_none hj] at q
      exact q
end
end My
namespace My
open PySem PySem.Spec PyProof.Rows L2
abbrev sNet : Stmt := top 2
abbrev sInit : Stmt := inClass sNet 0
abbrev sNb : Stmt := inClass sNet 3
section
variable {P : Program} {w : World} {K : PySem.W.Frag} {mg : Str → Option Value} {base : Heap}
/-! ### Net.__init__ -/
theorem scInit : FnScope ["self", "kinds", "lines", "processing", "error", "a", "b", "ticks"] ["self", "kinds", "lines", "processing", "error"] (defScope sInit) := ⟨rfl, rfl, rfl, by decide +kernel, rfl, by decide +kernel, by decide +kernel⟩
abbrev FunInit (K : PySem.W.Frag) (f : Addr) (fd : FuncData) : Prop := FunD K "__init__" "Net.__init__" (defArgs sInit) (defBody sInit) (defScope sInit) [] [("processing", .int 0), ("error", .int 0)] f fd
/-- a Net stands at p, its lists are new -/
def NetNew (K : PySem.W.Frag) (C : Addr) (H H' : Hp) (p : Addr) (N : NetD) : Prop := ∃ (dx lk ll ld : Addr) (ts : List Addr), H' p = some (.ins C dx (netF lk ll N.pr N.er ld)) ∧ H' lk = some (.lst (N.ks.map kindV)) ∧ H' ll = some (.lst (ts.map V.ref)) ∧
  LinesAt K H' ts N.ls ∧ H' ld = some (.dT (delaysOf N.ls)) ∧ H lk = none ∧ H ll = none
theorem NetNew.at {K : PySem.W.Frag} {C : Addr} {H H' : Hp} {p : Addr} {N : NetD} (h : NetNew K C H H' p N) : NetAt K C H' p N := by
  obtain ⟨dx, lk, ll, ld, ts, h1, h2, h3, h4, h5, _⟩ := h
  exact ⟨dx, lk, ll, ld, ts, h1, h2, h3, h4, h5⟩
def spInit (K : PySem.W.Frag) (C : Addr) : Sp := fun vs H Q _ => ∃ (p dx l0 l1 : Addr) (ts : List Addr) (N : NetD), vs = [.ref p, .ref l0, .ref l1, .int N.pr, .int N.er] ∧ H p = some (.ins C dx []) ∧
  SqL K H l0 (N.ks.map kindV) ∧ SqL K H l1 (ts.map V.ref) ∧ LinesAt K H ts N.ls ∧ N.ls.length ≤ 1000 ∧
  ∀ H', (∀ b o, H b = some o → b ≠ p → H' b = some o) → NetNew K C H H' p N → Q .non H'
theorem ok_init {f C : Addr} {fd : FuncData} {k : Nat} (F : FunInit K f fd) (T : Blt mg) (c : NetC K C) : FnOk P w K mg base CX0 (k + 1) f fd ["self", "kinds", "lines", "processing", "error"] (spInit K C) := by
  refine F.ok scInit (fun vs H Q E h => ?_) (fun cdv A outer s H vs Q E hr h => ?_)
  · obtain ⟨p, dx, l0, l1, ts, N, rfl, _⟩ := h
    rfl
  · obtain ⟨p, dx, l0, l1, ts, N, rfl, hp, h0, h1, hts, hlen, q⟩ := h
    have nd := scInit.nd
    have hu := hu_of hr
    refine ⟨_, PSs.nox (pss_cons (ps_fld (pv 0) (pe_callTy call_list_of (by rfl) T.list (by decide +kernel) (pa_cons (pv 1) pa_nil)) rfl)
      (pss_cons (ps_fld (pv 0) (pe_callTy call_list_of (by rfl) T.list (by decide +kernel) (pa_cons (pv 2) pa_nil)) rfl)
      (pss_cons (ps_fld (pv 0) (pv 3) rfl) (pss_cons (ps_fld (pv 0) (pv 4) rfl) (pss_cons (ps_fld (pv 0) pe_dnewT rfl)
      (pss_one (ps_for PassesOwn.never rfl (pi_list (pe_fld (pv 0) rfl))
        (pg_tup rfl (pgs_cons (pg_name (i := 5) nd rfl (.inl rfl)) (pgs_cons (pg_name (i := 6) nd rfl (.inl rfl)) (pgs_cons (pg_name (i := 7) nd rfl (.inl rfl)) pgs_nil))))
        (pss_cons (ps_dput hu (pe_fld (pv 0) rfl) (pe_tup (pa_cons (pv 5) (pa_cons (pv 6) pa_nil))) (pv 7) rfl)
        (pss_one (ps_dput hu (pe_fld (pv 0) rfl) (pe_tup (pa_cons (pv 6) (pa_cons (pv 5) pa_nil))) (pv 7) rfl)))))))))), ?_⟩
    have pnn : ∀ {H1 : Hp} {a : Addr} {u : HO}, H1 p = some u → H1 a = none → p ≠ a := fun e n => ne_of_none e n
    -- self.kinds = list(kinds)
    refine ⟨_, rfl, l0, _, rfl, .inl h0, fun lk nk => ?_⟩
    have npk := pnn hp nk
    refine ⟨_, rfl, p, C, dx, [], rfl, (by rw [upd_ne npk]; exact hp), c.cl, c.n1, (by show 0 < 1000; decide), ?_⟩
    have k1 : But p H _ := but_new (u := .ins C dx (putF "kinds" (.ref lk) [])) (o := .lst (N.ks.map kindV)) nk
    have a1 : (upd (upd H lk (.lst (N.ks.map kindV))) p (.ins C dx (putF "kinds" (.ref lk) []))) lk = some (.lst (N.ks.map kindV)) := by rw [upd_ne npk.symm, upd_same]
    have p1 : (upd (upd H lk (.lst (N.ks.map kindV))) p (.ins C dx (putF "kinds" (.ref lk) []))) p = some (.ins C dx (putF "kinds" (.ref lk) [])) := upd_same
    generalize (upd (upd H lk (.lst (N.ks.map kindV))) p (.ins C dx (putF "kinds" (.ref lk) []))) = H1 at k1 a1 p1 ⊢
    rw [f1] at p1
    -- self.lines = list(lines)
    refine ⟨_, rfl, l1, ts.map V.ref, rfl, .inl (k1.seq hp h1), fun ll nl => ?_⟩
    have npl := pnn p1 nl
    have nlH : H ll = none := by
      cases e : H ll with
      | none => rfl
      | some o =>
        have z := k1 _ _ e npl.symm
        rw [nl] at z
        cases z
    refine ⟨_, rfl, p, C, dx, _, rfl, (by rw [upd_ne npl]; exact p1), c.cl, c.n2, (by show 1 < 1000; decide), ?_⟩
    have k2 : But p H1 _ := but_new (u := .ins C dx (putF "lines" (.ref ll) [(("kinds" : Str), V.ref lk)])) (o := .lst (ts.map V.ref)) nl
    have b2 : (upd (upd H1 ll (.lst (ts.map V.ref))) p (.ins C dx (putF "lines" (.ref ll) [(("kinds" : Str), V.ref lk)]))) ll = some (.lst (ts.map V.ref)) := by rw [upd_ne npl.symm, upd_same]
    have p2 : (upd (upd H1 ll (.lst (ts.map V.ref))) p (.ins C dx (putF "lines" (.ref ll) [(("kinds" : Str), V.ref lk)]))) p = some (.ins C dx (putF "lines" (.ref ll) [(("kinds" : Str), V.ref lk)])) := upd_same
    generalize (upd (upd H1 ll (.lst (ts.map V.ref))) p (.ins C dx (putF "lines" (.ref ll) [(("kinds" : Str), V.ref lk)]))) = H2 at k2 b2 p2 ⊢
    rw [f2] at p2
    have a2 := k2 _ _ a1 npk.symm
    have q2 := k1.trans k2
    -- self.processing, self.error
    refine ⟨_, rfl, _, rfl, p, C, dx, _, rfl, p2, c.cl, c.n3, (by show 2 < 1000; decide), ?_⟩
    refine ⟨_, rfl, _, rfl, p, C, dx, _, rfl, upd_same, c.cl, c.n4, (by rw [f3]; show 3 < 1000; decide), ?_⟩
    have k3 : But p H2 _ := but_self (u := .ins C dx (putF "processing" (.int N.pr) [(("kinds" : Str), V.ref lk), ("lines", V.ref ll)]))
    have k4 : But p _ _ := but_self (H := upd H2 p (.ins C dx (putF "processing" (.int N.pr) [(("kinds" : Str), V.ref lk), ("lines", V.ref ll)]))) (u := .ins C dx (putF "error" (.int N.er) (putF "processing" (.int N.pr) [(("kinds" : Str), V.ref lk), ("lines", V.ref ll)])))
    have q4 := (q2.trans k3).trans k4
    have k34 := k3.trans k4
    have p4 : (upd (upd H2 p (.ins C dx (putF "processing" (.int N.pr) [(("kinds" : Str), V.ref lk), ("lines", V.ref ll)]))) p (.ins C dx (putF "error" (.int N.er) (putF "processing" (.int N.pr) [(("kinds" : Str), V.ref lk), ("lines", V.ref ll)])))) p = some (.ins C dx (putF "error" (.int N.er) (putF "processing" (.int N.pr) [(("kinds" : Str), V.ref lk), ("lines", V.ref ll)]))) := upd_same
    clear k3 k4
    generalize (upd (upd H2 p (.ins C dx (putF "processing" (.int N.pr) [(("kinds" : Str), V.ref lk), ("lines", V.ref ll)]))) p (.ins C dx (putF "error" (.int N.er) (putF "processing" (.int N.pr) [(("kinds" : Str), V.ref lk), ("lines", V.ref ll)])))) = H4 at k34 q4 p4 ⊢
    rw [f3, f4] at p4
    have a4 := k34 _ _ a2 npk.symm
    have b4 := k34 _ _ b2 npl.symm
    -- self._delays = {}
    refine fun ld nd5 => ?_
    have npd := pnn p4 nd5
    refine ⟨_, rfl, p, C, dx, _, rfl, (by rw [upd_ne npd]; exact p4), c.cl, c.n5, (by show 4 < 1000; decide), ?_⟩
    rw [f5]
    have k5 : But p H4 _ := but_new (u := .ins C dx (netF lk ll N.pr N.er ld)) (o := .dT []) nd5
    have c5 : (upd (upd H4 ld (.dT [])) p (.ins C dx (netF lk ll N.pr N.er ld))) ld = some (.dT []) := by rw [upd_ne npd.symm, upd_same]
    have p5 : (upd (upd H4 ld (.dT [])) p (.ins C dx (netF lk ll N.pr N.er ld))) p = some (.ins C dx (netF lk ll N.pr N.er ld)) := upd_same
    generalize (upd (upd H4 ld (.dT [])) p (.ins C dx (netF lk ll N.pr N.er ld))) = H5 at k5 c5 p5 ⊢
    have a5 := k5 _ _ a4 npk.symm
    have b5 := k5 _ _ b4 npl.symm
    have q5 := q4.trans k5
    have ldH : H ld = none := by
      cases z : H ld with
      | none => rfl
      | some u => rw [q4 _ _ z npd.symm] at nd5; cases nd5
    have nkd : lk ≠ ld := fun z => by rw [z, nd5] at a4; cases a4
    have nld : ll ≠ ld := fun z => by rw [z, nd5] at b4; cases b4
    have tlen : ts.length = N.ls.length := hts.length
    -- the loop
    refine ⟨_, rfl, p, C, dx, _, _, rfl, p5, c.cl, c.n2, g2, ll, rfl, ⟨_, SqL.of b5⟩, for_list (K := K) (a := ll) (xs := ts.map V.ref) (fun i σ H' => ∃ (v5 v6 v7 : Option V), σ = [some (.ref p), some (.ref l0), some (.ref l1), some (.int N.pr), some (.int N.er), v5, v6, v7] ∧
      But p H H' ∧ H' p = some (.ins C dx (netF lk ll N.pr N.er ld)) ∧ H' lk = some (.lst (N.ks.map kindV)) ∧ H' ll = some (.lst (ts.map V.ref)) ∧ H' ld = some (.dT (delaysOf (N.ls.take i))))
      ⟨none, none, none, rfl, q5, p5, a5, b5, c5⟩ (fun i σ H' _ ⟨_, _, _, _, _, _, _, hl, _⟩ => SqL.of hl) ?_ ?_⟩
    · rintro i x σ H' hi ⟨v5, v6, v7, rfl, kb, hp', hk', hl', hd'⟩
      rw [List.getElem?_map] at hi
      cases ht : ts[i]? with
      | none => rw [ht] at hi; cases hi
      | some t =>
        rw [ht] at hi
        cases hi
        obtain ⟨l, el, hT⟩ := Paired.at hts ht
        have hT' := kb.tup hp hT
        refine ⟨t, _, rfl, hT', rfl, _, _, rfl, _, _, rfl, _, _, rfl, rfl, ?_⟩
        have hsz : (delaysOf (N.ls.take i)).length ≤ 2000 := by
          have := delays_len (N.ls.take i)
          rw [List.length_take] at this
          omega
        -- self._delays[a, b] = ticks
        refine ⟨_, rfl, _, rfl, p, C, dx, _, _, rfl, hp', c.cl, c.n5, g5, _, rfl, _, rfl, by show 2 ≤ sizeLine; decide, fun k1 nk1 => ?_⟩
        have z1 := same_new (o := .tup [.int (l.1 : Int), .int (l.2.1 : Int)]) nk1
        refine ⟨ld, _, rfl, DPut.t (k := key2 l.1 l.2.1) (z1 _ _ hd') upd_same (szl (by omega)), ?_⟩
        have nk1d : ld ≠ k1 := ne_of_none hd' nk1
        have pd' : p ≠ ld := npd
        refine ⟨_, rfl, _, rfl, p, C, dx, _, _, rfl, by rw [upd_ne pd']; exact z1 _ _ hp', c.cl, c.n5, g5, _, rfl, _, rfl, by show 2 ≤ sizeLine; decide, fun k2 nk2 => ?_⟩
        have z2 := same_new (o := .tup [.int (l.2.1 : Int), .int (l.1 : Int)]) nk2
        refine ⟨ld, _, rfl, DPut.t (k := key2 l.2.1 l.1) (z2 _ _ upd_same) upd_same (szl (by have := length_putK (delaysOf (N.ls.take i)) (key2 l.1 l.2.1) (V.int l.2.2); omega)), ?_⟩
        have all : ∀ b o, H' b = some o → b ≠ ld → (upd (upd (upd (upd H' k1 (.tup [.int (l.1 : Int), .int (l.2.1 : Int)])) ld (.dT (putK (delaysOf (N.ls.take i)) (key2 l.1 l.2.1) (.int l.2.2)))) k2 (.tup [.int (l.2.1 : Int), .int (l.1 : Int)])) ld
            (.dT (putK (putK (delaysOf (N.ls.take i)) (key2 l.1 l.2.1) (.int l.2.2)) (key2 l.2.1 l.1) (.int l.2.2)))) b = some o := fun b o e n => by
          rw [upd_ne n]
          refine z2 _ _ ?_
          rw [upd_ne n]
          exact z1 _ _ e
        refine ⟨_, _, _, rfl, fun b o e n => all _ _ (kb _ _ e n) (ne_of_none e ldH), all _ _ hp' pd', all _ _ hk' nkd, all _ _ hl' nld, ?_⟩
        rw [upd_same, take_snoc el, delays_snoc]
        rfl
    · rintro σ H' ⟨v5, v6, v7, rfl, kb, hp', hk', hl', hd'⟩
      rw [List.length_map, tlen, List.take_length] at hd'
      exact q H' kb ⟨dx, lk, ll, ld, ts, hp', hk', hl', Paired.imp hts fun _ _ z => kb.tup hp z, hd', nk, nlH⟩
/-! ### Net.neighbours -/
theorem scNb : FnScope ["self", "a", "b"] ["self", "a"] (defScope sNb) := ⟨rfl, rfl, rfl, by decide +kernel, rfl, by decide +kernel, by decide +kernel⟩
def spNb (K : PySem.W.Frag) (C : Addr) : Sp := fun vs H Q _ => ∃ (p : Addr) (a : Nat) (N : NetD), vs = [.ref p, .int (a : Int)] ∧ NetAt K C H p N ∧ N.ks.length ≤ 1000 ∧
  ∀ (H' : Hp) (D : Addr), Same H H' → H D = none → H' D = some (.lst (natsV (nbs N a))) → Q (.ref D) H'
theorem ok_nb {f C : Addr} {fd : FuncData} {k : Nat} (F : Fun K "neighbours" "Net.neighbours" sNb f fd) (T : Blt mg) (c : NetC K C) : FnOk P w K mg base CX0 (k + 1) f fd ["self", "a"] (spNb K C) := by
  refine F.ok scNb (fun vs H Q E h => ?_) (fun cdv A outer s H vs Q E hr h => ?_)
  · obtain ⟨p, a, N, rfl, _⟩ := h
    rfl
  · obtain ⟨p, a, N, rfl, hN, hlen, q⟩ := h
    have nd := scNb.nd
    have hu := hu_of hr
    refine ⟨_, pss_one (ps_ret (pe_lc (own := [("b", 2)]) (g := gName 2) rfl nd
      (pi_range1 (by rfl) T.range (pa_cons (pe_callB call_len_seq (by rfl) T.len PySem.boot_len (pa_cons (pe_fld (pv 0) rfl) pa_nil)) pa_nil))
      (blkOk_by (own := [("b", 2)]) (N := ["self", "a", "b"]) (sc := defScope sNb) (by decide +kernel))
      (fun _ _ _ _ _ => pg_name (i := 2) nd rfl (Or.inl rfl))
      (fun _ _ _ _ _ => pts_one (pt_cmp (pc_din hu (pe_tup (pa_cons (pv 1) (pa_cons (pv 2) pa_nil))) (pe_fldK (K := K) (pv 0)))))
      (fun _ _ _ _ _ => pv 2))), ?_⟩
    obtain ⟨dx, lk, ll, ld, ts, e1, e2, e3, e4, e5⟩ := id hN
    refine ⟨_, rfl, p, C, dx, _, _, rfl, e1, c.cl, c.n1, g1, lk, _, rfl, .inl (SqL.of e2), _, rfl, by omega, by rw [List.length_map]; omega, fun D nD => ?_⟩
    have sD := same_new (o := .lst []) nD
    have en : (N.ks.map kindV).length = N.ks.length := List.length_map ..
    refine lc_range (lo := 0) (n := (N.ks.map kindV).length) (fun i H' => Same H H' ∧ H' D = some (.lst (natsV ((List.range i).filter (adj N a))))) ⟨sD, upd_same⟩ ?_ ?_
    · rintro i H' hi ⟨sm, hD⟩
      refine ⟨rfl, ?_⟩
      refine ⟨_, rfl, _, rfl, by show 2 ≤ sizeLine; decide, fun t nt => ?_⟩
      have st := same_new (o := .tup [.int (a : Int), .int (0 + (i : Int))]) nt
      have e5t := st _ _ (sm _ _ e5)
      have nDt : D ≠ t := ne_of_none hD nt
      refine ⟨_, rfl, p, C, dx, _, _, rfl, st _ _ (sm _ _ e1), c.cl, c.n5, g5, ld, valV (delaysOf N.ls) (key2 a i), rfl, ?_, _, rfl, ?_⟩
      · refine DGet.t e5t (k := key2 a i) ?_
        rw [upd_same, Int.zero_add]
        rfl
      · rw [adj_val]
        refine ite2 (fun ea => ?_) (fun ea => ?_)
        · refine ⟨_, rfl, _, by rw [upd_ne nDt]; exact hD, ?_, ?_, ?_⟩
          · rw [natsV, List.length_map]
            have := List.length_filter_le (adj N a) (List.range i)
            rw [List.length_range] at this
            exact small1000 (by omega)
          · exact fun b o e => by
              rw [upd_ne (ne_of_none e nD)]
              exact st _ _ (sm _ _ e)
          · rw [upd_same, List.range_succ, List.filter_append, List.filter_cons, if_pos ea, natsV, natsV, List.map_append, Int.zero_add]
            rfl
        · refine ⟨fun b o e => st _ _ (sm _ _ e), ?_⟩
          rw [upd_ne nDt, List.range_succ, List.filter_append, List.filter_cons, if_neg ea]
          simpa using hD
    · rintro H' ⟨sm, hD⟩
      rw [en] at hD
      exact q H' D sm nD hD
end
end My
namespace My
open PySem PySem.Spec PyProof.Rows L2
abbrev sLNet : Stmt := top 19
/-- how Net(..) is called by its keywords -/
abbrev KBNet (K : PySem.W.Frag) (fd : FuncData) (mv : List Value) : Prop := KBn K fd ["self", "kinds", "lines", "processing", "error"] 3 ["processing", "error"] (fun us ws => us ++ ws) (fun vs zs => vs ++ zs)
theorem kb_net {K : PySem.W.Frag} {f : Addr} {fd : FuncData} (F : FunInit K f fd) : KBn K fd ["self", "kinds", "lines", "processing", "error"] 3 ["processing", "error"] (fun us ws => us ++ ws) (fun vs zs => vs ++ zs) := by
  obtain ⟨mv, h⟩ := F.kbinds0 (ps := ["self", "kinds", "lines", "processing", "error"]) 3 ["processing", "error"] [] (fun us _ ws => us ++ ws) (by simp) (fun q hq => by cases hq) (fun r1 _ r3 => r1.append r3)
    (fun D doc pm an cdv ct us mv ws h1 _ h3 => match us, ws, h1, h3 with | [_, _, _], [_, _], _, _ => rfl)
  exact h
section
variable {P : Program} {w : World} {K : PySem.W.Frag} {mg : Str → Option Value} {base : Heap}
theorem scLNet : FnScope ["cell", "more", "numbers", "hosts", "switches", "kinds", "k", "pairs", "a", "b", "draws", "lines", "near"] ["cell", "more"] (defScope sLNet) := ⟨rfl, rfl, rfl, by decide +kernel, rfl, by decide +kernel, by decide +kernel⟩
def spLNet (K : PySem.W.Frag) (C : Addr) : Sp := fun vs H Q _ => ∃ (c m : Int), vs = [.int c, .int m] ∧
  ∀ (H' : Hp) (p : Addr) (N : NetD), Same H H' → H p = none → NetAt K C H' p N → NetWf N → Q (.ref p) H'
/-- what a def's caller knows of it -/
structure Callee (P : Program) (w : World) (K : PySem.W.Frag) (mg : Str → Option Value) (base : Heap) (k : Nat) (x : Str) (ps : List Str) (sp : Sp) (f : Addr) (fd : FuncData) : Prop where
  ok : FnOk P w K mg base CX0 k f fd ps sp
  mg : mg x = some (.ref f)
  kp : PySem.W.keepIn K (.ref f) = true
  b : Binds K fd ps []
structure NetMk (P : Program) (w : World) (K : PySem.W.Frag) (mg : Str → Option Value) (base : Heap) (C f : Addr) (fd : FuncData) : Prop where
  ok : FnOk P w K mg base CX0 1 f fd ["self", "kinds", "lines", "processing", "error"] (spInit K C)
  mg : mg "Net" = some (.ref C)
  mkC : Mk K C f
  kb : KBn K fd ["self", "kinds", "lines", "processing", "error"] 3 ["processing", "error"] (fun us ws => us ++ ws) (fun vs zs => vs ++ zs)
theorem er_at {z : Int} (h0 : 0 ≤ z) (h1 : z < 4) : ∃ e : Int, atI [V.int 0, V.int 1, V.int 0, V.int 2] z = some (.int e) ∧ 0 ≤ e ∧ e ≤ 2 := by
  have : z = 0 ∨ z = 1 ∨ z = 2 ∨ z = 3 := by omega
  rcases this with rfl | rfl | rfl | rfl
  · exact ⟨0, rfl, by decide, by decide⟩
  · exact ⟨1, rfl, by decide, by decide⟩
  · exact ⟨0, rfl, by decide, by decide⟩
  · exact ⟨2, rfl, by decide, by decide⟩
theorem ok_lnet {f C fD fI : Addr} {fd fdD fdI : FuncData} {k : Nat} (F : Fun K "_law_net" "_law_net" sLNet f fd) (T : Blt mg) (D : Callee P w K mg base 1 "_law_draw" ["cell", "many", "bound"] spDraw fD fdD) (G : NetMk P w K mg base C fI fdI) :
    FnOk P w K mg base CX0 (k + 3) f fd ["cell", "more"] (spLNet K C) := by
  refine F.ok scLNet (fun vs H Q E h => ?_) (fun cdv A outer s H vs Q E hr h => ?_)
  · obtain ⟨c, m, rfl, _⟩ := h
    rfl
  · obtain ⟨c, m, rfl, q⟩ := h
    have nd := scLNet.nd
    have hr1 : Room 1 _ := hr.mono (by omega)
    have hr2 : Room 2 _ := hr.mono (by omega)
    refine ⟨_, pss_cons (ps_set (i := 2) nd rfl (.inl rfl) (pe_call D.ok hr1 (by rfl) D.mg D.kp D.b .nil pass0 (pa_cons (pv 0) (pa_cons pe_int (pa_cons (pe_op op_shl pe_int pe_int) pa_nil))))) <| pss_cons (ps_set (i := 3) nd rfl (.inl rfl) (pe_op op_add pe_int (pe_op op_mod (pe_ix ix_list (pv 2) pe_int (fun _ _ => rfl)) pe_int))) <| pss_cons (ps_set (i := 4) nd rfl (.inl rfl) (pe_op op_add pe_int (pe_op op_mod (pe_ix ix_list (pv 2) pe_int (fun _ _ => rfl)) pe_int))) <| pss_cons (ps_set (i := 5) nd rfl (.inl rfl) (pe_op op_rep (pe_lst (pa_cons pe_str pa_nil)) (pv 3))) <| pss_cons (ps_for PassesOwn.never rfl (pi_range1 (by rfl) T.range (pa_cons (pv 4) pa_nil)) (pg_name (i := 6) nd rfl (.inl rfl)) (pss_one (ps_expr (pe_bm PySem.F.plainAttrs_list PySem.F.slot_list_insert PySem.F.type_list_insert mt_insert (pv 5) (pa_cons (pe_op op_mod (pe_ix ix_list (pv 2) (pe_op op_add pe_int (pv 6)) (fun _ _ => rfl)) (pe_op op_add (pe_callB call_len_seq (by rfl) T.len PySem.boot_len (pa_cons (pv 5) pa_nil)) pe_int)) (pa_cons pe_str pa_nil)))))) <| pss_cons (ps_set (i := 7) nd rfl (.inl rfl) (pe_lst pa_nil)) <| pss_cons (ps_for PassesOwn.never rfl (pi_range1 (by rfl) T.range (pa_cons (pe_callB call_len_seq (by rfl) T.len PySem.boot_len (pa_cons (pv 5) pa_nil)) pa_nil)) (pg_name (i := 8) nd rfl (.inl rfl)) (pss_one (ps_for PassesOwn.never rfl (pi_range1 (by rfl) T.range (pa_cons (pv 8) pa_nil)) (pg_name (i := 9) nd rfl (.inl rfl)) (pss_one (ps_if (PW.pt (pw_or (pt_cmpR op_eq (pe_ix ix_list (pv 5) (pv 8) (fun _ _ => rfl)) pe_str (nomark _)) (pw_or1 (pt_cmpR op_eq (pe_ix ix_list (pv 5) (pv 9) (fun _ _ => rfl)) pe_str (nomark _))))) (pss_one (ps_expr (pe_bm PySem.F.plainAttrs_list PySem.F.slot_list_append PySem.F.type_list_append mt_append (pv 7) (pa_cons (pe_tup (pa_cons (pv 8) (pa_cons (pv 9) pa_nil))) pa_nil)))) (pss_nil)))))) <| pss_cons (ps_set (i := 10) nd rfl (.inl rfl) (pe_call D.ok hr1 (by rfl) D.mg D.kp D.b .nil pass0 (pa_cons (pv 1) (pa_cons (pe_op op_mul pe_int (pe_callB call_len_seq (by rfl) T.len PySem.boot_len (pa_cons (pv 7) pa_nil))) (pa_cons (pe_op op_shl pe_int pe_int) pa_nil))))) <| pss_cons (ps_set (i := 11) nd rfl (.inl rfl) (pe_lst pa_nil)) <| pss_cons (ps_for PassesOwn.never rfl (pi_range1 (by rfl) T.range (pa_cons (pe_callB call_len_seq (by rfl) T.len PySem.boot_len (pa_cons (pv 7) pa_nil)) pa_nil)) (pg_name (i := 6) nd rfl (.inl rfl)) (pss_cons (ps_asg (pe_ix ix_list (pv 7) (pv 6) (fun _ _ => rfl)) (pg_tup rfl (pgs_cons (pg_name (i := 8) nd rfl (.inl rfl)) (pgs_cons (pg_name (i := 9) nd rfl (.inl rfl)) pgs_nil)))) <| pss_cons (ps_set (i := 12) nd rfl (.inl rfl) (pe_cmpR op_ne (pe_ix ix_list (pv 5) (pv 8) (fun _ _ => rfl)) (pe_ix ix_list (pv 5) (pv 9) (fun _ _ => rfl)) (nomark _))) <| pss_one (ps_if (PW.pt (pw_or (pt_cmpR op_lt (pe_op op_mod (pe_ix ix_list (pv 10) (pe_op op_mul pe_int (pv 6)) (fun _ _ => rfl)) pe_int) pe_int (nomark _)) (pw_or1 (PW.pt (pw_and (pt_val (pv 12)) (pw_and1 (pt_cmpR op_eq (pe_op op_mod (pe_ix ix_list (pv 10) (pe_op op_mul pe_int (pv 6)) (fun _ _ => rfl)) pe_int) pe_int (nomark _)))))))) (pss_one (ps_if (pt_cmpR op_eq (pe_op op_mod (pe_ix ix_list (pv 10) (pe_op op_add (pe_op op_mul pe_int (pv 6)) pe_int) (fun _ _ => rfl)) pe_int) pe_int (nomark _)) (pss_one (ps_expr (pe_bm PySem.F.plainAttrs_list PySem.F.slot_list_append PySem.F.type_list_append mt_append (pv 11) (pa_cons (pe_tup (pa_cons (pv 8) (pa_cons (pv 9) (pa_cons (pe_op op_mod (pe_op op_fdiv (pe_ix ix_list (pv 10) (pe_op op_add (pe_op op_mul pe_int (pv 6)) pe_int) (fun _ _ => rfl)) pe_int) pe_int) pa_nil)))) pa_nil)))) (pss_one (ps_expr (pe_bm PySem.F.plainAttrs_list PySem.F.slot_list_append PySem.F.type_list_append mt_append (pv 11) (pa_cons (pe_tup (pa_cons (pv 9) (pa_cons (pv 8) (pa_cons (pe_op op_mod (pe_op op_fdiv (pe_ix ix_list (pv 10) (pe_op op_add (pe_op op_mul pe_int (pv 6)) pe_int) (fun _ _ => rfl)) pe_int) pe_int) pa_nil)))) pa_nil)))))) (pss_nil)))) <| pss_cons (ps_if (pt_cmpR op_eq (pe_op op_mod (pe_ix ix_list (pv 2) pe_int (fun _ _ => rfl)) pe_int) pe_int (nomark _)) (pss_one (ps_for PassesOwn.never rfl (pi_range1 (by rfl) T.range (pa_cons (pe_callB call_len_seq (by rfl) T.len PySem.boot_len (pa_cons (pv 5) pa_nil)) pa_nil)) (pg_name (i := 8) nd rfl (.inl rfl)) (pss_one (ps_for PassesOwn.never rfl (pi_range1 (by rfl) T.range (pa_cons (pv 8) pa_nil)) (pg_name (i := 9) nd rfl (.inl rfl)) (pss_one (ps_if (PW.pt (pw_and (pt_cmpR op_eq (pe_ix ix_list (pv 5) (pv 8) (fun _ _ => rfl)) pe_str (nomark _)) (pw_and (pt_cmpR op_eq (pe_ix ix_list (pv 5) (pv 9) (fun _ _ => rfl)) pe_str (nomark _)) (pw_and1 (pt_cmpR op_lt (pe_callB call_len_seq (by rfl) T.len PySem.boot_len (pa_cons (pv 11) pa_nil)) pe_int (nomark _)))))) (pss_one (ps_expr (pe_bm PySem.F.plainAttrs_list PySem.F.slot_list_append PySem.F.type_list_append mt_append (pv 11) (pa_cons (pe_tup (pa_cons (pv 8) (pa_cons (pv 9) (pa_cons (pe_op op_mod (pe_ix ix_list (pv 2) pe_int (fun _ _ => rfl)) pe_int) pa_nil)))) pa_nil)))) (pss_nil))))))) (pss_nil)) <| pss_one (ps_ret (pe_makeK G.mkC G.ok hr2 (by rfl) G.mg G.kb pass0 (pa_cons (pv 5) (pa_cons (pv 11) pa_nil)) (pk_cons (pe_op op_mod (pe_op op_fdiv (pe_ix ix_list (pv 2) pe_int (fun _ _ => rfl)) pe_int) pe_int) (pk_cons (pe_ix ix_list (pe_lst (pa_cons pe_int (pa_cons pe_int (pa_cons pe_int (pa_cons pe_int pa_nil))))) (pe_op op_mod (pe_ix ix_list (pv 2) pe_int (fun _ _ => rfl)) pe_int) (fun _ _ => rfl)) pk_nil)))), ?_⟩
    -- numbers
    refine ⟨_, rfl, _, _, rfl, rfl, ⟨by decide, by decide, by decide⟩, c, _, 8, rfl, by decide, by decide, by decide, fun H1 pn ns s1 npn hn ln bn => ?_⟩
    have bd : ∀ j, j < 8 → 0 ≤ ns.getD j 0 ∧ ns.getD j 0 < 1048576 := fun j hj => bn _ (getD_mem (by omega))
    -- hosts, switches
    refine ⟨_, rfl, pn, _, _, _, rfl, rfl, SqL.of hn, atI_ints (j := 0) rfl (by omega), _, _, rfl, rfl, (by show (0 : Int) < 3; decide), _, _, rfl, rfl, ?_⟩
    refine ⟨_, rfl, pn, _, _, _, rfl, rfl, SqL.of hn, atI_ints (j := 1) rfl (by omega), _, _, rfl, rfl, (by show (0 : Int) < 3; decide), _, _, rfl, rfl, ?_⟩
    have x0 : 0 ≤ ns.getD 0 0 % 3 := Int.emod_nonneg _ (by decide)
    have x1 : ns.getD 0 0 % 3 < 3 := Int.emod_lt_of_pos _ (by decide)
    have y0 : 0 ≤ ns.getD 1 0 % 3 := Int.emod_nonneg _ (by decide)
    have y1 : ns.getD 1 0 % 3 < 3 := Int.emod_lt_of_pos _ (by decide)
    have hh : 2 ≤ (2 + ns.getD 0 0 % 3).toNat ∧ (2 + ns.getD 0 0 % 3).toNat ≤ 4 := by omega
    have hs : 1 ≤ (1 + ns.getD 1 0 % 3).toNat ∧ (1 + ns.getD 1 0 % 3).toNat ≤ 3 := by omega
    -- kinds = ["host"] * hosts
    refine ⟨by show 1 ≤ sizeLine; decide, fun p0 np0 => ?_⟩
    have s2 : Same H1 (upd H1 p0 (.lst [V.str "host"])) := same_new np0
    refine ⟨_, rfl, p0, _, _, rfl, rfl, upd_same, by omega, by omega, (by show 1 * (2 + ns.getD 0 0 % 3).toNat ≤ sizeLine; exact sz (by omega)), fun pk npk => ?_⟩
    have s3 := same_new (o := .lst (List.replicate (2 + ns.getD 0 0 % 3).toNat [V.str "host"]).flatten) npk
    have hn2 := (s2.trans s3) _ _ hn
    have hk0 : (upd (upd H1 p0 (.lst [V.str "host"])) pk (.lst (List.replicate (2 + ns.getD 0 0 % 3).toNat [V.str "host"]).flatten)) pk = some (.lst ((List.replicate (2 + ns.getD 0 0 % 3).toNat true).map kindV)) := by
      rw [upd_same, rep_flat, List.map_replicate]
      rfl
    have S2 := (s1.trans s2).trans s3
    have npkH : H pk = none := (s1.trans s2).free npk
    have nnk : pn ≠ pk := ne_of_none (s2 _ _ hn) npk
    generalize (upd (upd H1 p0 (.lst [V.str "host"])) pk (.lst (List.replicate (2 + ns.getD 0 0 % 3).toNat [V.str "host"]).flatten)) = H2 at S2 hn2 hk0 ⊢
    clear s2 s3 np0 npk
    -- the switches are put in
    refine ⟨_, rfl, 1 + ns.getD 1 0 % 3, rfl, by omega, by omega, for_range (n := (1 + ns.getD 1 0 % 3).toNat) (fun i σ H' => ∃ (v6 : Option V) (ks : List Bool), σ = [some (.int c), some (.int m), some (.ref pn), some (.int (2 + ns.getD 0 0 % 3)), some (.int (1 + ns.getD 1 0 % 3)), some (.ref pk), v6, none, none, none, none, none, none] ∧
      But pk H2 H' ∧ H' pk = some (.lst (ks.map kindV)) ∧ ks.count true = (2 + ns.getD 0 0 % 3).toNat ∧ ks.count false = i) ⟨none, _, rfl, But.refl _ _, hk0, List.count_replicate_self, by rw [List.count_replicate]; rfl⟩ ?_ ?_⟩
    · rintro i σ H' hi ⟨v6, ks, rfl, kb, hk, c1, c0⟩
      have lk := len_count ks
      have hn' := kb _ _ hn2 nnk
      refine ⟨_, rfl, .inl ⟨rfl, _, SqL.of hk⟩, _, rfl, _, rfl, _, _, rfl, rfl, pn, _, _, _, rfl, rfl, SqL.of hn', atI_ints (j := 2 + i) (by omega) (by omega), _, rfl, pk, _, rfl, .inl (SqL.of hk), _, _, rfl, rfl, _, _, rfl, rfl, (by rw [List.length_map]; omega), ?_⟩
      rw [List.length_map]
      have z0 : 0 ≤ ns.getD (2 + i) 0 % ((ks.length : Int) + 1) := Int.emod_nonneg _ (by omega)
      have z1 : ns.getD (2 + i) 0 % ((ks.length : Int) + 1) < (ks.length : Int) + 1 := Int.emod_lt_of_pos _ (by omega)
      refine ⟨pk, _, _, _, rfl, rfl, hk, szl (by rw [List.length_map]; omega), z0, by omega, ?_⟩
      refine ⟨_, ks.take (ns.getD (2 + i) 0 % ((ks.length : Int) + 1)).toNat ++ [false] ++ ks.drop (ns.getD (2 + i) 0 % ((ks.length : Int) + 1)).toNat, rfl, kb.trans but_self, ?_, ?_, ?_⟩
      · rw [upd_same, List.map_append, List.map_append, List.map_take, List.map_drop]
        rfl
      · rw [count_ins, c1]
        rfl
      · rw [count_ins, c0]
        rfl
    rintro σ H3 ⟨v6, ks, rfl, kb3, hk3, c1, c0⟩
    have lk := len_count ks
    have lks : ks.length ≤ 7 := by omega
    have lkm : (ks.map kindV).length = ks.length := List.length_map ..
    have S3 := same_but S2 npkH kb3
    have hn3 := kb3 _ _ hn2 nnk
    -- pairs = []
    refine ⟨Nat.zero_le _, fun pp npp => ?_⟩
    have s4 := same_new (o := .lst []) npp
    have nppH := S3.free npp
    have S4 := S3.trans s4
    have hk4 := s4 _ _ hk3
    have hn4 := s4 _ _ hn3
    have nkp : pk ≠ pp := ne_of_none hk3 npp
    have nnp : pn ≠ pp := ne_of_none hn3 npp
    have hp4 : (upd H3 pp (.lst [])) pp = some (.lst []) := upd_same
    generalize (upd H3 pp (.lst [])) = H4 at S4 hk4 hn4 hp4 ⊢
    clear s4 npp
    -- the pairs
    refine ⟨_, rfl, pk, _, rfl, .inl (SqL.of hk4), _, rfl, by omega, by omega, for_range (n := (ks.map kindV).length) (fun i σ H' => ∃ (v8 v9 : Option V) (ts : List Addr) (ps : List (Nat × Nat)), σ = [some (.int c), some (.int m), some (.ref pn), some (.int (2 + ns.getD 0 0 % 3)), some (.int (1 + ns.getD 1 0 % 3)), some (.ref pk), v6, some (.ref pp), v8, v9, none, none, none] ∧
      But pp H4 H' ∧ H' pp = some (.lst (ts.map V.ref)) ∧ PairsAt K H' ts ps ∧ PInv ks ps i 0) ⟨none, none, [], [], rfl, But.refl _ _, hp4, .nil, PInv.nil⟩ ?_ ?_⟩
    · rintro i σ H' hi ⟨v8, v9, ts, ps, rfl, kb, hp, ht, hI⟩
      rw [lkm] at hi
      rw [Int.zero_add]
      refine ⟨_, rfl, (i : Int), rfl, by omega, by omega, for_range (n := i) (fun j σ H' => ∃ (v9 : Option V) (ts : List Addr) (ps : List (Nat × Nat)), σ = [some (.int c), some (.int m), some (.ref pn), some (.int (2 + ns.getD 0 0 % 3)), some (.int (1 + ns.getD 1 0 % 3)), some (.ref pk), v6, some (.ref pp), some (.int (i : Int)), v9, none, none, none] ∧
        But pp H4 H' ∧ H' pp = some (.lst (ts.map V.ref)) ∧ PairsAt K H' ts ps ∧ PInv ks ps i j) ⟨v9, ts, ps, rfl, kb, hp, ht, hI⟩ ?_ ?_⟩
      · rintro j σ H5 hj ⟨v9, ts, ps, rfl, kb, hp, ht, hI⟩
        rw [Int.zero_add]
        have hk5 := kb _ _ hk4 nkp
        refine or_read (a := decide (kindV (ks.getD i true) = V.str "switch")) (b := decide (kindV (ks.getD j true) = V.str "switch")) (fun Q q => ?_) (fun Q q => ?_) ?_
        · exact ⟨_, rfl, _, rfl, pk, _, _, _, rfl, rfl, SqL.of hk5, atI_kind rfl hi, rfl, _, rfl, q⟩
        · exact ⟨_, rfl, _, rfl, pk, _, _, _, rfl, rfl, SqL.of hk5, atI_kind rfl (by omega), rfl, _, rfl, q⟩
        · refine ite2 (fun e => ?_) (fun e => ?_)
          · have e2 : ks.getD i true = false ∨ ks.getD j true = false := by
              rw [Bool.or_eq_true] at e
              exact e.imp (fun z => kind_sw (of_decide_eq_true z)) (fun z => kind_sw (of_decide_eq_true z))
            refine ⟨_, rfl, .inl ⟨rfl, _, SqL.of hp⟩, _, rfl, _, rfl, by show 2 ≤ sizeLine; decide, fun t nt => ?_⟩
            have st := same_new (o := .tup [V.int (i : Int), V.int (j : Int)]) nt
            have hp' := st _ _ hp
            have nf := hI.few
            have lt := ht.length
            refine ⟨pp, _, _, rfl, rfl, hp', szl (by rw [List.length_map]; omega), ?_⟩
            refine ⟨_, ts ++ [t], ps ++ [(i, j)], rfl, kb.trans (but_app nt), ?_, ?_, hI.snoc hi hj e2⟩
            · rw [upd_same, List.map_append]
              rfl
            · have kb2 : But pp (upd H5 t (.tup [V.int (i : Int), V.int (j : Int)])) (upd (upd H5 t (.tup [V.int (i : Int), V.int (j : Int)])) pp (.lst (ts.map V.ref ++ [V.ref t]))) := but_self
              exact PairsAt.snoc (PairsAt.mono ht fun a b z => kb2.tupL hp' (same_tup st z)) (kb2.tupL hp' (SqT.of upd_same))
          · exact ⟨_, ts, ps, rfl, kb, hp, ht, hI.skip⟩
      · rintro σ H5 ⟨v9, ts, ps, rfl, kb, hp, ht, hI⟩
        exact ⟨_, v9, ts, ps, rfl, kb, hp, ht, hI.next (by omega)⟩
    rintro σ H5 ⟨v8, v9, ts, ps, rfl, kb5, hp5, ht5, hI⟩
    rw [lkm] at hI
    have S5 := same_but S4 nppH kb5
    have hk5 := kb5 _ _ hk4 nkp
    have hn5 := kb5 _ _ hn4 nnp
    have ltp : ts.length = ps.length := ht5.length
    have lpm : (ts.map V.ref).length = ps.length := by rw [List.length_map]; exact ltp
    have nf := hI.few
    -- draws
    refine ⟨_, rfl, _, rfl, pp, _, rfl, .inl (SqL.of hp5), _, _, rfl, rfl, .inl ⟨by decide, by decide⟩, _, _, rfl, rfl, ⟨by decide, by decide, by decide⟩, m, 1048576, 2 * ps.length, ?_, by omega, by decide, by decide, fun H6 pd ds s6 npd hd ld bdd => ?_⟩
    · rw [lpm]
      rfl
    have S6 := S5.trans s6
    have hk6 := s6 _ _ hk5
    have hn6 := s6 _ _ hn5
    have hp6 := s6 _ _ hp5
    have ht6 : PairsAt K H6 ts ps := PairsAt.mono ht5 fun _ _ z => same_tup s6 z
    -- lines = []
    refine ⟨Nat.zero_le _, fun pl npl => ?_⟩
    have s7 := same_new (o := .lst []) npl
    have nplH := S6.free npl
    have S7 := S6.trans s7
    have hk7 := s7 _ _ hk6
    have hn7 := s7 _ _ hn6
    have hp7 := s7 _ _ hp6
    have hd7 := s7 _ _ hd
    have ht7 : PairsAt K (upd H6 pl (.lst [])) ts ps := PairsAt.mono ht6 fun _ _ z => same_tup s7 z
    have nkl : pk ≠ pl := ne_of_none hk6 npl
    have nnl : pn ≠ pl := ne_of_none hn6 npl
    have npl' : pp ≠ pl := ne_of_none hp6 npl
    have ndl : pd ≠ pl := ne_of_none hd npl
    have hl7 : (upd H6 pl (.lst [])) pl = some (.lst []) := upd_same
    generalize (upd H6 pl (.lst [])) = H7 at S7 hk7 hn7 hp7 hd7 ht7 hl7 ⊢
    clear s7 npl
    -- the lines
    refine ⟨_, rfl, pp, _, rfl, .inl (SqL.of hp7), _, rfl, by omega, by omega, for_range (n := (ts.map V.ref).length) (fun i σ H' => ∃ (v6 v8 v9 v12 : Option V) (us : List Addr) (ls : List (Nat × Nat × Int)), σ = [some (.int c), some (.int m), some (.ref pn), some (.int (2 + ns.getD 0 0 % 3)), some (.int (1 + ns.getD 1 0 % 3)), some (.ref pk), v6, some (.ref pp), v8, v9, some (.ref pd), some (.ref pl), v12] ∧
      But pl H7 H' ∧ H' pl = some (.lst (us.map V.ref)) ∧ LinesAt K H' us ls ∧ LInv ps ls i) ⟨v6, v8, v9, none, [], [], rfl, But.refl _ _, hl7, .nil, LInv.nil⟩ ?_ ?_⟩
    · rintro i σ H8 hi ⟨v6, v8, v9, v12, us, ls, rfl, kb, hl, hu, hL⟩
      rw [lpm] at hi
      rw [Int.zero_add]
      have hp8 := kb _ _ hp7 npl'
      have hk8 := kb _ _ hk7 nkl
      have hd8 := kb _ _ hd7 ndl
      have eti : ts[i]? = some ts[i] := List.getElem?_eq_getElem (by omega)
      obtain ⟨pr, epr, hT⟩ := Paired.at ht7 eti
      have hT8 := kb.tupL hl7 hT
      obtain ⟨pa, pb⟩ := pr
      obtain ⟨o1, o2, o3, o4⟩ := hI.ok _ (List.mem_of_getElem? epr)
      have o1 : pb < pa := o1
      have o2 : pa < ks.length := o2
      have eix : atI (ts.map V.ref) (i : Int) = some (V.ref ts[i]) := atI_nat (by rw [List.getElem?_map, eti]; rfl)
      refine ⟨_, rfl, _, rfl, pp, _, _, _, rfl, rfl, SqL.of hp8, eix, ts[i], _, rfl, hT8, rfl, _, _, rfl, _, _, rfl, rfl, ?_⟩
      refine ⟨_, rfl, _, rfl, pk, _, _, _, rfl, rfl, SqL.of hk8, atI_kind rfl o2, _, rfl, _, rfl, pk, _, _, _, rfl, rfl, SqL.of hk8, atI_kind rfl (by omega), rfl, ?_⟩
      have ix0 : atI (ds.map V.int) (2 * (i : Int)) = some (.int (ds.getD (2 * i) 0)) := atI_ints (by omega) (by omega)
      have ix1 : atI (ds.map V.int) (2 * (i : Int) + 1) = some (.int (ds.getD (2 * i + 1) 0)) := atI_ints (by omega) (by omega)
      have few := hL.few
      have lu : us.length = ls.length := hu.length
      have t0 : 0 ≤ ds.getD (2 * i + 1) 0 / 2 % 4 := Int.emod_nonneg _ (by decide)
      have t1 : ds.getD (2 * i + 1) 0 / 2 % 4 < 4 := Int.emod_lt_of_pos _ (by decide)
      dsimp only [gName]
      refine or_read (a := decide (ds.getD (2 * i) 0 % 5 < 3)) (b := (!decide (kindV (ks.getD pa true) = kindV (ks.getD pb true))) && decide (V.int (ds.getD (2 * i) 0 % 5) = V.int 3)) (fun Q q => ?_) (fun Q q => ?_) ?_
      · exact ⟨_, rfl, _, rfl, _, _, rfl, rfl, .inl ⟨by decide, by decide⟩, pd, _, _, _, rfl, rfl, SqL.of hd8, ix0, _, _, rfl, rfl, (by show (0 : Int) < 5; decide), _, _, rfl, rfl, _, rfl, q⟩
      · refine and_read (fun Q q => ?_) (fun _ Q q => ?_) q
        · exact ⟨_, rfl, _, rfl, q⟩
        · exact ⟨_, rfl, _, rfl, _, _, rfl, rfl, .inl ⟨by decide, by decide⟩, pd, _, _, _, rfl, rfl, SqL.of hd8, ix0, _, _, rfl, rfl, (by show (0 : Int) < 5; decide), rfl, _, rfl, q⟩
      · refine ite2 (fun _ => ?_) (fun _ => ?_)
        · refine ⟨_, rfl, _, rfl, _, _, rfl, rfl, .inl ⟨by decide, by decide⟩, _, _, rfl, rfl, pd, _, _, _, rfl, rfl, SqL.of hd8, ix1, _, _, rfl, rfl, (by show (0 : Int) < 2; decide), rfl, _, rfl, ite2 (fun _ => ?_) (fun _ => ?_)⟩
          · refine ⟨_, rfl, .inl ⟨rfl, _, SqL.of hl⟩, _, rfl, _, rfl, _, rfl, _, rfl, _, _, rfl, rfl, .inl ⟨by decide, by decide⟩, _, _, rfl, rfl, pd, _, _, _, rfl, rfl, SqL.of hd8, ix1, _, _, rfl, rfl, ⟨by decide, by decide⟩, _, _, rfl, rfl, (by show (0 : Int) < 4; decide), by show 3 ≤ sizeLine; decide, fun t nt => ?_⟩
            have st := same_new (o := .tup [V.int (pa : Int), V.int (pb : Int), V.int (ds.getD (2 * i + 1) 0 / 2 % 4)]) nt
            have hl' := st _ _ hl
            refine ⟨pl, _, _, rfl, rfl, hl', szl (by rw [List.length_map]; omega), ?_⟩
            refine ⟨_, _, _, _, us ++ [t], ls ++ [(pa, pb, ds.getD (2 * i + 1) 0 / 2 % 4)], rfl, kb.trans (but_app nt), ?_, ?_, hL.snoc hI.nd (by rw [norm_gt o1]; exact epr) ⟨t0, Int.le_of_lt t1⟩⟩
            · rw [upd_same, List.map_append]
              rfl
            · have kb2 : But pl (upd H8 t (.tup [V.int (pa : Int), V.int (pb : Int), V.int (ds.getD (2 * i + 1) 0 / 2 % 4)])) (upd (upd H8 t (.tup [V.int (pa : Int), V.int (pb : Int), V.int (ds.getD (2 * i + 1) 0 / 2 % 4)])) pl (.lst (us.map V.ref ++ [V.ref t]))) := but_self
              exact LinesAt.snoc (LinesAt.mono hu fun a b z => kb2.tupL hl' (same_tup st z)) (kb2.tupL hl' (SqT.of upd_same))
          · refine ⟨_, rfl, .inl ⟨rfl, _, SqL.of hl⟩, _, rfl, _, rfl, _, rfl, _, rfl, _, _, rfl, rfl, .inl ⟨by decide, by decide⟩, _, _, rfl, rfl, pd, _, _, _, rfl, rfl, SqL.of hd8, ix1, _, _, rfl, rfl, ⟨by decide, by decide⟩, _, _, rfl, rfl, (by show (0 : Int) < 4; decide), by show 3 ≤ sizeLine; decide, fun t nt => ?_⟩
            have st := same_new (o := .tup [V.int (pb : Int), V.int (pa : Int), V.int (ds.getD (2 * i + 1) 0 / 2 % 4)]) nt
            have hl' := st _ _ hl
            refine ⟨pl, _, _, rfl, rfl, hl', szl (by rw [List.length_map]; omega), ?_⟩
            refine ⟨_, _, _, _, us ++ [t], ls ++ [(pb, pa, ds.getD (2 * i + 1) 0 / 2 % 4)], rfl, kb.trans (but_app nt), ?_, ?_, hL.snoc hI.nd (by rw [norm_lt o1]; exact epr) ⟨t0, Int.le_of_lt t1⟩⟩
            · rw [upd_same, List.map_append]
              rfl
            · have kb2 : But pl (upd H8 t (.tup [V.int (pb : Int), V.int (pa : Int), V.int (ds.getD (2 * i + 1) 0 / 2 % 4)])) (upd (upd H8 t (.tup [V.int (pb : Int), V.int (pa : Int), V.int (ds.getD (2 * i + 1) 0 / 2 % 4)])) pl (.lst (us.map V.ref ++ [V.ref t]))) := but_self
              exact LinesAt.snoc (LinesAt.mono hu fun a b z => kb2.tupL hl' (same_tup st z)) (kb2.tupL hl' (SqT.of upd_same))
        · exact ⟨_, _, _, _, us, ls, rfl, kb, hl, hu, hL.skip⟩
    rintro σ H8 ⟨v6, v8, v9, v12, us, ls, rfl, kb8, hl8, hu8, hL⟩
    rw [lpm] at hL
    have hH : HInv ks ps ls 0 0 := hL.host (by omega)
    have hn8 := kb8 _ _ hn7 nnl
    have hk8 := kb8 _ _ hk7 nkl
    -- the end, from any such state
    have fin : ∀ (H9 : Hp) (us : List Addr) (ls : List (Nat × Nat × Int)), But pl H7 H9 → H9 pl = some (.lst (us.map V.ref)) → LinesAt K H9 us ls → LsOk ks.length ls →
        ∀ (H10 : Hp), Same H9 H10 → ∀ (x dx : Addr), H10 x = none → H10 dx = none → dx ≠ x → ∀ er : Int, 0 ≤ er → er ≤ 2 →
          spInit K C [.ref x, .ref pk, .ref pl, .int (ns.getD 6 0 / 5 % 3), .int er] (upd (upd H10 dx (.own x)) x (.ins C dx [])) (fun v H' => v = .non ∧ Q (.ref x) H') E0 := by
      intro H9 us ls kb hl hu hL H10 s10 x dx nx ndx ne er e0 e1
      have S9 : Same H H9 := same_but S7 nplH kb
      have z : ∀ b o, H10 b = some o → b ≠ x ∧ (upd (upd H10 dx (.own x)) x (.ins C dx [])) b = some o := fun b o e => by
        have h1 := ne_of_none e nx
        exact ⟨h1, by rw [upd_ne h1, upd_ne (ne_of_none e ndx)]; exact e⟩
      have zs : Same H10 (upd (upd H10 dx (.own x)) x (.ins C dx [])) := fun b o e => (z b o e).2
      refine ⟨x, dx, pk, pl, us, ⟨ks, ls, ns.getD 6 0 / 5 % 3, er⟩, rfl, upd_same, SqL.of (zs _ _ (s10 _ _ (kb _ _ hk7 nkl))), SqL.of (zs _ _ (s10 _ _ hl)), LinesAt.mono hu fun a ys t => same_tup zs (same_tup s10 t), ?_, fun H' kb' hN => ⟨rfl, ?_⟩⟩
      · have := hL.few
        show ls.length ≤ 1000
        omega
      · refine q H' x _ (fun b o e => ?_) (S9.free (s10.free nx)) hN.at ⟨by show 2 ≤ ks.count true; omega, by show ks.count true ≤ 4; omega, by show 1 ≤ ks.count false; omega, by show ks.count false ≤ 3; omega, hL, Int.emod_nonneg _ (by decide), ?_, e0, e1⟩
        · obtain ⟨z1, z2⟩ := z b o (s10 _ _ (S9 _ _ e))
          exact kb' b o z2 z1
        · have : ns.getD 6 0 / 5 % 3 < 3 := Int.emod_lt_of_pos _ (by decide)
          show ns.getD 6 0 / 5 % 3 ≤ 2
          omega
    have u0 : 0 ≤ ns.getD 7 0 % 4 := Int.emod_nonneg _ (by decide)
    have u1 : ns.getD 7 0 % 4 < 4 := Int.emod_lt_of_pos _ (by decide)
    obtain ⟨er, ee, er0, er1⟩ := er_at u0 u1
    -- if numbers[5] % 7 == 0
    refine ⟨_, rfl, pn, _, _, _, rfl, rfl, SqL.of hn8, atI_ints (j := 5) rfl (by omega), _, _, rfl, rfl, (by show (0 : Int) < 7; decide), rfl, _, rfl, ite2 (fun _ => ?_) (fun _ => ?_)⟩
    · refine ⟨_, rfl, pk, _, rfl, .inl (SqL.of hk8), _, rfl, by omega, by omega, for_range (n := (ks.map kindV).length) (fun i σ H' => ∃ (v8 v9 : Option V) (us : List Addr) (ls : List (Nat × Nat × Int)), σ = [some (.int c), some (.int m), some (.ref pn), some (.int (2 + ns.getD 0 0 % 3)), some (.int (1 + ns.getD 1 0 % 3)), some (.ref pk), v6, some (.ref pp), v8, v9, some (.ref pd), some (.ref pl), v12] ∧
        But pl H7 H' ∧ H' pl = some (.lst (us.map V.ref)) ∧ LinesAt K H' us ls ∧ HInv ks ps ls i 0) ⟨v8, v9, us, ls, rfl, kb8, hl8, hu8, hH⟩ ?_ ?_⟩
      · rintro i σ H9 hi ⟨v8, v9, us, ls, rfl, kb, hl, hu, hL⟩
        rw [lkm] at hi
        rw [Int.zero_add]
        refine ⟨_, rfl, (i : Int), rfl, by omega, by omega, for_range (n := i) (fun j σ H' => ∃ (v9 : Option V) (us : List Addr) (ls : List (Nat × Nat × Int)), σ = [some (.int c), some (.int m), some (.ref pn), some (.int (2 + ns.getD 0 0 % 3)), some (.int (1 + ns.getD 1 0 % 3)), some (.ref pk), v6, some (.ref pp), some (.int (i : Int)), v9, some (.ref pd), some (.ref pl), v12] ∧
          But pl H7 H' ∧ H' pl = some (.lst (us.map V.ref)) ∧ LinesAt K H' us ls ∧ HInv ks ps ls i j) ⟨v9, us, ls, rfl, kb, hl, hu, hL⟩ ?_ ?_⟩
        · rintro j σ H9 hj ⟨v9, us, ls, rfl, kb, hl, hu, hL⟩
          rw [Int.zero_add]
          have hk9 := kb _ _ hk7 nkl
          have hn9 := kb _ _ hn7 nnl
          have lu : us.length = ls.length := hu.length
          have few := hL.few
          refine and_read (a := decide (kindV (ks.getD i true) = V.str "host")) (b := decide (kindV (ks.getD j true) = V.str "host") && decide ((((us.map V.ref).length : Nat) : Int) < 20)) (fun Q q => ?_) (fun _ Q q => ?_) ?_
          · exact ⟨_, rfl, _, rfl, pk, _, _, _, rfl, rfl, SqL.of hk9, atI_kind rfl hi, rfl, _, rfl, q⟩
          · refine and_read (fun Q q => ?_) (fun _ Q q => ?_) q
            · exact ⟨_, rfl, _, rfl, pk, _, _, _, rfl, rfl, SqL.of hk9, atI_kind rfl (by omega), rfl, _, rfl, q⟩
            · exact ⟨_, rfl, pl, _, rfl, .inl (SqL.of hl), _, _, rfl, rfl, _, rfl, q⟩
          · refine ite2 (fun e => ?_) (fun e => ?_)
            · rw [Bool.and_eq_true, Bool.and_eq_true] at e
              obtain ⟨e1, e2, e3⟩ := e
              have e1 := kind_ho (of_decide_eq_true e1)
              have e2 := kind_ho (of_decide_eq_true e2)
              have e3 := of_decide_eq_true e3
              rw [List.length_map] at e3
              have t0 : 0 ≤ ns.getD 6 0 % 5 := Int.emod_nonneg _ (by decide)
              have t1 : ns.getD 6 0 % 5 < 5 := Int.emod_lt_of_pos _ (by decide)
              refine ⟨_, rfl, .inl ⟨rfl, _, SqL.of hl⟩, _, rfl, _, rfl, _, rfl, pn, _, _, _, rfl, rfl, SqL.of hn9, atI_ints (j := 6) rfl (by omega), _, _, rfl, rfl, (by show (0 : Int) < 5; decide), by show 3 ≤ sizeLine; decide, fun t nt => ?_⟩
              have st := same_new (o := .tup [V.int (i : Int), V.int (j : Int), V.int (ns.getD 6 0 % 5)]) nt
              have hl' := st _ _ hl
              refine ⟨pl, _, _, rfl, rfl, hl', szl (by rw [List.length_map]; omega), ?_⟩
              refine ⟨_, us ++ [t], ls ++ [(i, j, ns.getD 6 0 % 5)], rfl, kb.trans (but_app nt), ?_, ?_, hL.snoc hI hi hj e1 e2 ⟨t0, by omega⟩ (by omega)⟩
              · rw [upd_same, List.map_append]
                rfl
              · have kb2 : But pl (upd H9 t (.tup [V.int (i : Int), V.int (j : Int), V.int (ns.getD 6 0 % 5)])) (upd (upd H9 t (.tup [V.int (i : Int), V.int (j : Int), V.int (ns.getD 6 0 % 5)])) pl (.lst (us.map V.ref ++ [V.ref t]))) := but_self
                exact LinesAt.snoc (LinesAt.mono hu fun a b z => kb2.tupL hl' (same_tup st z)) (kb2.tupL hl' (SqT.of upd_same))
            · exact ⟨_, us, ls, rfl, kb, hl, hu, hL.skip⟩
        · rintro σ H9 ⟨v9, us, ls, rfl, kb, hl, hu, hL⟩
          exact ⟨_, v9, us, ls, rfl, kb, hl, hu, hL.next⟩
      · rintro σ H9 ⟨v8, v9, us, ls, rfl, kb, hl, hu, hL⟩
        have hn9 := kb _ _ hn7 nnl
        refine ⟨_, rfl, _, rfl, _, rfl, pn, _, _, _, rfl, rfl, SqL.of hn9, atI_ints (j := 6) rfl (by omega), _, _, rfl, rfl, ⟨by decide, by decide⟩, _, _, rfl, rfl, (by show (0 : Int) < 3; decide), by show 4 ≤ sizeLine; decide, fun pe npe => ?_⟩
        have se := same_new (o := .lst [V.int 0, V.int 1, V.int 0, V.int 2]) npe
        refine ⟨_, rfl, pn, _, _, _, rfl, rfl, SqL.of (se _ _ hn9), atI_ints (j := 7) rfl (by omega), _, _, rfl, rfl, (by show (0 : Int) < 4; decide), pe, _, _, _, rfl, rfl, SqL.of upd_same, ee, rfl, rfl, fun x dx nx ndx ne => ?_⟩
        exact fin H9 us ls kb hl hu (hL.ok hI) _ se x dx nx ndx ne er er0 er1
    · refine ⟨_, rfl, _, rfl, _, rfl, pn, _, _, _, rfl, rfl, SqL.of hn8, atI_ints (j := 6) rfl (by omega), _, _, rfl, rfl, ⟨by decide, by decide⟩, _, _, rfl, rfl, (by show (0 : Int) < 3; decide), by show 4 ≤ sizeLine; decide, fun pe npe => ?_⟩
      have se := same_new (o := .lst [V.int 0, V.int 1, V.int 0, V.int 2]) npe
      refine ⟨_, rfl, pn, _, _, _, rfl, rfl, SqL.of (se _ _ hn8), atI_ints (j := 7) rfl (by omega), _, _, rfl, rfl, (by show (0 : Int) < 4; decide), pe, _, _, _, rfl, rfl, SqL.of upd_same, ee, rfl, rfl, fun x dx nx ndx ne => ?_⟩
      exact fin H8 us ls kb8 hl8 hu8 (hH.ok hI) _ se x dx nx ndx ne er er0 er1
end
end My
namespace My
open PySem PySem.Spec PyProof.Rows L2
abbrev sJoined : Stmt := top 20
abbrev sPaths : Stmt := top 21
section
variable {P : Program} {w : World} {K : PySem.W.Frag} {mg : Str → Option Value} {base : Heap}
/-! ### _law_joined -/
theorem scJ : FnScope ["net", "a", "b", "first", "second", "ticks"] ["net", "a", "b"] (defScope sJoined) := ⟨rfl, rfl, rfl, by decide +kernel, rfl, by decide +kernel, by decide +kernel⟩
def spJoined (K : PySem.W.Frag) (C : Addr) : Sp := fun vs H Q _ => ∃ (p : Addr) (a b : Nat) (N : NetD), vs = [.ref p, .int (a : Int), .int (b : Int)] ∧ NetAt K C H p N ∧ Q (optV (joined N a b)) H
theorem ok_joined {f C : Addr} {fd : FuncData} {k : Nat} (F : Fun K "_law_joined" "_law_joined" sJoined f fd) (c : NetC K C) : FnOk P w K mg base CX0 (k + 1) f fd ["net", "a", "b"] (spJoined K C) := by
  refine F.ok scJ (fun vs H Q E h => ?_) (fun cdv A outer s H vs Q E hr h => ?_)
  · obtain ⟨p, a, b, N, rfl, _⟩ := h
    rfl
  · obtain ⟨p, a, b, N, rfl, hN, q⟩ := h
    have nd := scJ.nd
    refine ⟨_, pss_cons (ps_for PassesOwn.never rfl (pi_list (pe_fld (pv 0) rfl)) (pg_tup rfl (pgs_cons (pg_name (i := 3) nd rfl (.inl rfl)) (pgs_cons (pg_name (i := 4) nd rfl (.inl rfl)) (pgs_cons (pg_name (i := 5) nd rfl (.inl rfl)) pgs_nil)))) (pss_one (ps_if (PW.pt (pw_or (PW.pt (pw_and (pt_cmpR op_eq (pv 3) (pv 1) (nomark _)) (pw_and1 (pt_cmpR op_eq (pv 4) (pv 2) (nomark _))))) (pw_or1 (PW.pt (pw_and (pt_cmpR op_eq (pv 3) (pv 2) (nomark _)) (pw_and1 (pt_cmpR op_eq (pv 4) (pv 1) (nomark _)))))))) (pss_one (ps_ret (pv 5))) (pss_nil)))) <| pss_one (ps_ret pe_non), ?_⟩
    obtain ⟨dx, lk, ll, ld, ts, e1, e2, e3, e4, e5⟩ := id hN
    have tlen : ts.length = N.ls.length := e4.length
    refine ⟨_, rfl, p, C, dx, _, _, rfl, e1, c.cl, c.n2, g2, ll, rfl, ⟨_, SqL.of e3⟩, for_list (K := K) (a := ll) (xs := ts.map V.ref) (fun i σ H' => ∃ (v3 v4 v5 : Option V), σ = [some (.ref p), some (.int (a : Int)), some (.int (b : Int)), v3, v4, v5] ∧ H' = H ∧ (N.ls.take i).find? (hits a b) = none)
      ⟨none, none, none, rfl, rfl, rfl⟩ (fun i σ H' _ ⟨_, _, _, _, z, _⟩ => by rw [z]; exact SqL.of e3) ?_ ?_⟩
    · rintro i x σ H' hi ⟨v3, v4, v5, rfl, rfl, hf⟩
      rw [List.getElem?_map] at hi
      cases ht : ts[i]? with
      | none => rw [ht] at hi; cases hi
      | some t =>
        rw [ht] at hi
        cases hi
        obtain ⟨l, el, hT⟩ := Paired.at e4 ht
        refine ⟨t, _, rfl, hT, rfl, _, _, rfl, _, _, rfl, _, _, rfl, rfl, ?_⟩
        have eb : (decide (V.int (l.1 : Int) = V.int (a : Int)) && decide (V.int (l.2.1 : Int) = V.int (b : Int)) || decide (V.int (l.1 : Int) = V.int (b : Int)) && decide (V.int (l.2.1 : Int) = V.int (a : Int))) = hits a b l := by
          rw [dec_nat, dec_nat, dec_nat, dec_nat]
          rfl
        refine or_read (a := decide (V.int (l.1 : Int) = V.int (a : Int)) && decide (V.int (l.2.1 : Int) = V.int (b : Int))) (b := decide (V.int (l.1 : Int) = V.int (b : Int)) && decide (V.int (l.2.1 : Int) = V.int (a : Int))) (fun Q q => ?_) (fun Q q => ?_) ?_
        · exact and_read (fun Q q => ⟨_, rfl, _, rfl, rfl, _, rfl, q⟩) (fun _ Q q => ⟨_, rfl, _, rfl, rfl, _, rfl, q⟩) q
        · exact and_read (fun Q q => ⟨_, rfl, _, rfl, rfl, _, rfl, q⟩) (fun _ Q q => ⟨_, rfl, _, rfl, rfl, _, rfl, q⟩) q
        · rw [eb]
          refine ite2 (fun e => ?_) (fun e => ?_)
          · have ej : joined N a b = some l.2.2 := by
              unfold joined
              rw [find_take (hits a b) el hf e]
              rfl
            rw [ej] at q
            exact ⟨_, rfl, q⟩
          · exact ⟨_, _, _, rfl, rfl, find_skip (hits a b) el hf e⟩
    · rintro σ H' ⟨v3, v4, v5, rfl, rfl, hf⟩
      rw [List.length_map, tlen, List.take_length] at hf
      have ej : joined N a b = none := by
        unfold joined
        rw [hf]
        rfl
      rw [ej] at q
      exact q
/-! ### _law_paths -/
theorem scP : FnScope ["net", "most", "found", "rows", "turn", "longer", "row", "b", "a"] ["net", "most"] (defScope sPaths) := ⟨rfl, rfl, rfl, by decide +kernel, rfl, by decide +kernel, by decide +kernel⟩
def spPaths (K : PySem.W.Frag) (C : Addr) : Sp := fun vs H Q _ => ∃ (p : Addr) (m : Nat) (N : NetD), vs = [.ref p, .int ((m : Int) + 1)] ∧ NetAt K C H p N ∧ N.ks.length ≤ 7 ∧ m ≤ 4 ∧
  ∀ (H' : Hp) (pf : Addr) (fs : List Addr), Same H H' → H pf = none → H' pf = some (.lst (fs.map V.ref)) → RowsAt H' fs (foundOf N m) → Q (.ref pf) H'
theorem ok_paths {f C fJ : Addr} {fd fdJ : FuncData} {k : Nat} (F : Fun K "_law_paths" "_law_paths" sPaths f fd) (T : Blt mg) (c : NetC K C) (J : Callee P w K mg base 1 "_law_joined" ["net", "a", "b"] (spJoined K C) fJ fdJ) :
    FnOk P w K mg base CX0 (k + 2) f fd ["net", "most"] (spPaths K C) := by
  refine F.ok scP (fun vs H Q E h => ?_) (fun cdv A outer s H vs Q E hr h => ?_)
  · obtain ⟨p, m, N, rfl, _⟩ := h
    rfl
  · obtain ⟨p, m, N, rfl, hN, hn, hm, q⟩ := h
    have nd := scP.nd
    have hr1 : Room 1 _ := hr.mono (by omega)
    refine ⟨_, pss_cons (ps_set (i := 2) nd rfl (.inl rfl) (pe_lst pa_nil)) <| pss_cons (ps_setLc (i := 3) (own := [("a", 8)]) (g := gName 8) rfl nd rfl rfl (sw_true rfl rfl rfl (by decide +kernel)) (pi_range1 (by rfl) T.range (pa_cons (pe_callB call_len_seq (by rfl) T.len PySem.boot_len (pa_cons (pe_fld (pv 0) rfl) pa_nil)) pa_nil)) (blkOk_by (own := [("a", 8)]) (N := ["net", "most", "found", "rows", "turn", "longer", "row", "b", "a"]) (sc := defScope sPaths) (by decide +kernel)) (fun _ _ _ _ _ => pg_name (i := 8) nd rfl (Or.inl rfl)) (fun _ _ _ _ _ => pts_one (pt_cmpR op_eq (pe_ix (ix_listK (K := K)) (pe_fldK (K := K) (pv 0)) (pv 8) (fun _ _ => rfl)) pe_str (nomark _))) (fun _ _ _ _ _ => (pe_lst (pa_cons (pv 8) pa_nil)))) <| pss_cons (ps_for PassesOwn.never rfl (pi_range1 (by rfl) T.range (pa_cons (pe_op op_sub (pv 1) pe_int) pa_nil)) (pg_name (i := 4) nd rfl (.inl rfl)) (pss_cons (ps_set (i := 5) nd rfl (.inl rfl) (pe_lst pa_nil)) <| pss_cons (ps_for PassesOwn.never rfl (pi_list (pv 3)) (pg_name (i := 6) nd rfl (.inl rfl)) (pss_one (ps_for PassesOwn.never rfl (pi_range1 (by rfl) T.range (pa_cons (pe_callB call_len_seq (by rfl) T.len PySem.boot_len (pa_cons (pe_fld (pv 0) rfl) pa_nil)) pa_nil)) (pg_name (i := 7) nd rfl (.inl rfl)) (pss_one (ps_if (PW.pt (pw_and (pt_cmpR op_notIn_seq (pv 7) (pv 6) rfl) (pw_and1 (pt_cmpR op_notN (pe_call J.ok hr1 (by rfl) J.mg J.kp J.b .nil pass0 (pa_cons (pv 0) (pa_cons (pe_ix ix_list (pv 6) (pe_op op_sub (pe_callB call_len_seq (by rfl) T.len PySem.boot_len (pa_cons (pv 6) pa_nil)) pe_int) (fun _ _ => rfl)) (pa_cons (pv 7) pa_nil)))) pe_non (nomark _))))) (pss_one (ps_if (pt_cmpR op_eq (pe_ix ix_list (pe_fld (pv 0) rfl) (pv 7) (fun _ _ => rfl)) pe_str (nomark _)) (pss_one (ps_expr (pe_bm PySem.F.plainAttrs_list PySem.F.slot_list_append PySem.F.type_list_append mt_append (pv 2) (pa_cons (pe_op op_cat (pv 6) (pe_lst (pa_cons (pv 7) pa_nil))) pa_nil)))) (pss_one (ps_expr (pe_bm PySem.F.plainAttrs_list PySem.F.slot_list_append PySem.F.type_list_append mt_append (pv 5) (pa_cons (pe_op op_cat (pv 6) (pe_lst (pa_cons (pv 7) pa_nil))) pa_nil)))))) (pss_nil)))))) <| pss_one (ps_set (i := 3) nd rfl (.inl rfl) (pv 5)))) <| pss_one (ps_ret (pv 2)), ?_⟩
    have eN := hN
    obtain ⟨dx, lk, ll, ld, ts, e1, e2, e3, e4, e5⟩ := hN
    have en : (N.ks.map kindV).length = N.ks.length := List.length_map ..
    -- found = []
    refine ⟨Nat.zero_le _, fun pf npf => ?_⟩
    have s1 := same_new (o := .lst []) npf
    have hf1 : (upd H pf (.lst [])) pf = some (.lst []) := upd_same
    generalize (upd H pf (.lst [])) = H1 at s1 hf1 ⊢
    -- rows = [[a] for a in range(len(net.kinds)) if net.kinds[a] == "host"]
    refine ⟨_, rfl, p, C, dx, _, _, rfl, s1 _ _ e1, c.cl, c.n1, g1, lk, _, rfl, .inl (SqL.of (s1 _ _ e2)), _, rfl, by omega, by omega, fun D nD => ?_⟩
    have nfD : pf ≠ D := ne_of_none hf1 nD
    refine lc_range (lo := 0) (n := (N.ks.map kindV).length) (fun i H' => Same H H' ∧ H' pf = some (.lst []) ∧ ∃ rs : List Addr, H' D = some (.lst (rs.map V.ref)) ∧ RowsAt H' rs (((List.range i).filter (host N)).map fun a => [a]) ∧ rs.length ≤ i)
      ⟨s1.trans (same_new nD), by rw [upd_ne nfD]; exact hf1, [], upd_same, .nil, Nat.le_refl _⟩ ?_ ?_
    · rintro i H' hi ⟨sm, hf, rs, hD, hR, hl⟩
      rw [en] at hi
      rw [Int.zero_add]
      refine ⟨rfl, ?_⟩
      refine ⟨_, rfl, p, C, dx, _, _, rfl, sm _ _ e1, c.cl, c.n1, g1, _, rfl, lk, _, _, _, rfl, rfl, SqL.of (sm _ _ e2), atI_kind rfl hi, rfl, _, rfl, ?_⟩
      have eb : decide (kindV (N.ks.getD i true) = V.str "host") = host N i := by
        unfold host
        cases N.ks.getD i true <;> decide +kernel
      rw [eb]
      refine ite2 (fun e => ?_) (fun e => ?_)
      · refine ⟨_, rfl, by show 1 ≤ sizeLine; decide, fun t nt => ?_⟩
        have st := same_new (o := .lst [V.int (i : Int)]) nt
        have hD' := st _ _ hD
        refine ⟨_, hD', szl (by rw [List.length_map]; omega), ?_⟩
        have kb : But D (upd H' t (.lst [V.int (i : Int)])) (upd (upd H' t (.lst [V.int (i : Int)])) D (.lst (rs.map V.ref ++ [V.ref t]))) := but_self
        have ntD : t ≠ D := fun z => by rw [z, hD] at nt; cases nt
        refine ⟨same_but (sm.trans st) (s1.free nD) kb, kb _ _ (st _ _ hf) nfD, rs ++ [t], ?_, ?_, by rw [List.length_append, List.length_singleton]; omega⟩
        · rw [upd_same, List.map_append]
          rfl
        · rw [filt_succ, if_pos e]
          refine RowsAt.snoc ((hR.same st).but hD' kb) (by simp) ?_
          rw [upd_ne ntD, upd_same]
          rfl
      · refine ⟨sm, hf, rs, hD, ?_, by omega⟩
        rw [filt_succ, if_neg e, List.append_nil]
        exact hR
    rintro H2 ⟨s2, hf2, rs, hD2, hR2, _⟩
    rw [en] at hR2
    -- the turns
    refine ⟨_, rfl, _, _, rfl, rfl, (m : Int) + 1 - 1, rfl, by omega, by omega, for_range (n := ((m : Int) + 1 - 1).toNat) (fun t σ H' => ∃ (pr : Addr) (rs fs : List Addr) (v4 v5 v6 v7 v8 : Option V), σ = [some (.ref p), some (.int ((m : Int) + 1)), some (.ref pf), some (.ref pr), v4, v5, v6, v7, v8] ∧
      Same H H' ∧ pr ≠ pf ∧ H' pf = some (.lst (fs.map V.ref)) ∧ RowsAt H' fs (foundOf N t) ∧ H' pr = some (.lst (rs.map V.ref)) ∧ RowsAt H' rs (rowsOf N t))
      ⟨D, rs, [], _, _, _, _, _, rfl, s2, nfD.symm, hf2, .nil, hD2, hR2⟩ ?_ ?_⟩
    · rintro t σ H3 ht ⟨pr, rs, fs, v4, v5, v6, v7, v8, rfl, s3, nrf, hf3, hF3, hr3, hR3⟩
      have ht4 : t < 4 := by omega
      have lrs : rs.length = (rowsOf N t).length := hR3.length
      have lfs : fs.length = (foundOf N t).length := hF3.length
      have b1 := rows_len N hn t
      have b2 := found_len N hn t
      have b3 : 8 ^ (t + 1) ≤ 8 ^ 4 := Nat.pow_le_pow_right (by decide) (by omega)
      have b4 : (8 : Nat) ^ 4 = 4096 := by decide
      -- longer = []
      refine ⟨Nat.zero_le _, fun pl npl => ?_⟩
      have s4 := same_new (o := .lst []) npl
      have nfl : pf ≠ pl := ne_of_none hf3 npl
      have nrl : pr ≠ pl := ne_of_none hr3 npl
      have nplH := s3.free npl
      have hl4 : (upd H3 pl (.lst [])) pl = some (.lst []) := upd_same
      have hf4 := s4 _ _ hf3
      have hr4 := s4 _ _ hr3
      have hF4 := hF3.same s4
      have hR4 := hR3.same s4
      have S4 := s3.trans s4
      generalize (upd H3 pl (.lst [])) = H4 at s4 hl4 hf4 hr4 hF4 hR4 S4 ⊢
      -- for row in rows
      refine ⟨_, rfl, pr, rfl, ⟨_, SqL.of hr4⟩, for_list (K := K) (a := pr) (xs := rs.map V.ref) (fun i σ H' => ∃ (fs ls : List Addr) (v6 v7 : Option V), σ = [some (.ref p), some (.int ((m : Int) + 1)), some (.ref pf), some (.ref pr), some (.int (0 + (t : Int))), some (.ref pl), v6, v7, v8] ∧
        Same H H' ∧ H' pf = some (.lst (fs.map V.ref)) ∧ RowsAt H' fs (foundOf N t ++ ((rowsOf N t).take i).flatMap (exH N)) ∧ H' pl = some (.lst (ls.map V.ref)) ∧ RowsAt H' ls (((rowsOf N t).take i).flatMap (exS N)) ∧ H' pr = some (.lst (rs.map V.ref)) ∧ RowsAt H' rs (rowsOf N t))
        ⟨fs, [], v6, v7, rfl, S4, hf4, by simpa using hF4, hl4, .nil, hr4, hR4⟩ (fun i σ H' _ ⟨_, _, _, _, _, _, _, _, _, _, z, _⟩ => SqL.of z) ?_ ?_⟩
      · rintro i x σ H5 hi ⟨fs, ls, v6, v7, rfl, s5, hf5, hF5, hl5, hL5, hr5, hR5⟩
        rw [List.getElem?_map] at hi
        cases htr : rs[i]? with
        | none => rw [htr] at hi; cases hi
        | some ra =>
          rw [htr] at hi
          cases hi
          obtain ⟨row, erow, rne, hrow⟩ := Paired.at hR5 htr
          have hii : i < (rowsOf N t).length := (List.getElem?_eq_some_iff.mp erow).1
          have f1 := len_flat (exH N) 7 (fun a => Nat.le_trans (exH_len N a) hn) ((rowsOf N t).take i)
          have f2 := len_flat (exS N) 7 (fun a => Nat.le_trans (exS_len N a) hn) ((rowsOf N t).take i)
          have f3 : ((rowsOf N t).take i).length ≤ 4096 := by rw [List.length_take]; omega
          refine ⟨_, rfl, p, C, dx, _, _, rfl, s5 _ _ e1, c.cl, c.n1, g1, lk, _, rfl, .inl (SqL.of (s5 _ _ e2)), _, rfl, by omega, by omega, for_range (n := (N.ks.map kindV).length) (fun j σ H' => ∃ (fs ls : List Addr) (v7 : Option V), σ = [some (.ref p), some (.int ((m : Int) + 1)), some (.ref pf), some (.ref pr), some (.int (0 + (t : Int))), some (.ref pl), some (.ref ra), v7, v8] ∧
            Same H H' ∧ H' pf = some (.lst (fs.map V.ref)) ∧ RowsAt H' fs (foundOf N t ++ ((rowsOf N t).take i).flatMap (exH N) ++ ((List.range j).filter fun b => okb N row b && host N b).map fun b => row ++ [b]) ∧
            H' pl = some (.lst (ls.map V.ref)) ∧ RowsAt H' ls (((rowsOf N t).take i).flatMap (exS N) ++ ((List.range j).filter fun b => okb N row b && !host N b).map fun b => row ++ [b]) ∧ H' pr = some (.lst (rs.map V.ref)) ∧ RowsAt H' rs (rowsOf N t) ∧ H' ra = some (.lst (natsV row)))
            ⟨fs, ls, v7, rfl, s5, hf5, by simpa using hF5, hl5, by simpa using hL5, hr5, hR5, hrow⟩ ?_ ?_⟩
          · rintro j σ H6 hj ⟨fs, ls, v7, rfl, s6, hf6, hF6, hl6, hL6, hr6, hR6, hrow6⟩
            rw [en] at hj
            rw [Int.zero_add]
            have lf := hF6.length
            have ll' := hL6.length
            rw [List.length_append, List.length_append, List.length_map] at lf
            rw [List.length_append, List.length_map] at ll'
            have lq1 := List.length_filter_le (fun b => okb N row b && host N b) (List.range j)
            have lq2 := List.length_filter_le (fun b => okb N row b && !host N b) (List.range j)
            rw [List.length_range] at lq1 lq2
            have rl : 0 < row.length := List.length_pos_iff.mpr rne
            have rlc : row.length ≤ 100 := by rw [rows_row N t row (List.mem_of_getElem? erow)]; omega
            have elast : atI (natsV row) (((natsV row).length : Int) - 1) = some (.int ((lastN row : Nat) : Int)) := by
              have h1 : row.length - 1 < row.length := by omega
              have h2 : (((natsV row).length : Int) - 1) = ((row.length - 1 : Nat) : Int) := by rw [natsV_len]; omega
              rw [h2]
              exact atI_nat (natsV_at (getD_at 0 h1))
            refine and_read (a := !(row.contains j)) (b := adj N (lastN row) j) (fun Q q => ?_) (fun _ Q q => ?_) ?_
            · refine ⟨_, rfl, _, rfl, ra, natsV row, rfl, .inl (SqL.of hrow6), rfl, natsV_flat row, _, rfl, ?_⟩
              show Q (!inV (V.int (j : Int)) (natsV row)) H6
              rw [natsV_in]
              exact q
            · refine ⟨_, rfl, _, rfl, _, rfl, ra, _, rfl, .inl (SqL.of hrow6), _, _, rfl, rfl, ra, _, _, _, rfl, rfl, SqL.of hrow6, elast, _, rfl, p, lastN row, j, N, rfl, eN.same s6, ?_⟩
              refine ⟨rfl, _, rfl, ?_⟩
              rw [optV_non, joined_some]
              exact q
            · show (if okb N row j = true then _ else _)
              refine ite2 (fun e => ?_) (fun e => ?_)
              · have eb : decide (kindV (N.ks.getD j true) = V.str "host") = host N j := by
                  unfold host
                  cases N.ks.getD j true <;> decide +kernel
                refine ⟨_, rfl, p, C, dx, _, _, rfl, s6 _ _ e1, c.cl, c.n1, g1, _, rfl, lk, _, _, _, rfl, rfl, SqL.of (s6 _ _ e2), atI_kind rfl hj, rfl, _, rfl, ?_⟩
                rw [eb]
                refine ite2 (fun eh => ?_) (fun eh => ?_)
                · refine ⟨_, rfl, .inl ⟨rfl, _, SqL.of hf6⟩, _, rfl, _, rfl, by show 1 ≤ sizeLine; decide, fun u nu => ?_⟩
                  have su := same_new (o := .lst [V.int (j : Int)]) nu
                  refine ⟨ra, u, _, _, rfl, rfl, su _ _ hrow6, upd_same, sz (by rw [natsV_len]; show row.length + 1 ≤ 100000; omega), fun y ny => ?_⟩
                  have sy := same_new (o := .lst (natsV row ++ [V.int (j : Int)])) ny
                  have suy := su.trans sy
                  refine ⟨pf, _, _, rfl, rfl, suy _ _ hf6, szl (by rw [List.length_map]; omega), ?_⟩
                  have hy : (upd (upd H6 u (.lst [V.int (j : Int)])) y (.lst (natsV row ++ [V.int (j : Int)]))) y = some (.lst (natsV (row ++ [j]))) := by rw [upd_same, natsV_app]
                  have nyf : y ≠ pf := fun z => by rw [z, su _ _ hf6] at ny; cases ny
                  generalize (upd (upd H6 u (.lst [V.int (j : Int)])) y (.lst (natsV row ++ [V.int (j : Int)]))) = H7 at suy hy ⊢
                  have kb : But pf H7 (upd H7 pf (.lst (fs.map V.ref ++ [V.ref y]))) := but_self
                  have hf7 := suy _ _ hf6
                  refine ⟨fs ++ [y], ls, _, rfl, same_but (s6.trans suy) npf kb, by rw [upd_same, List.map_append]; rfl, ?_, kb _ _ (suy _ _ hl6) nfl.symm, ?_, kb _ _ (suy _ _ hr6) nrf, (hR6.same suy).but hf7 kb, kb _ _ (suy _ _ hrow6) (row_ne rne (suy _ _ hrow6) hf7)⟩
                  · rw [filt_succ, if_pos (by rw [e, eh]; rfl), ← List.append_assoc]
                    exact RowsAt.snoc ((hF6.same suy).but hf7 kb) (by simp) (kb _ _ hy nyf)
                  · rw [filt_succ, if_neg (by rw [e, eh]; decide), List.append_nil]
                    exact (hL6.same suy).but hf7 kb
                · have eh' : host N j = false := Bool.eq_false_iff.mpr eh
                  refine ⟨_, rfl, .inl ⟨rfl, _, SqL.of hl6⟩, _, rfl, _, rfl, by show 1 ≤ sizeLine; decide, fun u nu => ?_⟩
                  have su := same_new (o := .lst [V.int (j : Int)]) nu
                  refine ⟨ra, u, _, _, rfl, rfl, su _ _ hrow6, upd_same, sz (by rw [natsV_len]; show row.length + 1 ≤ 100000; omega), fun y ny => ?_⟩
                  have sy := same_new (o := .lst (natsV row ++ [V.int (j : Int)])) ny
                  have suy := su.trans sy
                  refine ⟨pl, _, _, rfl, rfl, suy _ _ hl6, szl (by rw [List.length_map]; omega), ?_⟩
                  have hy : (upd (upd H6 u (.lst [V.int (j : Int)])) y (.lst (natsV row ++ [V.int (j : Int)]))) y = some (.lst (natsV (row ++ [j]))) := by rw [upd_same, natsV_app]
                  have nyl : y ≠ pl := fun z => by rw [z, su _ _ hl6] at ny; cases ny
                  generalize (upd (upd H6 u (.lst [V.int (j : Int)])) y (.lst (natsV row ++ [V.int (j : Int)]))) = H7 at suy hy ⊢
                  have kb : But pl H7 (upd H7 pl (.lst (ls.map V.ref ++ [V.ref y]))) := but_self
                  have hl7 := suy _ _ hl6
                  refine ⟨fs, ls ++ [y], _, rfl, same_but (s6.trans suy) nplH kb, kb _ _ (suy _ _ hf6) nfl, ?_, by rw [upd_same, List.map_append]; rfl, ?_, kb _ _ (suy _ _ hr6) nrl, (hR6.same suy).but hl7 kb, kb _ _ (suy _ _ hrow6) (row_ne rne (suy _ _ hrow6) hl7)⟩
                  · rw [filt_succ, if_neg (by rw [e, eh']; decide), List.append_nil]
                    exact (hF6.same suy).but hl7 kb
                  · rw [filt_succ, if_pos (by rw [e, eh']; rfl), ← List.append_assoc]
                    exact RowsAt.snoc ((hL6.same suy).but hl7 kb) (by simp) (kb _ _ hy nyl)
              · have e' : okb N row j = false := Bool.eq_false_iff.mpr e
                refine ⟨fs, ls, _, rfl, s6, hf6, ?_, hl6, ?_, hr6, hR6, hrow6⟩
                · rw [filt_succ, if_neg (by rw [e']; simp), List.append_nil]
                  exact hF6
                · rw [filt_succ, if_neg (by rw [e']; simp), List.append_nil]
                  exact hL6
          · rintro σ H6 ⟨fs, ls, v7, rfl, s6, hf6, hF6, hl6, hL6, hr6, hR6, hrow6⟩
            rw [en] at hF6 hL6
            refine ⟨fs, ls, _, v7, rfl, s6, hf6, ?_, hl6, ?_, hr6, hR6⟩
            · rw [flat_take (exH N) erow, ← List.append_assoc]
              exact hF6
            · rw [flat_take (exS N) erow]
              exact hL6
      · rintro σ H5 ⟨fs, ls, v6, v7, rfl, s5, hf5, hF5, hl5, hL5, hr5, hR5⟩
        rw [List.length_map, lrs, List.take_length] at hF5 hL5
        refine ⟨_, rfl, pl, ls, fs, _, _, _, _, _, rfl, s5, nfl.symm, hf5, hF5, hl5, hL5⟩
    · rintro σ H3 ⟨pr, rs, fs, v4, v5, v6, v7, v8, rfl, s3, nrf, hf3, hF3, hr3, hR3⟩
      have em : ((m : Int) + 1 - 1).toNat = m := by omega
      rw [em] at hF3
      exact ⟨_, rfl, q H3 pf fs s3 npf hf3 hF3⟩
end
end My
namespace My
open PySem PySem.Spec PyProof.Rows L2
abbrev sShort : Stmt := top 5
abbrev sNext : Stmt := top 8
abbrev sWay : Stmt := top 9
section
variable {P : Program} {w : World} {K : PySem.W.Frag} {mg : Str → Option Value} {base : Heap}
/-! ### next_nodes -/
theorem scNext : FnScope ["net", "first", "arcs", "node", "kind"] ["net", "first"] (defScope sNext) := ⟨rfl, rfl, rfl, by decide +kernel, rfl, by decide +kernel, by decide +kernel⟩
def spNext (K : PySem.W.Frag) (C : Addr) : Sp := fun vs H Q _ => ∃ (p : Addr) (a : Nat) (N : NetD), vs = [.ref p, .int (a : Int)] ∧ NetAt K C H p N ∧ N.ks.length ≤ 1000 ∧
  ∀ (H' : Hp) (d : Addr), Same H H' → H d = none → ArcsAt H' d (arcsOf N a) N.ks.length → Q (.ref d) H'
structure MethOf (P : Program) (w : World) (K : PySem.W.Frag) (mg : Str → Option Value) (base : Heap) (k : Nat) (ps : List Str) (sp : Sp) (f : Addr) (fd : FuncData) : Prop where
  ok : FnOk P w K mg base CX0 k f fd ps sp
  b : Binds K fd ps []
theorem ok_next {f C fN : Addr} {fd fdN : FuncData} {k : Nat} (F : Fun K "next_nodes" "next_nodes" sNext f fd) (T : Blt mg) (c : NetC K C) (mN : Meth K C "neighbours" fN) (GN : MethOf P w K mg base 1 ["self", "a"] (spNb K C) fN fdN) :
    FnOk P w K mg base CX0 (k + 2) f fd ["net", "first"] (spNext K C) := by
  refine F.ok scNext (fun vs H Q E h => ?_) (fun cdv A outer s H vs Q E hr h => ?_)
  · obtain ⟨p, a, N, rfl, _⟩ := h
    rfl
  · obtain ⟨p, a, N, rfl, hN, hn, q⟩ := h
    have nd := scNext.nd
    have hu := hu_of hr
    have hr1 : Room 1 _ := hr.mono (by omega)
    refine ⟨_, pss_cons (ps_set (i := 2) nd rfl (.inl rfl) pe_dnewK) <| pss_cons (ps_for PassesOwn.never rfl (pi_enum (by rfl) T.enum (pa_cons (pe_fld (pv 0) rfl) pa_nil)) (pg_tup rfl (pgs_cons (pg_name (i := 3) nd rfl (.inl rfl)) (pgs_cons (pg_name (i := 4) nd rfl (.inl rfl)) pgs_nil))) (pss_one (ps_dput hu (pv 2) (pv 3) (pe_ifExp (PW.pt (pw_or (pt_cmpR op_eq (pv 3) (pv 1) (nomark _)) (pw_or1 (pt_cmpR op_eq (pv 4) pe_str (nomark _))))) (pe_meth (pv 0) c.cl mN GN.ok hr1 GN.b .nil pass0 (pa_cons (pv 3) pa_nil)) (pe_lst pa_nil)) rfl))) <| pss_one (ps_ret (pv 2)), ?_⟩
    have eN := hN
    obtain ⟨dx, lk, ll, ld, ts, e1, e2, e3, e4, e5⟩ := hN
    have en : (N.ks.map kindV).length = N.ks.length := List.length_map ..
    -- arcs = {}
    refine fun d nd0 => ?_
    have s1 := same_new (o := .dK []) nd0
    have hd1 : (upd H d (.dK [])) d = some (.dK []) := upd_same
    generalize (upd H d (.dK [])) = H1 at s1 hd1 ⊢
    refine ⟨_, rfl, p, C, dx, _, _, rfl, s1 _ _ e1, c.cl, c.n1, g1, lk, _, rfl, SqL.of (s1 _ _ e2), for_it (walk_enum (K := K) (a := lk) (xs := N.ks.map kindV)) (fun i σ H' => ∃ (v3 v4 : Option V) (kvs : List (Key × V)), σ = [some (.ref p), some (.int (a : Int)), some (.ref d), v3, v4] ∧
      Same H H' ∧ H' d = some (.dK kvs) ∧ kvs.length ≤ i ∧ ∀ x, x < i → ∃ l, valV kvs (Sum.inl (x : Int)) = some (.ref l) ∧ H' l = some (.lst (natsV (arcsOf N a x))))
      ⟨none, none, [], rfl, s1, hd1, Nat.le_refl _, fun x hx => absurd hx (Nat.not_lt_zero _)⟩ (fun i σ H' _ ⟨_, _, _, _, sm, _⟩ => SqL.of (sm _ _ e2)) ?_ ?_⟩
    · rintro i x σ H2 H3 hi ⟨v3, v4, kvs, rfl, sm, hd, hlen, hk⟩ ⟨t, y, z, rfl, nt, rfl, hy, hz⟩
      rw [en] at hi
      cases hy
      have ez : z = kindV (N.ks.getD i true) := by
        have hz : (N.ks.map kindV)[i]? = some z := hz
        rw [List.getElem?_map, getD_at true hi] at hz
        exact (Option.some.inj hz).symm
      subst ez
      have st := same_new (o := .tup [V.int ((i : Nat) : Int), kindV (N.ks.getD i true)]) nt
      refine ⟨t, _, rfl, SqT.of upd_same, rfl, _, _, rfl, _, _, rfl, rfl, ?_⟩
      have nxt : ∀ (H4 : Hp) (l : Addr), Same (upd H2 t (.tup [V.int ((i : Nat) : Int), kindV (N.ks.getD i true)])) H4 → H4 l = some (.lst (natsV (arcsOf N a i))) → 
          Same H (upd H4 d (.dK (putK kvs (Sum.inl (i : Int)) (.ref l)))) ∧ H4 d = some (.dK kvs) ∧ (putK kvs (Sum.inl (i : Int)) (.ref l)).length ≤ i + 1 ∧
          ∀ x, x < i + 1 → ∃ l', valV (putK kvs (Sum.inl (i : Int)) (.ref l)) (Sum.inl (x : Int)) = some (.ref l') ∧ (upd H4 d (.dK (putK kvs (Sum.inl (i : Int)) (.ref l)))) l' = some (.lst (natsV (arcsOf N a x))) := fun H4 l s4 hl => by
        have ndl : ∀ (l' : Addr) (r : List Nat), H4 l' = some (.lst (natsV r)) → l' ≠ d := fun l' r e => ne_of e (s4 _ _ (st _ _ hd)) (by intro z; cases z)
        refine ⟨same_mut ((sm.trans st).trans s4) nd0, s4 _ _ (st _ _ hd), by have := length_putK kvs (Sum.inl (i : Int)) (.ref l); omega, fun x hx => ?_⟩
        by_cases e : x = i
        · subst e
          exact ⟨l, by rw [valV_put, if_pos rfl], by rw [upd_ne (ndl l _ hl)]; exact hl⟩
        · obtain ⟨l', h1, h2⟩ := hk x (by omega)
          have h2' := s4 _ _ (st _ _ h2)
          refine ⟨l', ?_, by rw [upd_ne (ndl l' _ h2')]; exact h2'⟩
          rw [valV_put, if_neg fun z => e (by injection z with z; omega)]
          exact h1
      have eb : (decide (V.int (i : Int) = V.int (a : Int)) || decide (kindV (N.ks.getD i true) = V.str "switch")) = (decide (i = a) || !host N i) := by
        rw [dec_nat]
        congr 1
        unfold host
        cases N.ks.getD i true <;> decide +kernel
      refine or_read (a := decide (V.int (i : Int) = V.int (a : Int))) (b := decide (kindV (N.ks.getD i true) = V.str "switch")) (fun Q q => ⟨_, rfl, _, rfl, rfl, _, rfl, q⟩) (fun Q q => ⟨_, rfl, rfl, _, rfl, q⟩) ?_
      rw [eb]
      refine ite2 (fun e => ?_) (fun e => ?_)
      · refine ⟨_, rfl, p, dx, _, rfl, st _ _ (sm _ _ e1), g6, _, rfl, p, i, N, rfl, eN.same (sm.trans st), hn, fun H4 l s4 nl hl => ?_⟩
        have ea : arcsOf N a i = nbs N i := if_pos e
        rw [← ea] at hl
        obtain ⟨z1, z2, z3, z4⟩ := nxt H4 l s4 hl
        refine ⟨_, rfl, _, rfl, d, _, rfl, DPut.k (k := Sum.inl (i : Int)) z2 (small1000 (by omega)), _, _, _, rfl, z1, upd_same, z3, z4⟩
      · refine ⟨Nat.zero_le _, fun l nl => ?_⟩
        have ea : arcsOf N a i = [] := if_neg e
        obtain ⟨z1, z2, z3, z4⟩ := nxt _ l (same_new (o := .lst []) nl) (by rw [ea]; exact upd_same)
        refine ⟨_, rfl, _, rfl, d, _, rfl, DPut.k (k := Sum.inl (i : Int)) z2 (small1000 (by omega)), _, _, _, rfl, z1, upd_same, z3, z4⟩
    · rintro σ H' ⟨v3, v4, kvs, rfl, sm, hd, hlen, hk⟩
      rw [en] at hk
      exact ⟨_, rfl, q H' d sm nd0 ⟨kvs, hd, hk⟩⟩
/-! ### find_way -/
theorem scWay : FnScope ["arcs", "start", "goal", "ways", "level", "reached", "place", "head"] ["arcs", "start", "goal"] (defScope sWay) := ⟨rfl, rfl, rfl, by decide +kernel, rfl, by decide +kernel, by decide +kernel⟩
def spWay : Sp := fun vs H Q _ => ∃ (d : Addr) (s g n T : Nat) (A : Nat → List Nat), vs = [.ref d, .int (s : Int), .int (g : Int)] ∧ ArcsAt H d A n ∧ n ≤ 100 ∧ s < n ∧ (∀ a, a < n → ∀ b ∈ A a, b < n) ∧ T ≤ 50 ∧ (lev A s T).2 = [] ∧
  ∀ (H' : Hp) (v : V), Same H H' → WayV H H' ((lev A s T).1 g) v → Q v H'
theorem ok_way {f : Addr} {fd : FuncData} {k : Nat} (F : Fun K "find_way" "find_way" sWay f fd) : FnOk P w K mg base CX0 (k + 1) f fd ["arcs", "start", "goal"] spWay := by
  refine F.ok scWay (fun vs H Q E h => ?_) (fun cdv A outer s H vs Q E hr h => ?_)
  · obtain ⟨d, s, g, n, T, A, rfl, _⟩ := h
    rfl
  · obtain ⟨d, s, g, n, T, A, rfl, hA, hn, hs, hAn, hT, hend, q⟩ := h
    have nd := scWay.nd
    have hu := hu_of hr
    refine ⟨_, pss_cons (ps_set (i := 3) nd rfl (.inl rfl) (pe_disp (pps_cons (pv 1) (pe_lst (pa_cons (pv 1) pa_nil)) pps_nil) (by rfl) (by rfl) (fun z => by cases z) (by decide))) <| pss_cons (ps_set (i := 4) nd rfl (.inl rfl) (pe_lst (pa_cons (pv 1) pa_nil))) <| pss_cons (ps_while PassesOwn.never (pt_truth (pv 4) (by intro _; rfl)) (pss_cons (ps_set (i := 5) nd rfl (.inl rfl) (pe_lst pa_nil)) <| pss_cons (ps_for PassesOwn.never rfl (pi_list (pv 4)) (pg_name (i := 6) nd rfl (.inl rfl)) (pss_one (ps_for PassesOwn.never rfl (pi_list (pe_dget hu (pv 0) (pv 6) (fun _ _ => rfl))) (pg_name (i := 7) nd rfl (.inl rfl)) (pss_one (ps_if (pt_cmp (pc_dnotin hu (pv 7) (pv 3))) (pss_cons (ps_dput hu (pv 3) (pv 7) (pe_op op_cat (pe_dget hu (pv 3) (pv 6) (fun _ _ => rfl)) (pe_lst (pa_cons (pv 7) pa_nil))) rfl) <| pss_one (ps_expr (pe_bm PySem.F.plainAttrs_list PySem.F.slot_list_append PySem.F.type_list_append mt_append (pv 5) (pa_cons (pv 7) pa_nil)))) (pss_nil)))))) <| pss_one (ps_set (i := 4) nd rfl (.inl rfl) (pv 5)))) <| pss_one (ps_ret (pe_dget1 hu (pv 3) (pv 2) ⟨rfl, rfl, rfl, rfl⟩)), ?_⟩
    -- ways = {start: [start]}
    refine fun pd npd => ⟨_, rfl, _, rfl, by show 1 ≤ sizeLine; decide, fun l0 nl0 => ?_⟩
    have s1 := same_new (o := .dK []) npd
    have s2 := same_new (o := .lst [V.int (s : Int)]) nl0
    have hpd2 : (upd (upd H pd (.dK [])) l0 (.lst [V.int (s : Int)])) pd = some (.dK []) := s2 _ _ upd_same
    refine ⟨hpd2, [(Sum.inl (s : Int), V.ref l0)], rfl, by show 1 ≤ 15; decide, ?_⟩
    have hl2 : (upd (upd H pd (.dK [])) l0 (.lst [V.int (s : Int)])) l0 = some (.lst (natsV [s])) := upd_same
    have nl0H := s1.free nl0
    have s12 := s1.trans s2
    generalize (upd (upd H pd (.dK [])) l0 (.lst [V.int (s : Int)])) = H2 at s12 hpd2 hl2 ⊢
    have w0 : ∀ q, l0 ≠ q → WaysAt H (upd H2 pd (.dK (mergeK [] [(Sum.inl (s : Int), V.ref l0)]))) pd (lev A s 0).1 1 q := fun q nq => by
      have z : WaysAt H H2 pd (fun _ => none) 0 q := ⟨[], hpd2, Nat.le_refl _, fun _ _ => rfl, fun v r e => by cases e⟩
      have y := z.put (v := s) (r := [s]) (l := l0) hpd2 rfl (Nat.le_refl _) hl2 nl0H nq
      have e : (lev A s 0).1 = setW (fun _ => none) s [s] := rfl
      rw [e]
      exact y
    have S3 : Same H (upd H2 pd (.dK (mergeK [] [(Sum.inl (s : Int), V.ref l0)]))) := same_mut s12 npd
    have hl3 : (upd H2 pd (.dK (mergeK [] [(Sum.inl (s : Int), V.ref l0)]))) l0 = some (.lst (natsV [s])) := by
      rw [upd_ne (ne_of hl2 hpd2 (by intro z; cases z))]; exact hl2
    generalize (upd H2 pd (.dK (mergeK [] [(Sum.inl (s : Int), V.ref l0)]))) = H3 at w0 S3 hl3 ⊢
    -- level = [start]
    refine ⟨_, rfl, by show 1 ≤ sizeLine; decide, fun pl npl => ?_⟩
    have s4 := same_new (o := .lst [V.int (s : Int)]) npl
    have nl0l : l0 ≠ pl := ne_of_none hl3 npl
    have hpl4 : (upd H3 pl (.lst [V.int (s : Int)])) pl = some (.lst (natsV (lev A s 0).2)) := upd_same
    have w4 : WaysAt H (upd H3 pl (.lst [V.int (s : Int)])) pd (lev A s 0).1 (1 + n * 0) pl := (w0 pl nl0l).mono (fun kvs e => s4 _ _ e) fun l r n e => ⟨s4 _ _ e, n⟩
    have S4 := S3.trans s4
    have npl' := S3.free npl
    generalize (upd H3 pl (.lst [V.int (s : Int)])) = H4 at s4 hpl4 w4 S4 ⊢
    -- while level
    refine ⟨fun m σ H' => ∃ (t : Nat) (pl : Addr) (v5 v6 v7 : Option V), m = T - t ∧ t ≤ T ∧ σ = [some (.ref d), some (.int (s : Int)), some (.int (g : Int)), some (.ref pd), some (.ref pl), v5, v6, v7] ∧ Same H H' ∧ H pl = none ∧ H' pl = some (.lst (natsV (lev A s t).2)) ∧ WaysAt H H' pd (lev A s t).1 (1 + n * t) pl,
      ⟨T, 0, pl, none, none, none, rfl, Nat.zero_le _, rfl, S4, npl', hpl4, w4⟩, ?_⟩
    rintro m σ H5 ⟨t, pl, v5, v6, v7, rfl, ht, rfl, S5, nplH, hpl5, w5⟩
    refine ⟨_, rfl, !(natsV (lev A s t).2).isEmpty, .inl ⟨_, SqL.of hpl5, rfl⟩, ?_⟩
    refine ite2 (fun eb => ?_) (fun eb => ?_)
    · have htT : t < T := by
        rcases Nat.lt_or_ge t T with z | z
        · exact z
        · have e : t = T := by omega
          rw [e, hend] at eb
          cases eb
      refine ⟨fun σ H' => ∃ (pl : Addr) (v5 v6 v7 : Option V), σ = [some (.ref d), some (.int (s : Int)), some (.int (g : Int)), some (.ref pd), some (.ref pl), v5, v6, v7] ∧ Same H H' ∧ H pl = none ∧ H' pl = some (.lst (natsV (lev A s (t + 1)).2)) ∧ WaysAt H H' pd (lev A s (t + 1)).1 (1 + n * (t + 1)) pl,
        fun σ' H' ⟨pl, v5, v6, v7, z1, z2, z3, z4, z5⟩ => ⟨T - (t + 1), by omega, t + 1, pl, v5, v6, v7, rfl, htT, z1, z2, z3, z4, z5⟩, ?_⟩
      -- reached = []
      refine ⟨Nat.zero_le _, fun pr npr => ?_⟩
      have s6 := same_new (o := .lst []) npr
      have nprH := S5.free npr
      have nlr : pl ≠ pr := ne_of_none hpl5 npr
      have hpr6 : (upd H5 pr (.lst [])) pr = some (.lst (natsV [])) := upd_same
      have hpl6 := s6 _ _ hpl5
      have w6 : WaysAt H (upd H5 pr (.lst [])) pd (lev A s t).1 (1 + n * t) pr := w5.mono (fun kvs e => s6 _ _ e) fun l r _ e => ⟨s6 _ _ e, ne_of_none e npr⟩
      have S6 := S5.trans s6
      generalize (upd H5 pr (.lst [])) = H6 at hpr6 hpl6 w6 S6 ⊢
      have pg := lev_prog hs hAn t
      have pg0 : Prog n ((lev A s t).1, ([] : List Nat)) := ⟨List.nodup_nil, fun v hv => by cases hv⟩
      -- for place in level
      refine ⟨_, rfl, pl, rfl, ⟨_, SqL.of hpl6⟩, for_list (K := K) (a := pl) (xs := natsV (lev A s t).2) (fun i σ H' => ∃ (v6 v7 : Option V), σ = [some (.ref d), some (.int (s : Int)), some (.int (g : Int)), some (.ref pd), some (.ref pl), some (.ref pr), v6, v7] ∧ Same H H' ∧ H' pl = some (.lst (natsV (lev A s t).2)) ∧
        H' pr = some (.lst (natsV (((lev A s t).2.take i).foldl (fun s u => (A u).foldl (visit u) s) ((lev A s t).1, [])).2)) ∧ WaysAt H H' pd (((lev A s t).2.take i).foldl (fun s u => (A u).foldl (visit u) s) ((lev A s t).1, [])).1 (1 + n * t + (((lev A s t).2.take i).foldl (fun s u => (A u).foldl (visit u) s) ((lev A s t).1, [])).2.length) pr)
        ⟨v6, v7, rfl, S6, hpl6, hpr6, w6⟩ (fun i σ H' _ ⟨_, _, _, _, z, _⟩ => SqL.of z) ?_ ?_⟩
      · rintro i x σ H7 hi ⟨v6, v7, rfl, S7, hpl7, hpr7, w7⟩
        obtain ⟨u, hu', rfl⟩ : ∃ u, (lev A s t).2[i]? = some u ∧ x = .int (u : Int) := by
          unfold natsV at hi
          rw [List.getElem?_map] at hi
          cases e : (lev A s t).2[i]? with
          | none => rw [e] at hi; cases hi
          | some u => rw [e] at hi; exact ⟨u, rfl, (Option.some.inj hi).symm⟩
        have hun := (pg.lt u (List.mem_of_getElem? hu')).1
        have hus := (pg.lt u (List.mem_of_getElem? hu')).2
        have pgi : Prog n (((lev A s t).2.take i).foldl (fun s u => (A u).foldl (visit u) s) ((lev A s t).1, [])) := Prog.fold2 _ pg0 fun y hy => hAn y (pg.lt y (List.mem_of_mem_take hy)).1
        obtain ⟨kva, ha1, ha2⟩ := hA.same S7
        obtain ⟨la, ha3, ha4⟩ := ha2 u hun
        have laH : H la ≠ none := by
          obtain ⟨kvb, hb1, hb2⟩ := hA
          obtain ⟨lb, hb3, hb4⟩ := hb2 u hun
          have := S7 _ _ hb1
          rw [ha1] at this
          cases this
          rw [ha3] at hb3
          cases hb3
          rw [hb4]
          simp
        refine ⟨_, rfl, _, rfl, d, .ref la, rfl, (by rw [← ha3]; exact DGet.k (k := Sum.inl (u : Int)) ha1), la, rfl, ⟨_, SqL.of ha4⟩, ?_⟩
        generalize hst : ((lev A s t).2.take i).foldl (fun s u => (A u).foldl (visit u) s) ((lev A s t).1, []) = st at hpr7 w7 pgi
        have husi : ∃ ru, st.1 u = some ru := by
          obtain ⟨ru, e⟩ := Option.isSome_iff_exists.mp hus
          exact ⟨ru, by rw [← hst]; exact keep_fold2 _ e⟩
        obtain ⟨ru, eru⟩ := husi
        refine for_list (K := K) (a := la) (xs := natsV (A u)) (fun j σ H' => ∃ (v7 : Option V), σ = [some (.ref d), some (.int (s : Int)), some (.int (g : Int)), some (.ref pd), some (.ref pl), some (.ref pr), some (.int (u : Int)), v7] ∧ Same H H' ∧ H' pl = some (.lst (natsV (lev A s t).2)) ∧
          H' pr = some (.lst (natsV (((A u).take j).foldl (visit u) st).2)) ∧ WaysAt H H' pd (((A u).take j).foldl (visit u) st).1 (1 + n * t + (((A u).take j).foldl (visit u) st).2.length) pr)
          ⟨v7, rfl, S7, hpl7, hpr7, w7⟩ (fun j σ H' _ ⟨_, _, S, _⟩ => ?_) ?_ ?_
        · obtain ⟨kvb, hb1, hb2⟩ := hA.same S
          have h1 : H la = some (.lst (natsV (A u))) := by
            obtain ⟨kvc, hc1, hc2⟩ := hA
            obtain ⟨lc, hc3, hc4⟩ := hc2 u hun
            have := S7 _ _ hc1
            rw [ha1] at this
            cases this
            rw [ha3] at hc3
            cases hc3
            exact hc4
          exact SqL.of (S _ _ h1)
        · rintro j x σ H8 hj ⟨v7, rfl, S8, hpl8, hpr8, w8⟩
          obtain ⟨hd, hjd, rfl⟩ : ∃ hd, (A u)[j]? = some hd ∧ x = .int (hd : Int) := by
            unfold natsV at hj
            rw [List.getElem?_map] at hj
            cases e : (A u)[j]? with
            | none => rw [e] at hj; cases hj
            | some y => rw [e] at hj; exact ⟨y, rfl, (Option.some.inj hj).symm⟩
          have hdn := hAn u hun hd (List.mem_of_getElem? hjd)
          have pgj : Prog n (((A u).take j).foldl (visit u) st) := pgi.fold _ fun y hy => hAn u hun y (List.mem_of_mem_take hy)
          have efold := foldl_take (visit u) st hjd
          have eru8 : (((A u).take j).foldl (visit u) st).1 u = some ru := keep_fold _ eru
          generalize (((A u).take j).foldl (visit u) st) = st2 at hpr8 w8 pgj efold eru8
          have lj := pgj.len
          obtain ⟨o, og, os, _⟩ := w8.get hd
          refine ⟨_, rfl, _, rfl, pd, o, rfl, og, _, rfl, ?_⟩
          rw [os]
          refine ite2 (fun e => ?_) (fun e => ?_)
          · have ev : ¬ (st2.1 hd).isSome = true := by
              intro z; rw [z] at e; cases e
            have evn : st2.1 hd = none := by
              cases z : st2.1 hd with
              | none => rfl
              | some y => exact absurd (by rw [z]; rfl) ev
            rw [efold, visit_none ev, eru8]
            obtain ⟨kvs, k1, k2, k3, k4⟩ := id w8
            obtain ⟨klen, lu, k5, k6, k7, k8⟩ := k4 u ru eru8
            -- ways[head] = ways[place] + [head]
            refine ⟨_, rfl, _, rfl, pd, .ref lu, rfl, (by rw [← k5]; exact DGet.k (k := Sum.inl (u : Int)) k1), _, rfl, by show 1 ≤ sizeLine; decide, fun p1 np1 => ?_⟩
            have sp1 := same_new (o := .lst [V.int (hd : Int)]) np1
            have hnt : n * t ≤ 100 * 50 := Nat.mul_le_mul hn (by omega)
            refine ⟨lu, p1, _, _, rfl, rfl, sp1 _ _ k6, upd_same, sz (by rw [natsV_len]; show ru.length + 1 ≤ 100000; omega), fun p2 np2 => ?_⟩
            have sp2 := same_new (o := .lst (natsV ru ++ [V.int (hd : Int)])) np2
            have sp := sp1.trans sp2
            have hp2 : (upd (upd H8 p1 (.lst [V.int (hd : Int)])) p2 (.lst (natsV ru ++ [V.int (hd : Int)]))) p2 = some (.lst (natsV (ru ++ [hd]))) := by rw [upd_same, natsV_app]
            have np2H := (S8.trans sp1).free np2
            have np2r : p2 ≠ pr := fun z => by rw [z, sp1 _ _ hpr8] at np2; cases np2
            generalize (upd (upd H8 p1 (.lst [V.int (hd : Int)])) p2 (.lst (natsV ru ++ [V.int (hd : Int)]))) = H9 at sp hp2 ⊢
            have w9 : WaysAt H H9 pd st2.1 (1 + n * t + st2.2.length) pr := w8.mono (fun kvs e => sp _ _ e) fun l r n e => ⟨sp _ _ e, n⟩
            have k19 := sp _ _ k1
            have wput := w9.put (v := hd) (r := ru ++ [hd]) (l := p2) k19 evn (by rw [List.length_append, List.length_singleton]; omega) hp2 np2H np2r
            refine ⟨_, rfl, _, rfl, pd, _, rfl, DPut.k (k := Sum.inl (hd : Int)) k19 (szl (by omega)), ?_⟩
            have S10 : Same H (upd H9 pd (.dK (putK kvs (Sum.inl (hd : Int)) (.ref p2)))) := same_mut (S8.trans sp) npd
            have hpr10 : (upd H9 pd (.dK (putK kvs (Sum.inl (hd : Int)) (.ref p2)))) pr = some (.lst (natsV st2.2)) := by
              have z := sp _ _ hpr8
              rw [upd_ne (ne_of z k19 (by intro y; cases y))]
              exact z
            have hpl10 : (upd H9 pd (.dK (putK kvs (Sum.inl (hd : Int)) (.ref p2)))) pl = some (.lst (natsV (lev A s t).2)) := by
              have z := sp _ _ hpl8
              rw [upd_ne (ne_of z k19 (by intro y; cases y))]
              exact z
            generalize (upd H9 pd (.dK (putK kvs (Sum.inl (hd : Int)) (.ref p2)))) = H10 at wput S10 hpr10 hpl10 ⊢
            -- reached.append(head)
            refine ⟨_, rfl, .inl ⟨rfl, _, SqL.of hpr10⟩, _, rfl, pr, _, _, rfl, rfl, hpr10, szl (by rw [natsV_len]; omega), ?_⟩
            refine ⟨_, rfl, same_mut S10 nprH, by rw [upd_ne nlr]; exact hpl10, by rw [upd_same, natsV_app], ?_⟩
            refine WaysAt.mono (H := H10) (q := pr) (m := 1 + n * t + (st2.2 ++ [hd]).length) ?_ (fun kvs e => ?_) fun l r n e => ?_
            · rw [List.length_append, List.length_singleton, ← Nat.add_assoc]
              exact wput
            · rw [upd_ne (ne_of e hpr10 (by intro y; cases y))]
              exact e
            · exact ⟨by rw [upd_ne n]; exact e, n⟩
          · have ev : (st2.1 hd).isSome = true := by
              cases z : (st2.1 hd).isSome with
              | true => rfl
              | false => rw [z] at e; exact absurd rfl e
            rw [efold, visit_some ev]
            exact ⟨_, rfl, S8, hpl8, hpr8, w8⟩
        · rintro σ H8 ⟨v7, rfl, S8, hpl8, hpr8, w8⟩
          rw [natsV_len, List.take_length] at hpr8 w8
          refine ⟨_, _, rfl, S8, hpl8, ?_, ?_⟩
          · rw [foldl_take _ _ hu', hst]
            exact hpr8
          · rw [foldl_take _ _ hu', hst]
            exact w8
      · rintro σ H7 ⟨v6, v7, rfl, S7, hpl7, hpr7, w7⟩
        rw [natsV_len, List.take_length] at hpr7 w7
        have pge : Prog n (lev A s (t + 1)) := lev_prog hs hAn (t + 1)
        have le := pge.len
        refine ⟨_, rfl, pr, _, _, _, rfl, S7, nprH, hpr7, ?_⟩
        obtain ⟨kvs, k1, k2, k3, k4⟩ := w7
        refine ⟨kvs, k1, ?_, k3, k4⟩
        have k2' : kvs.length ≤ 1 + n * t + (lev A s (t + 1)).2.length := k2
        rw [Nat.mul_add, Nat.mul_one]
        omega
    · have e0 : (lev A s t).2 = [] := by
        cases z : (lev A s t).2 with
        | nil => rfl
        | cons y r => rw [z] at eb; exact absurd rfl eb
      rw [lev_same e0 ht] at q
      obtain ⟨o, og, _, ov⟩ := w5.get g
      refine ⟨_, rfl, pd, rfl, ?_, _, rfl, o, og, q H5 _ S5 ov⟩
      obtain ⟨kvs, k1, _⟩ := w5
      exact .inl ⟨kvs, .inl k1⟩
/-! ### shortest_path -/
theorem scShort : FnScope ["net", "first", "last"] ["net", "first", "last"] (defScope sShort) := ⟨rfl, rfl, rfl, by decide +kernel, rfl, by decide +kernel, by decide +kernel⟩
def spShort (K : PySem.W.Frag) (C : Addr) : Sp := fun vs H Q _ => ∃ (p : Addr) (a b T : Nat) (N : NetD), vs = [.ref p, .int (a : Int), .int (b : Int)] ∧ NetAt K C H p N ∧ N.ks.length ≤ 100 ∧ a < N.ks.length ∧ T ≤ 50 ∧ (lev (arcsOf N a) a T).2 = [] ∧
  ∀ (H' : Hp) (v : V), Same H H' → WayV H H' ((lev (arcsOf N a) a T).1 b) v → Q v H'
theorem arcs_lt {N : NetD} {first a b : Nat} (h : b ∈ arcsOf N first a) : b < N.ks.length := by
  unfold arcsOf at h
  split at h
  · exact List.mem_range.mp (List.mem_filter.mp h).1
  · cases h
theorem ok_short {f C fW fA : Addr} {fd fdW fdA : FuncData} {k : Nat} (F : Fun K "shortest_path" "shortest_path" sShort f fd) (GW : Callee P w K mg base 1 "find_way" ["arcs", "start", "goal"] spWay fW fdW) (GA : Callee P w K mg base 2 "next_nodes" ["net", "first"] (spNext K C) fA fdA) :
    FnOk P w K mg base CX0 (k + 3) f fd ["net", "first", "last"] (spShort K C) := by
  refine F.ok scShort (fun vs H Q E h => ?_) (fun cdv A outer s H vs Q E hr h => ?_)
  · obtain ⟨p, a, b, T, N, rfl, _⟩ := h
    rfl
  · obtain ⟨p, a, b, T, N, rfl, hN, hn, ha, hT, hend, q⟩ := h
    have nd := scShort.nd
    have hr1 : Room 1 _ := hr.mono (by omega)
    have hr2 : Room 2 _ := hr.mono (by omega)
    refine ⟨_, pss_one (ps_ret (pe_call GW.ok hr1 (by rfl) GW.mg GW.kp GW.b .nil pass0 (pa_cons (pe_call GA.ok hr2 (by rfl) GA.mg GA.kp GA.b .nil pass0 (pa_cons (pv 0) (pa_cons (pv 1) pa_nil))) (pa_cons (pv 1) (pa_cons (pv 2) pa_nil))))), ?_⟩
    refine ⟨_, rfl, _, rfl, p, a, N, rfl, hN, by omega, fun H1 d s1 nd1 hA => ?_⟩
    refine ⟨_, rfl, _, rfl, d, a, b, N.ks.length, T, arcsOf N a, rfl, hA, hn, ha, fun x _ y hy => arcs_lt hy, hT, hend, fun H2 v s2 hv => ?_⟩
    refine q H2 v (s1.trans s2) ?_
    unfold WayV at hv ⊢
    cases e : (lev (arcsOf N a) a T).1 b with
    | none => rw [e] at hv; exact hv
    | some r =>
      rw [e] at hv
      obtain ⟨l, h1, h2, h3⟩ := hv
      exact ⟨l, h1, s1.free h2, h3⟩
end
end My
namespace My
open PySem PySem.Spec PyProof.Rows L2
section
variable {P : Program} {w : World} {K : PySem.W.Frag} {mg : Str → Option Value} {base : Heap}
/-! ### find_way, places as tuples -/
def spWayT : Sp := fun vs H Q _ => ∃ (d a b : Addr) (s g n T : Nat) (A : Nat → List Nat), vs = [.ref d, .ref a, .ref b] ∧ PlAt H a s ∧ PlAt H b g ∧ ArcsT H d A n ∧ n ≤ 100 ∧ s < n ∧ (∀ a, a < n → ∀ b ∈ A a, b < n) ∧ T ≤ 50 ∧ (lev A s T).2 = [] ∧
  ∀ (H' : Hp) (v : V), Same H H' → WayT H H' ((lev A s T).1 g) v → Q v H'
theorem refs_at {H : Hp} {as : List Addr} {cs : List Nat} (h : Refs H as cs) {i : Nat} {x : V} (hi : (as.map V.ref)[i]? = some x) : ∃ a c, x = .ref a ∧ cs[i]? = some c ∧ PlAt H a c ∧ as[i]? = some a := by
  rw [List.getElem?_map] at hi
  cases e : as[i]? with
  | none => rw [e] at hi; cases hi
  | some a =>
    rw [e] at hi
    obtain ⟨c, h1, h2⟩ := Paired.at h e
    exact ⟨a, c, (Option.some.inj hi).symm, h1, h2, rfl⟩
theorem ok_wayT {f : Addr} {fd : FuncData} {k : Nat} (F : Fun K "find_way" "find_way" sWay f fd) : FnOk P w K mg base CX0 (k + 1) f fd ["arcs", "start", "goal"] spWayT := by
  refine F.ok scWay (fun vs H Q E h => ?_) (fun cdv A outer s H vs Q E hr h => ?_)
  · obtain ⟨d, a, b, s, g, n, T, A, rfl, _⟩ := h
    rfl
  · obtain ⟨d, a0, b0, s, g, n, T, A, rfl, ha0, hb0, hA, hn, hs, hAn, hT, hend, q⟩ := h
    have nd := scWay.nd
    have hu := hu_of hr
    refine ⟨_, pss_cons (ps_set (i := 3) nd rfl (.inl rfl) (pe_dispT hu (pv 1) (pe_lst (pa_cons (pv 1) pa_nil)))) <| pss_cons (ps_set (i := 4) nd rfl (.inl rfl) (pe_lst (pa_cons (pv 1) pa_nil))) <| pss_cons (ps_while PassesOwn.never (pt_truth (pv 4) (by intro _; rfl)) (pss_cons (ps_set (i := 5) nd rfl (.inl rfl) (pe_lst pa_nil)) <| pss_cons (ps_for PassesOwn.never rfl (pi_list (pv 4)) (pg_name (i := 6) nd rfl (.inl rfl)) (pss_one (ps_for PassesOwn.never rfl (pi_list (pe_dget hu (pv 0) (pv 6) (fun _ _ => rfl))) (pg_name (i := 7) nd rfl (.inl rfl)) (pss_one (ps_if (pt_cmp (pc_dnotin hu (pv 7) (pv 3))) (pss_cons (ps_dput hu (pv 3) (pv 7) (pe_op op_cat (pe_dget hu (pv 3) (pv 6) (fun _ _ => rfl)) (pe_lst (pa_cons (pv 7) pa_nil))) rfl) <| pss_one (ps_expr (pe_bm PySem.F.plainAttrs_list PySem.F.slot_list_append PySem.F.type_list_append mt_append (pv 5) (pa_cons (pv 7) pa_nil)))) (pss_nil)))))) <| pss_one (ps_set (i := 4) nd rfl (.inl rfl) (pv 5)))) <| pss_one (ps_ret (pe_dget1 hu (pv 3) (pv 2) ⟨rfl, rfl, rfl, rfl⟩)), ?_⟩
    -- ways = {start: [start]}
    refine fun pd npd => ⟨_, rfl, _, rfl, by show 1 ≤ sizeLine; decide, fun l0 nl0 => ?_⟩
    have s1 := same_new (o := .dT []) npd
    have s2 := same_new (o := .lst [V.ref a0]) nl0
    have hpd2 : (upd (upd H pd (.dT [])) l0 (.lst [V.ref a0])) pd = some (.dT []) := s2 _ _ upd_same
    have s12 := s1.trans s2
    refine ⟨hpd2, a0, keyP s, rfl, s12 _ _ ha0, ?_⟩
    have hl2 : LstP (upd (upd H pd (.dT [])) l0 (.lst [V.ref a0])) l0 [s] := ⟨[a0], upd_same, .cons (s12 _ _ ha0) .nil⟩
    have nl0H := s1.free nl0
    generalize (upd (upd H pd (.dT [])) l0 (.lst [V.ref a0])) = H2 at s12 hpd2 hl2 ⊢
    have w0 : ∀ q, l0 ≠ q → WaysT H (upd H2 pd (.dT (putK [] (keyP s) (.ref l0)))) pd (lev A s 0).1 1 q := fun q nq => by
      have z : WaysT H H2 pd (fun _ => none) 0 q := ⟨[], hpd2, Nat.le_refl _, fun _ _ => rfl, fun v r e => by cases e⟩
      have y := z.put (v := s) (r := [s]) (l := l0) hpd2 rfl (Nat.le_refl _) hl2 nl0H nq
      have e : (lev A s 0).1 = setW (fun _ => none) s [s] := rfl
      rw [e]
      exact y
    have S3 : Same H (upd H2 pd (.dT (putK [] (keyP s) (.ref l0)))) := same_mut s12 npd
    have hl3 : (upd H2 pd (.dT (putK [] (keyP s) (.ref l0)))) l0 ≠ none := by
      obtain ⟨as, a1, _⟩ := hl2
      rw [upd_ne (ne_of a1 hpd2 (by intro z; cases z)), a1]
      simp
    generalize (upd H2 pd (.dT (putK [] (keyP s) (.ref l0)))) = H3 at w0 S3 hl3 ⊢
    -- level = [start]
    refine ⟨_, rfl, by show 1 ≤ sizeLine; decide, fun pl npl => ?_⟩
    have s4 := same_new (o := .lst [V.ref a0]) npl
    have nl0l : l0 ≠ pl := fun z => hl3 (z ▸ npl)
    have hpl4 : (upd H3 pl (.lst [V.ref a0])) pl = some (.lst ([a0].map V.ref)) := upd_same
    have w4 : WaysT H (upd H3 pl (.lst [V.ref a0])) pd (lev A s 0).1 (1 + n * 0) pl := (w0 pl nl0l).mono (fun kvs e => s4 _ _ e) (fun l r n e => ⟨s4 _ _ e, n⟩) fun a xs e => s4 _ _ e
    have S4 := S3.trans s4
    have npl' := S3.free npl
    have hR4 : Refs H [a0] (lev A s 0).2 := .cons ha0 .nil
    generalize (upd H3 pl (.lst [V.ref a0])) = H4 at s4 hpl4 w4 S4 ⊢
    -- while level
    refine ⟨fun m σ H' => ∃ (t : Nat) (pl : Addr) (as : List Addr) (v5 v6 v7 : Option V), m = T - t ∧ t ≤ T ∧ σ = [some (.ref d), some (.ref a0), some (.ref b0), some (.ref pd), some (.ref pl), v5, v6, v7] ∧ Same H H' ∧ H pl = none ∧ H' pl = some (.lst (as.map V.ref)) ∧ Refs H as (lev A s t).2 ∧ WaysT H H' pd (lev A s t).1 (1 + n * t) pl,
      ⟨T, 0, pl, [a0], none, none, none, rfl, Nat.zero_le _, rfl, S4, npl', hpl4, hR4, w4⟩, ?_⟩
    rintro m σ H5 ⟨t, pl, as, v5, v6, v7, rfl, ht, rfl, S5, nplH, hpl5, hR5, w5⟩
    have la : as.length = (lev A s t).2.length := hR5.length
    refine ⟨_, rfl, !(as.map V.ref).isEmpty, .inl ⟨_, SqL.of hpl5, rfl⟩, ?_⟩
    refine ite2 (fun eb => ?_) (fun eb => ?_)
    · have htT : t < T := by
        rcases Nat.lt_or_ge t T with z | z
        · exact z
        · have e : t = T := by omega
          rw [e, hend] at la
          have : as = [] := List.length_eq_zero_iff.mp la
          rw [this] at eb
          cases eb
      refine ⟨fun σ H' => ∃ (pl : Addr) (as : List Addr) (v5 v6 v7 : Option V), σ = [some (.ref d), some (.ref a0), some (.ref b0), some (.ref pd), some (.ref pl), v5, v6, v7] ∧ Same H H' ∧ H pl = none ∧ H' pl = some (.lst (as.map V.ref)) ∧ Refs H as (lev A s (t + 1)).2 ∧ WaysT H H' pd (lev A s (t + 1)).1 (1 + n * (t + 1)) pl,
        fun σ' H' ⟨pl, as, v5, v6, v7, z1, z2, z3, z4, z5, z6⟩ => ⟨T - (t + 1), by omega, t + 1, pl, as, v5, v6, v7, rfl, htT, z1, z2, z3, z4, z5, z6⟩, ?_⟩
      -- reached = []
      refine ⟨Nat.zero_le _, fun pr npr => ?_⟩
      have s6 := same_new (o := .lst []) npr
      have nprH := S5.free npr
      have nlr : pl ≠ pr := ne_of_none hpl5 npr
      have hpr6 : (upd H5 pr (.lst [])) pr = some (.lst (([] : List Addr).map V.ref)) := upd_same
      have hpl6 := s6 _ _ hpl5
      have w6 : WaysT H (upd H5 pr (.lst [])) pd (lev A s t).1 (1 + n * t) pr := w5.mono (fun kvs e => s6 _ _ e) (fun l r _ e => ⟨s6 _ _ e, ne_of_none e npr⟩) fun a xs e => s6 _ _ e
      have S6 := S5.trans s6
      generalize (upd H5 pr (.lst [])) = H6 at hpr6 hpl6 w6 S6 ⊢
      have pg := lev_prog hs hAn t
      have pg0 : Prog n ((lev A s t).1, ([] : List Nat)) := ⟨List.nodup_nil, fun v hv => by cases hv⟩
      -- for place in level
      refine ⟨_, rfl, pl, rfl, ⟨_, SqL.of hpl6⟩, for_list (K := K) (a := pl) (xs := as.map V.ref) (fun i σ H' => ∃ (bs : List Addr) (v6 v7 : Option V), σ = [some (.ref d), some (.ref a0), some (.ref b0), some (.ref pd), some (.ref pl), some (.ref pr), v6, v7] ∧ Same H H' ∧ H' pl = some (.lst (as.map V.ref)) ∧
        H' pr = some (.lst (bs.map V.ref)) ∧ Refs H bs (((lev A s t).2.take i).foldl (fun s u => (A u).foldl (visit u) s) ((lev A s t).1, [])).2 ∧ WaysT H H' pd (((lev A s t).2.take i).foldl (fun s u => (A u).foldl (visit u) s) ((lev A s t).1, [])).1 (1 + n * t + (((lev A s t).2.take i).foldl (fun s u => (A u).foldl (visit u) s) ((lev A s t).1, [])).2.length) pr)
        ⟨[], v6, v7, rfl, S6, hpl6, hpr6, .nil, w6⟩ (fun i σ H' _ ⟨_, _, _, _, _, z, _⟩ => SqL.of z) ?_ ?_⟩
      · rintro i x σ H7 hi ⟨bs, v6, v7, rfl, S7, hpl7, hpr7, hB7, w7⟩
        obtain ⟨ua, u, rfl, hu', hua, _⟩ := refs_at hR5 hi
        have hun := (pg.lt u (List.mem_of_getElem? hu')).1
        have hus := (pg.lt u (List.mem_of_getElem? hu')).2
        have pgi : Prog n (((lev A s t).2.take i).foldl (fun s u => (A u).foldl (visit u) s) ((lev A s t).1, [])) := Prog.fold2 _ pg0 fun y hy => hAn y (pg.lt y (List.mem_of_mem_take hy)).1
        obtain ⟨kva, ha1, ha2⟩ := id hA
        obtain ⟨la, ha3, cs, ha4, ha5⟩ := ha2 u hun
        refine ⟨_, rfl, _, rfl, d, .ref la, rfl, (by rw [← ha3]; exact DGet.t (k := keyP u) (S7 _ _ ha1) (S7 _ _ hua)), la, rfl, ⟨_, SqL.of (S7 _ _ ha4)⟩, ?_⟩
        generalize hst : ((lev A s t).2.take i).foldl (fun s u => (A u).foldl (visit u) s) ((lev A s t).1, []) = st at hB7 w7 pgi
        have husi : ∃ ru, st.1 u = some ru := by
          obtain ⟨ru, e⟩ := Option.isSome_iff_exists.mp hus
          exact ⟨ru, by rw [← hst]; exact keep_fold2 _ e⟩
        obtain ⟨ru, eru⟩ := husi
        have lc : cs.length = (A u).length := ha5.length
        refine for_list (K := K) (a := la) (xs := cs.map V.ref) (fun j σ H' => ∃ (bs : List Addr) (v7 : Option V), σ = [some (.ref d), some (.ref a0), some (.ref b0), some (.ref pd), some (.ref pl), some (.ref pr), some (.ref ua), v7] ∧ Same H H' ∧ H' pl = some (.lst (as.map V.ref)) ∧
          H' pr = some (.lst (bs.map V.ref)) ∧ Refs H bs (((A u).take j).foldl (visit u) st).2 ∧ WaysT H H' pd (((A u).take j).foldl (visit u) st).1 (1 + n * t + (((A u).take j).foldl (visit u) st).2.length) pr)
          ⟨bs, v7, rfl, S7, hpl7, hpr7, hB7, w7⟩ (fun j σ H' _ ⟨_, _, _, S, _⟩ => SqL.of (S _ _ ha4)) ?_ ?_
        · rintro j x σ H8 hj ⟨bs, v7, rfl, S8, hpl8, hpr8, hB8, w8⟩
          obtain ⟨hda, hd, rfl, hjd, hpd, _⟩ := refs_at ha5 hj
          have hdn := hAn u hun hd (List.mem_of_getElem? hjd)
          have pgj : Prog n (((A u).take j).foldl (visit u) st) := pgi.fold _ fun y hy => hAn u hun y (List.mem_of_mem_take hy)
          have efold := foldl_take (visit u) st hjd
          have eru8 : (((A u).take j).foldl (visit u) st).1 u = some ru := keep_fold _ eru
          generalize (((A u).take j).foldl (visit u) st) = st2 at hB8 w8 pgj efold eru8
          have lj := pgj.len
          have lb : bs.length = st2.2.length := hB8.length
          obtain ⟨o, og, os, _⟩ := w8.get (S8 _ _ hpd)
          refine ⟨_, rfl, _, rfl, pd, o, rfl, og, _, rfl, ?_⟩
          rw [os]
          refine ite2 (fun e => ?_) (fun e => ?_)
          · have ev : ¬ (st2.1 hd).isSome = true := by
              intro z; rw [z] at e; cases e
            have evn : st2.1 hd = none := by
              cases z : st2.1 hd with
              | none => rfl
              | some y => exact absurd (by rw [z]; rfl) ev
            rw [efold, visit_none ev, eru8]
            obtain ⟨kvs, k1, k2, k3, k4⟩ := id w8
            obtain ⟨klen, lu, k5, ⟨es, k6, k6'⟩, k7, k8⟩ := k4 u ru eru8
            have les : es.length = ru.length := k6'.length
            -- ways[head] = ways[place] + [head]
            refine ⟨_, rfl, _, rfl, pd, .ref lu, rfl, (by rw [← k5]; exact DGet.t (k := keyP u) k1 (S8 _ _ hua)), _, rfl, by show 1 ≤ sizeLine; decide, fun p1 np1 => ?_⟩
            have sp1 := same_new (o := .lst [V.ref hda]) np1
            have hnt : n * t ≤ 100 * 50 := Nat.mul_le_mul hn (by omega)
            refine ⟨lu, p1, _, _, rfl, rfl, sp1 _ _ k6, upd_same, sz (by rw [List.length_map]; show es.length + 1 ≤ 100000; omega), fun p2 np2 => ?_⟩
            have sp2 := same_new (o := .lst (es.map V.ref ++ [V.ref hda])) np2
            have sp := sp1.trans sp2
            have hp2 : LstP (upd (upd H8 p1 (.lst [V.ref hda])) p2 (.lst (es.map V.ref ++ [V.ref hda]))) p2 (ru ++ [hd]) := ⟨es ++ [hda], by rw [upd_same, List.map_append]; rfl, Refs.snoc (k6'.mono fun a xs e => sp _ _ e) (sp _ _ (S8 _ _ hpd))⟩
            have np2H := (S8.trans sp1).free np2
            have np2r : p2 ≠ pr := fun z => by rw [z, sp1 _ _ hpr8] at np2; cases np2
            generalize (upd (upd H8 p1 (.lst [V.ref hda])) p2 (.lst (es.map V.ref ++ [V.ref hda]))) = H9 at sp hp2 ⊢
            have w9 : WaysT H H9 pd st2.1 (1 + n * t + st2.2.length) pr := w8.mono (fun kvs e => sp _ _ e) (fun l r n e => ⟨sp _ _ e, n⟩) fun a xs e => sp _ _ e
            have k19 := sp _ _ k1
            have wput := w9.put (v := hd) (r := ru ++ [hd]) (l := p2) k19 evn (by rw [List.length_append, List.length_singleton]; omega) hp2 np2H np2r
            refine ⟨_, rfl, _, rfl, pd, _, rfl, DPut.t (k := keyP hd) k19 (sp _ _ (S8 _ _ hpd)) (szl (by omega)), ?_⟩
            have S10 : Same H (upd H9 pd (.dT (putK kvs (keyP hd) (.ref p2)))) := same_mut (S8.trans sp) npd
            have hpr10 : (upd H9 pd (.dT (putK kvs (keyP hd) (.ref p2)))) pr = some (.lst (bs.map V.ref)) := by
              have z := sp _ _ hpr8
              rw [upd_ne (ne_of z k19 (by intro y; cases y))]
              exact z
            have hpl10 : (upd H9 pd (.dT (putK kvs (keyP hd) (.ref p2)))) pl = some (.lst (as.map V.ref)) := by
              have z := sp _ _ hpl8
              rw [upd_ne (ne_of z k19 (by intro y; cases y))]
              exact z
            generalize (upd H9 pd (.dT (putK kvs (keyP hd) (.ref p2)))) = H10 at wput S10 hpr10 hpl10 ⊢
            -- reached.append(head)
            refine ⟨_, rfl, .inl ⟨rfl, _, SqL.of hpr10⟩, _, rfl, pr, _, _, rfl, rfl, hpr10, szl (by rw [List.length_map]; omega), ?_⟩
            refine ⟨bs ++ [hda], _, rfl, same_mut S10 nprH, by rw [upd_ne nlr]; exact hpl10, by rw [upd_same, List.map_append]; rfl, hB8.snoc hpd, ?_⟩
            refine WaysT.mono (H := H10) (q := pr) (m := 1 + n * t + (st2.2 ++ [hd]).length) ?_ (fun kvs e => ?_) (fun l r n e => ?_) (fun a xs e => ?_)
            · rw [List.length_append, List.length_singleton, ← Nat.add_assoc]
              exact wput
            · rw [upd_ne (ne_of e hpr10 (by intro y; cases y))]
              exact e
            · exact ⟨by rw [upd_ne n]; exact e, n⟩
            · rw [upd_ne (ne_of e hpr10 (by intro y; cases y))]
              exact e
          · have ev : (st2.1 hd).isSome = true := by
              cases z : (st2.1 hd).isSome with
              | true => rfl
              | false => rw [z] at e; exact absurd rfl e
            rw [efold, visit_some ev]
            exact ⟨bs, _, rfl, S8, hpl8, hpr8, hB8, w8⟩
        · rintro σ H8 ⟨bs, v7, rfl, S8, hpl8, hpr8, hB8, w8⟩
          rw [List.length_map, lc, List.take_length] at hB8 w8
          refine ⟨bs, _, _, rfl, S8, hpl8, hpr8, ?_, ?_⟩
          · rw [foldl_take _ _ hu', hst]
            exact hB8
          · rw [foldl_take _ _ hu', hst]
            exact w8
      · rintro σ H7 ⟨bs, v6, v7, rfl, S7, hpl7, hpr7, hB7, w7⟩
        rw [List.length_map, la, List.take_length] at hB7 w7
        have pge : Prog n (lev A s (t + 1)) := lev_prog hs hAn (t + 1)
        have le := pge.len
        refine ⟨_, rfl, pr, bs, _, _, _, rfl, S7, nprH, hpr7, hB7, ?_⟩
        obtain ⟨kvs, k1, k2, k3, k4⟩ := w7
        refine ⟨kvs, k1, ?_, k3, k4⟩
        have k2' : kvs.length ≤ 1 + n * t + (lev A s (t + 1)).2.length := k2
        rw [Nat.mul_add, Nat.mul_one]
        omega
    · have e0 : (lev A s t).2 = [] := by
        cases z : as with
        | nil => rw [z] at la; exact List.length_eq_zero_iff.mp la.symm
        | cons y r => rw [z] at eb; exact absurd rfl eb
      rw [lev_same e0 ht] at q
      obtain ⟨o, og, _, ov⟩ := w5.get (S5 _ _ hb0)
      refine ⟨_, rfl, pd, rfl, ?_, _, rfl, o, og, q H5 _ S5 ov⟩
      obtain ⟨kvs, k1, _⟩ := w5
      exact .inr ⟨kvs, .inl k1⟩
end
end My
namespace My
open PySem PySem.Spec PyProof.Rows L2
abbrev sSplit : Stmt := top 10
/-- a dict that nobody changes any more -/
def tFrz (t : TE) : TE := fun σ H Q => t σ H fun x H1 => ∃ (d : Addr) (u : HO), x = .ref d ∧ H1 d = some u ∧ Mut (some u) ∧ ∀ od : Obj, Q (.ref d) (upd H1 d (.frz od u))
theorem pe_freeze {X : Cx} {e : Expr} {t : TE} (h : PE X e t) : PE X e (tFrz t) := by
  refine ⟨fun pins s σ H Q I q => ?_⟩
  refine thn (h.run pins s σ H _ I q) fun v s1 ⟨x, H1, I1, r, d, u, ex, hd, mu, q⟩ => ?_
  subst ex
  obtain ⟨od, I2⟩ := I1.lock hd mu
  exact ⟨.ref d, _, I2, r, q od⟩
theorem mem_val {κ : Type} [DecidableEq κ] {kvs : List (κ × V)} {k : κ} {v : V} (h : valV kvs k = some v) : ∃ p ∈ kvs, p.2 = v ∧ p.1 = k := by
  unfold valV at h
  obtain ⟨p, hp, e⟩ := Option.map_eq_some_iff.mp h
  have z := List.find?_some hp
  exact ⟨p, List.mem_of_find?_eq_some hp, e, by simpa using z⟩
/-- a dict's entries in their order -/
def EntK (H : Hp) (kvs : List (Key × V)) (A : Nat → List Nat) (n : Nat) : Prop := kvs.length = n ∧ ∀ x, x < n → ∃ l, kvs[x]? = some (Sum.inl (x : Int), .ref l) ∧ H l = some (.lst (natsV (A x)))
theorem EntK.none {H : Hp} {kvs : List (Key × V)} {A : Nat → List Nat} {n : Nat} (h : EntK H kvs A n) : valV kvs (Sum.inl (n : Int)) = none := by
  cases e : valV kvs (Sum.inl (n : Int)) with
  | none => rfl
  | some v =>
    obtain ⟨p, hp, _, e2⟩ := mem_val e
    obtain ⟨i, ei⟩ := List.mem_iff_getElem?.mp hp
    obtain ⟨hi, _⟩ := List.getElem?_eq_some_iff.mp ei
    obtain ⟨l, e3, _⟩ := h.2 i (by rw [← h.1]; exact hi)
    rw [ei] at e3
    have e3 := Option.some.inj e3
    rw [e3] at e2
    injection e2 with e2
    have := h.1
    omega
def EntT (H : Hp) (kvs : List (List Key × V)) (A : Nat → List Nat) (n : Nat) : Prop := kvs.length = n ∧ ∀ c, c < n → ∃ l, kvs[c]? = some (keyP c, .ref l) ∧ LstP H l (A c)
theorem EntT.none {H : Hp} {kvs : List (List Key × V)} {A : Nat → List Nat} {n : Nat} (h : EntT H kvs A n) : valV kvs (keyP n) = none := by
  cases e : valV kvs (keyP n) with
  | none => rfl
  | some v =>
    obtain ⟨p, hp, _, e2⟩ := mem_val e
    obtain ⟨i, ei⟩ := List.mem_iff_getElem?.mp hp
    obtain ⟨hi, _⟩ := List.getElem?_eq_some_iff.mp ei
    obtain ⟨l, e3, _⟩ := h.2 i (by rw [← h.1]; exact hi)
    rw [ei] at e3
    have e3 := Option.some.inj e3
    rw [e3] at e2
    have := keyP_inj e2
    have := h.1
    omega
theorem EntT.same {H H' : Hp} {kvs : List (List Key × V)} {A : Nat → List Nat} {n : Nat} (h : EntT H kvs A n) (e : Same H H') : EntT H' kvs A n := ⟨h.1, fun c hc => let ⟨l, a, b⟩ := h.2 c hc; ⟨l, a, b.same e⟩⟩
theorem EntT.mono {H H' : Hp} {kvs : List (List Key × V)} {A : Nat → List Nat} {n : Nat} (h : EntT H kvs A n) (f : ∀ l cs, LstP H l cs → LstP H' l cs) : EntT H' kvs A n := ⟨h.1, fun c hc => let ⟨l, a, b⟩ := h.2 c hc; ⟨l, a, f _ _ b⟩⟩
theorem EntT.snoc {H : Hp} {kvs : List (List Key × V)} {A : Nat → List Nat} {n : Nat} {l : Addr} (h : EntT H kvs A n) (hl : LstP H l (A n)) : EntT H (putK kvs (keyP n) (.ref l)) A (n + 1) := by
  rw [putK_new _ h.none]
  refine ⟨by rw [List.length_append, h.1]; rfl, fun c hc => ?_⟩
  by_cases e : c < n
  · obtain ⟨l', a, b⟩ := h.2 c e
    exact ⟨l', by rw [List.getElem?_append_left (by rw [h.1]; exact e)]; exact a, b⟩
  · have : c = n := by omega
    subst this
    exact ⟨l, by rw [List.getElem?_append_right (by rw [h.1]; exact Nat.le_refl _), h.1, Nat.sub_self]; rfl, hl⟩
theorem ent_val {H : Hp} : ∀ {kvs : List (List Key × V)} {A : Nat → List Nat} {n : Nat}, EntT H kvs A n → ∀ c, c < n → ∃ l, valV kvs (keyP c) = some (.ref l) ∧ LstP H l (A c) := fun {kvs A n} h c hc => by
  obtain ⟨l, a, b⟩ := h.2 c hc
  refine ⟨l, ?_, b⟩
  have nd : (kvs.map (·.1)).Nodup := by
    refine List.pairwise_iff_getElem.mpr fun i j hi hj ij e => ?_
    rw [List.length_map] at hi hj
    obtain ⟨_, p, _⟩ := h.2 i (by rw [← h.1]; exact hi)
    obtain ⟨_, q, _⟩ := h.2 j (by rw [← h.1]; exact hj)
    rw [List.getElem?_eq_getElem hi] at p
    rw [List.getElem?_eq_getElem hj] at q
    rw [List.getElem_map, List.getElem_map, Option.some.inj p, Option.some.inj q] at e
    have := keyP_inj e
    omega
  exact Dq.valV_of nd (List.mem_iff_getElem?.mpr ⟨c, a⟩)
theorem EntT.arcs {H : Hp} {d : Addr} {kvs : List (List Key × V)} {A : Nat → List Nat} {n : Nat} (h : EntT H kvs A n) (hd : H d = some (.dT kvs)) : ArcsT H d A n := ⟨kvs, hd, ent_val h⟩
theorem nats_at' {r : List Nat} {i : Nat} {x : V} (h : (natsV r)[i]? = some x) : ∃ n, r[i]? = some n ∧ x = .int (n : Int) := by
  unfold natsV at h
  rw [List.getElem?_map] at h
  cases e : r[i]? with
  | none => rw [e] at h; cases h
  | some n => rw [e] at h; exact ⟨n, rfl, (Option.some.inj h).symm⟩
section
variable {P : Program} {w : World} {K : PySem.W.Frag} {mg : Str → Option Value} {base : Heap}
theorem plV_even (v : Nat) : plV (2 * v) = [V.str "in", V.int (v : Int)] := by
  unfold plV sideS
  rw [if_pos (by omega), show 2 * v / 2 = v by omega]
theorem plV_odd (v : Nat) : plV (2 * v + 1) = [V.str "out", V.int (v : Int)] := by
  unfold plV sideS
  rw [if_neg (by omega), show (2 * v + 1) / 2 = v by omega]
theorem walk_itemsT {d : Addr} {o : Obj} {kvs : List (List Key × V)} : Walk (Itit d o kvs) kvs.length (fun H => H d = some (.frz o (.dT kvs)))
    (fun i H x H' => ∃ (T q : Addr) (k : List Key) (v : V), kvs[i]? = some (k, v) ∧ H q = some (.tup (k.map kV)) ∧ x = .ref T ∧ H T = none ∧ H' = upd H T (.tup [.ref q, v])) :=
  ⟨fun _ _ hi q => ⟨q, hi⟩, fun _ q => ⟨q, Nat.le_refl _⟩, fun _ _ _ _ _ _ y => y⟩
theorem EntK.same {H H' : Hp} {kvs : List (Key × V)} {A : Nat → List Nat} {n : Nat} (h : EntK H kvs A n) (e : Same H H') : EntK H' kvs A n := ⟨h.1, fun c hc => let ⟨l, a, b⟩ := h.2 c hc; ⟨l, a, e _ _ b⟩⟩
/-- a dict was written, all else is kept -/
theorem LstP.dput {H : Hp} {d l : Addr} {kvs : List (List Key × V)} {u : HO} {cs : List Nat} (h : LstP H l cs) (hd : H d = some (.dT kvs)) : LstP (upd H d u) l cs := by
  obtain ⟨as, a1, a2⟩ := h
  exact ⟨as, by rw [upd_ne (ne_of a1 hd (by intro z; cases z))]; exact a1, a2.mono fun a xs e => by rw [upd_ne (ne_of e hd (by intro z; cases z))]; exact e⟩
/-! ### next_nodes, its entries -/
def spNextL (K : PySem.W.Frag) (C : Addr) : Sp := fun vs H Q _ => ∃ (p : Addr) (a : Nat) (N : NetD), vs = [.ref p, .int (a : Int)] ∧ NetAt K C H p N ∧ N.ks.length ≤ 1000 ∧
  ∀ (H' : Hp) (D : Addr) (kvs : List (Key × V)), Same H H' → H D = none → H' D = some (.dK kvs) → EntK H' kvs (arcsOf N a) N.ks.length → Q (.ref D) H'
theorem ok_nextL {f C fN : Addr} {fd fdN : FuncData} {k : Nat} (F : Fun K "next_nodes" "next_nodes" sNext f fd) (T : Blt mg) (c : NetC K C) (mN : Meth K C "neighbours" fN) (GN : MethOf P w K mg base 1 ["self", "a"] (spNb K C) fN fdN) :
    FnOk P w K mg base CX0 (k + 2) f fd ["net", "first"] (spNextL K C) := by
  refine F.ok scNext (fun vs H Q E h => ?_) (fun cdv A outer s H vs Q E hr h => ?_)
  · obtain ⟨p, a, N, rfl, _⟩ := h
    rfl
  · obtain ⟨p, a, N, rfl, hN, hn, q⟩ := h
    have nd := scNext.nd
    have hu := hu_of hr
    have hr1 : Room 1 _ := hr.mono (by omega)
    refine ⟨_, pss_cons (ps_set (i := 2) nd rfl (.inl rfl) pe_dnewK) <| pss_cons (ps_for PassesOwn.never rfl (pi_enum (by rfl) T.enum (pa_cons (pe_fld (pv 0) rfl) pa_nil)) (pg_tup rfl (pgs_cons (pg_name (i := 3) nd rfl (.inl rfl)) (pgs_cons (pg_name (i := 4) nd rfl (.inl rfl)) pgs_nil))) (pss_one (ps_dput hu (pv 2) (pv 3) (pe_ifExp (PW.pt (pw_or (pt_cmpR op_eq (pv 3) (pv 1) (nomark _)) (pw_or1 (pt_cmpR op_eq (pv 4) pe_str (nomark _))))) (pe_meth (pv 0) c.cl mN GN.ok hr1 GN.b .nil pass0 (pa_cons (pv 3) pa_nil)) (pe_lst pa_nil)) rfl))) <| pss_one (ps_ret (pv 2)), ?_⟩
    have eN := hN
    obtain ⟨dx, lk, ll, ld, ts, e1, e2, e3, e4, e5⟩ := hN
    have en : (N.ks.map kindV).length = N.ks.length := List.length_map ..
    refine fun d nd0 => ?_
    have s1 := same_new (o := .dK []) nd0
    have hd1 : (upd H d (.dK [])) d = some (.dK []) := upd_same
    generalize (upd H d (.dK [])) = H1 at s1 hd1 ⊢
    refine ⟨_, rfl, p, C, dx, _, _, rfl, s1 _ _ e1, c.cl, c.n1, g1, lk, _, rfl, SqL.of (s1 _ _ e2), for_it (walk_enum (K := K) (a := lk) (xs := N.ks.map kindV)) (fun i σ H' => ∃ (v3 v4 : Option V) (kvs : List (Key × V)), σ = [some (.ref p), some (.int (a : Int)), some (.ref d), v3, v4] ∧
      Same H H' ∧ H' d = some (.dK kvs) ∧ EntK H' kvs (arcsOf N a) i)
      ⟨none, none, [], rfl, s1, hd1, rfl, fun x hx => absurd hx (Nat.not_lt_zero _)⟩ (fun i σ H' _ ⟨_, _, _, _, sm, _⟩ => SqL.of (sm _ _ e2)) ?_ ?_⟩
    · rintro i x σ H2 H3 hi ⟨v3, v4, kvs, rfl, sm, hd, hE⟩ ⟨t, y, z, rfl, nt, rfl, hy, hz⟩
      rw [en] at hi
      cases hy
      have ez : z = kindV (N.ks.getD i true) := by
        have hz : (N.ks.map kindV)[i]? = some z := hz
        rw [List.getElem?_map, getD_at true hi] at hz
        exact (Option.some.inj hz).symm
      subst ez
      have st := same_new (o := .tup [V.int ((i : Nat) : Int), kindV (N.ks.getD i true)]) nt
      refine ⟨t, _, rfl, SqT.of upd_same, rfl, _, _, rfl, _, _, rfl, rfl, ?_⟩
      have nxt : ∀ (H4 : Hp) (l : Addr), Same (upd H2 t (.tup [V.int ((i : Nat) : Int), kindV (N.ks.getD i true)])) H4 → H4 l = some (.lst (natsV (arcsOf N a i))) → 
          Same H (upd H4 d (.dK (putK kvs (Sum.inl (i : Int)) (.ref l)))) ∧ H4 d = some (.dK kvs) ∧ EntK (upd H4 d (.dK (putK kvs (Sum.inl (i : Int)) (.ref l)))) (putK kvs (Sum.inl (i : Int)) (.ref l)) (arcsOf N a) (i + 1) := fun H4 l s4 hl => by
        have hd4 := s4 _ _ (st _ _ hd)
        have ndl : ∀ (l' : Addr) (r : List Nat), H4 l' = some (.lst (natsV r)) → l' ≠ d := fun l' r e => ne_of e hd4 (by intro z; cases z)
        refine ⟨same_mut ((sm.trans st).trans s4) nd0, hd4, ?_⟩
        rw [putK_new _ hE.none]
        refine ⟨by rw [List.length_append, hE.1]; rfl, fun x hx => ?_⟩
        by_cases e : x < i
        · obtain ⟨l', h1, h2⟩ := hE.2 x e
          have h2' := s4 _ _ (st _ _ h2)
          exact ⟨l', by rw [List.getElem?_append_left (by rw [hE.1]; exact e)]; exact h1, by rw [upd_ne (ndl l' _ h2')]; exact h2'⟩
        · have : x = i := by omega
          subst this
          exact ⟨l, by rw [List.getElem?_append_right (by rw [hE.1]; exact Nat.le_refl _), hE.1, Nat.sub_self]; rfl, by rw [upd_ne (ndl l _ hl)]; exact hl⟩
      have eb : (decide (V.int (i : Int) = V.int (a : Int)) || decide (kindV (N.ks.getD i true) = V.str "switch")) = (decide (i = a) || !host N i) := by
        rw [dec_nat]
        congr 1
        unfold host
        cases N.ks.getD i true <;> decide +kernel
      have lenk := hE.1
      refine or_read (a := decide (V.int (i : Int) = V.int (a : Int))) (b := decide (kindV (N.ks.getD i true) = V.str "switch")) (fun Q q => ⟨_, rfl, _, rfl, rfl, _, rfl, q⟩) (fun Q q => ⟨_, rfl, rfl, _, rfl, q⟩) ?_
      rw [eb]
      refine ite2 (fun e => ?_) (fun e => ?_)
      · refine ⟨_, rfl, p, dx, _, rfl, st _ _ (sm _ _ e1), g6, _, rfl, p, i, N, rfl, eN.same (sm.trans st), hn, fun H4 l s4 nl hl => ?_⟩
        have ea : arcsOf N a i = nbs N i := if_pos e
        rw [← ea] at hl
        obtain ⟨z1, z2, z3⟩ := nxt H4 l s4 hl
        exact ⟨_, rfl, _, rfl, d, _, rfl, DPut.k (k := Sum.inl (i : Int)) z2 (small1000 (by omega)), _, _, _, rfl, z1, upd_same, z3⟩
      · refine ⟨Nat.zero_le _, fun l nl => ?_⟩
        have ea : arcsOf N a i = [] := if_neg e
        obtain ⟨z1, z2, z3⟩ := nxt _ l (same_new (o := .lst []) nl) (by rw [ea]; exact upd_same)
        exact ⟨_, rfl, _, rfl, d, _, rfl, DPut.k (k := Sum.inl (i : Int)) z2 (small1000 (by omega)), _, _, _, rfl, z1, upd_same, z3⟩
    · rintro σ H' ⟨v3, v4, kvs, rfl, sm, hd, hE⟩
      rw [en] at hE
      exact ⟨_, rfl, q H' d kvs sm nd0 hd hE⟩
/-! ### split_nodes -/
theorem scSplit : FnScope ["net", "first", "arcs", "node", "heads", "head"] ["net", "first"] (defScope sSplit) := ⟨rfl, rfl, rfl, by decide +kernel, rfl, by decide +kernel, by decide +kernel⟩
def spSplit (K : PySem.W.Frag) (C : Addr) : Sp := fun vs H Q _ => ∃ (p : Addr) (a : Nat) (N : NetD), vs = [.ref p, .int (a : Int)] ∧ NetAt K C H p N ∧ N.ks.length ≤ 100 ∧
  ∀ (H' : Hp) (D : Addr) (kvs : List (List Key × V)), Same H H' → H D = none → H' D = some (.dT kvs) → EntT H' kvs (arcs0 N a) (2 * N.ks.length) → Q (.ref D) H'
theorem ok_split {f C fX : Addr} {fd fdX : FuncData} {k : Nat} (F : Fun K "split_nodes" "split_nodes" sSplit f fd) (GX : Callee P w K mg base 2 "next_nodes" ["net", "first"] (spNextL K C) fX fdX) :
    FnOk P w K mg base CX0 (k + 3) f fd ["net", "first"] (spSplit K C) := by
  refine F.ok scSplit (fun vs H Q E h => ?_) (fun cdv A outer s H vs Q E hr h => ?_)
  · obtain ⟨p, a, N, rfl, _⟩ := h
    rfl
  · obtain ⟨p, a, N, rfl, hN, hn, q⟩ := h
    have nd := scSplit.nd
    have hu := hu_of hr
    have hr2 : Room 2 _ := hr.mono (by omega)
    refine ⟨_, pss_cons (ps_set (i := 2) nd rfl (.inl rfl) pe_dnewT) <| pss_cons (ps_for PassesOwn.never rfl (pi_items (pe_freeze (pe_call GX.ok hr2 (by rfl) GX.mg GX.kp GX.b .nil pass0 (pa_cons (pv 0) (pa_cons (pv 1) pa_nil))))) (pg_tup rfl (pgs_cons (pg_name (i := 3) nd rfl (.inl rfl)) (pgs_cons (pg_name (i := 4) nd rfl (.inl rfl)) pgs_nil))) (pss_cons (ps_dput hu (pv 2) (pe_tup (pa_cons pe_str (pa_cons (pv 3) pa_nil))) (pe_lst (pa_cons (pe_tup (pa_cons pe_str (pa_cons (pv 3) pa_nil))) pa_nil)) rfl) <| pss_one (ps_dput hu (pv 2) (pe_tup (pa_cons pe_str (pa_cons (pv 3) pa_nil))) (pe_lc (own := [("head", 5)]) (g := (gName 5)) (tt := tYes) rfl nd (pi_list (pv 4)) (blkOk_by (own := [("head", 5)]) (N := ["net", "first", "arcs", "node", "heads", "head"]) (sc := defScope sSplit) (by decide +kernel)) (fun _ _ _ _ _ => pg_name (i := 5) nd rfl (Or.inl rfl)) (fun _ _ _ _ _ => pts_nil) (fun _ _ _ _ _ => (pe_tup (pa_cons pe_str (pa_cons (pv 5) pa_nil))))) rfl))) <| pss_one (ps_ret (pv 2)), ?_⟩
    have eN := hN
    -- arcs = {}
    refine fun pd npd => ?_
    have s1 := same_new (o := .dT []) npd
    have hd1 : (upd H pd (.dT [])) pd = some (.dT []) := upd_same
    generalize (upd H pd (.dT [])) = H1 at s1 hd1 ⊢
    refine ⟨_, rfl, _, rfl, p, a, N, rfl, hN.same s1, by omega, fun H2 D kvs s2 nD hD hE => ?_⟩
    refine ⟨D, .dK kvs, rfl, hD, True.intro, fun od => ?_⟩
    have hpd2 := s2 _ _ hd1
    have ndp : pd ≠ D := ne_of hpd2 hD (by intro z; cases z)
    have kb : But D H2 (upd H2 D (.frz od (.dK kvs))) := but_self
    have s3 : Same H (upd H2 D (.frz od (.dK kvs))) := same_but (s1.trans s2) (s1.free nD) kb
    have hpd3 := kb _ _ hpd2 ndp
    have hE3 : EntK (upd H2 D (.frz od (.dK kvs))) kvs (arcsOf N a) N.ks.length := ⟨hE.1, fun x hx => let ⟨l, q1, q2⟩ := hE.2 x hx; ⟨l, q1, kb _ _ q2 (ne_of q2 hD (by intro z; cases z))⟩⟩
    have hD3 : (upd H2 D (.frz od (.dK kvs))) D = some (.frz od (.dK kvs)) := upd_same
    generalize (upd H2 D (.frz od (.dK kvs))) = H3 at s3 hpd3 hE3 hD3 ⊢
    refine ⟨D, od, kvs, rfl, hD3, for_it (walk_items (d := D) (o := od) (kvs := kvs)) (fun i σ H' => ∃ (v3 v4 : Option V) (kv2 : List (List Key × V)), σ = [some (.ref p), some (.int (a : Int)), some (.ref pd), v3, v4, none] ∧
      Same H H' ∧ H' D = some (.frz od (.dK kvs)) ∧ H' pd = some (.dT kv2) ∧ EntT H' kv2 (arcs0 N a) (2 * i) ∧ EntK H' kvs (arcsOf N a) N.ks.length)
      ⟨none, none, [], rfl, s3, hD3, hpd3, ⟨rfl, fun c hc => absurd hc (Nat.not_lt_zero _)⟩, hE3⟩ (fun i σ H' _ ⟨_, _, _, _, _, z, _⟩ => z) ?_ ?_⟩
    · rintro i x σ H4 H5 hi ⟨v3, v4, kv2, rfl, s4, hD4, hpd4, hT4, hE4⟩ ⟨T, y, z, rfl, nT, rfl, hy, hz⟩
      rw [hE.1] at hi
      obtain ⟨l, hkv, hl⟩ := hE4.2 i hi
      have hy : kvs[i]?.map (fun kv => kV kv.1) = some y := hy
      have hz : kvs[i]?.map Prod.snd = some z := hz
      rw [hkv] at hy hz
      have hy : y = V.int (i : Int) := (Option.some.inj hy).symm
      have hz : z = V.ref l := (Option.some.inj hz).symm
      subst hy hz
      have sT := same_new (o := .tup [V.int (i : Int), V.ref l]) nT
      refine ⟨T, _, rfl, SqT.of upd_same, rfl, _, _, rfl, _, _, rfl, rfl, ?_⟩
      -- arcs['in', node]
      refine ⟨_, rfl, by show 2 ≤ sizeLine; decide, fun t1 nt1 => ?_⟩
      have st1 := same_new (o := .tup [V.str "out", V.int (i : Int)]) nt1
      refine ⟨by show 1 ≤ sizeLine; decide, fun t2 nt2 => ?_⟩
      have st2 := same_new (o := .lst [V.ref t1]) nt2
      have h12 := (sT.trans st1).trans st2
      have hL2 : LstP (upd (upd (upd H4 T (.tup [V.int (i : Int), V.ref l])) t1 (.tup [V.str "out", V.int (i : Int)])) t2 (.lst [V.ref t1])) t2 (arcs0 N a (2 * i)) := by
        unfold arcs0
        rw [if_pos (by omega)]
        exact ⟨[t1], upd_same, .cons (by unfold PlAt; rw [plV_odd]; exact st2 _ _ upd_same) .nil⟩
      generalize (upd (upd (upd H4 T (.tup [V.int (i : Int), V.ref l])) t1 (.tup [V.str "out", V.int (i : Int)])) t2 (.lst [V.ref t1])) = H6 at h12 hL2 ⊢
      refine ⟨_, rfl, _, rfl, by show 2 ≤ sizeLine; decide, fun t3 nt3 => ?_⟩
      have st3 := same_new (o := .tup [V.str "in", V.int (i : Int)]) nt3
      have h13 := h12.trans st3
      have hk3 : (upd H6 t3 (.tup [V.str "in", V.int (i : Int)])) t3 = some (.tup ((keyP (2 * i)).map kV)) := by rw [upd_same, keyP_map, plV_even]
      have hL3 := hL2.same st3
      generalize (upd H6 t3 (.tup [V.str "in", V.int (i : Int)])) = H7 at h13 hk3 hL3 ⊢
      have hpd7 := h13 _ _ hpd4
      have len2 := hT4.1
      refine ⟨pd, _, rfl, DPut.t (k := keyP (2 * i)) hpd7 hk3 (szl (by omega)), ?_⟩
      have kb8 : But pd H7 (upd H7 pd (.dT (putK kv2 (keyP (2 * i)) (.ref t2)))) := but_self
      have s8 : Same H (upd H7 pd (.dT (putK kv2 (keyP (2 * i)) (.ref t2)))) := same_but (s4.trans h13) npd kb8
      have hT8 : EntT (upd H7 pd (.dT (putK kv2 (keyP (2 * i)) (.ref t2)))) (putK kv2 (keyP (2 * i)) (.ref t2)) (arcs0 N a) (2 * i + 1) := ((hT4.same h13).mono fun l cs z => z.dput hpd7).snoc (hL3.dput hpd7)
      have hD8 := kb8 _ _ (h13 _ _ hD4) (ne_of (h13 _ _ hD4) hpd7 (by intro z; cases z))
      have hE8 : EntK (upd H7 pd (.dT (putK kv2 (keyP (2 * i)) (.ref t2)))) kvs (arcsOf N a) N.ks.length := ⟨hE4.1, fun x hx => let ⟨l, q1, q2⟩ := hE4.2 x hx; ⟨l, q1, kb8 _ _ (h13 _ _ q2) (ne_of (h13 _ _ q2) hpd7 (by intro z; cases z))⟩⟩
      have hpd8 : (upd H7 pd (.dT (putK kv2 (keyP (2 * i)) (.ref t2)))) pd = some (.dT (putK kv2 (keyP (2 * i)) (.ref t2))) := upd_same
      generalize (upd H7 pd (.dT (putK kv2 (keyP (2 * i)) (.ref t2)))) = H8 at kb8 s8 hT8 hD8 hE8 hpd8 ⊢
      generalize (putK kv2 (keyP (2 * i)) (.ref t2)) = kv3 at hT8 hpd8
      -- arcs['out', node]
      have hl8 : H8 l = some (.lst (natsV (arcsOf N a i))) := by
        obtain ⟨l', q1, q2⟩ := hE8.2 i hi
        rw [hkv] at q1
        have q1 := Option.some.inj q1
        injection q1 with _ q1
        injection q1 with q1
        rw [q1]
        exact q2
      have la : (arcsOf N a i).length ≤ N.ks.length := by
        unfold arcsOf nbs
        have := List.length_filter_le (adj N i) (List.range N.ks.length)
        rw [List.length_range] at this
        split
        · exact this
        · exact Nat.zero_le _
      refine ⟨_, rfl, l, rfl, ⟨_, SqL.of hl8⟩, fun D2 nD2 => ?_⟩
      refine lc_list (K := K) (a := l) (xs := natsV (arcsOf N a i)) (fun j H' => Same H8 H' ∧ ∃ us : List Addr, H' D2 = some (.lst (us.map V.ref)) ∧ Refs H' us (((arcsOf N a i).take j).map fun w => 2 * w)) ⟨same_new nD2, [], upd_same, .nil⟩ (fun j H' _ z => SqL.of (z.1 _ _ hl8)) ?_ ?_
      · rintro j x H9 hj ⟨s9, us, hD9, hU⟩
        obtain ⟨w0, ew, rfl⟩ := nats_at' hj
        have lu : us.length = (((arcsOf N a i).take j).map fun w => 2 * w).length := hU.length
        rw [List.length_map, List.length_take] at lu
        refine ⟨rfl, _, rfl, by show 2 ≤ sizeLine; decide, fun u nu => ?_⟩
        have su := same_new (o := .tup [V.str "in", V.int (w0 : Int)]) nu
        have hD' := su _ _ hD9
        refine ⟨_, hD', szl (by rw [List.length_map]; omega), same_but (s9.trans su) nD2 but_self, us ++ [u], ?_, ?_⟩
        · rw [upd_same, List.map_append]
          rfl
        · rw [take_snoc ew, List.map_append]
          have kt : ∀ a xs, (upd H9 u (.tup [V.str "in", V.int (w0 : Int)])) a = some (.tup xs) → (upd (upd H9 u (.tup [V.str "in", V.int (w0 : Int)])) D2 (.lst (us.map V.ref ++ [V.ref u]))) a = some (.tup xs) := fun a xs e => by
            rw [upd_ne (ne_of e hD' (by intro z; cases z))]
            exact e
          refine Refs.snoc ((hU.mono fun a xs e => su _ _ e).mono kt) (kt _ _ ?_)
          rw [upd_same, plV_even]
      rintro H9 ⟨s9, us, hD9, hU⟩
      rw [natsV_len, List.take_length] at hU
      have hpd9 := s9 _ _ hpd8
      refine ⟨_, rfl, _, rfl, by show 2 ≤ sizeLine; decide, fun t4 nt4 => ?_⟩
      have st4 := same_new (o := .tup [V.str "out", V.int (i : Int)]) nt4
      have h94 := s9.trans st4
      have hk4 : (upd H9 t4 (.tup [V.str "out", V.int (i : Int)])) t4 = some (.tup ((keyP (2 * i + 1)).map kV)) := by rw [upd_same, keyP_map, plV_odd]
      have hL4 : LstP (upd H9 t4 (.tup [V.str "out", V.int (i : Int)])) D2 (arcs0 N a (2 * i + 1)) := by
        unfold arcs0
        rw [if_neg (by omega), show (2 * i + 1) / 2 = i by omega]
        exact ⟨us, st4 _ _ hD9, hU.mono fun a xs e => st4 _ _ e⟩
      generalize (upd H9 t4 (.tup [V.str "out", V.int (i : Int)])) = HA at h94 hk4 hL4 ⊢
      have hpdA := h94 _ _ hpd8
      have len3 := hT8.1
      refine ⟨pd, _, rfl, DPut.t (k := keyP (2 * i + 1)) hpdA hk4 (szl (by omega)), ?_⟩
      have kbB : But pd HA (upd HA pd (.dT (putK kv3 (keyP (2 * i + 1)) (.ref D2)))) := but_self
      refine ⟨_, _, _, rfl, same_but (s8.trans h94) npd kbB, kbB _ _ (h94 _ _ hD8) (ne_of (h94 _ _ hD8) hpdA (by intro z; cases z)), upd_same, ?_, ⟨hE8.1, fun x hx => let ⟨l, q1, q2⟩ := hE8.2 x hx; ⟨l, q1, kbB _ _ (h94 _ _ q2) (ne_of (h94 _ _ q2) hpdA (by intro z; cases z))⟩⟩⟩
      rw [show 2 * (i + 1) = 2 * i + 1 + 1 by omega]
      exact ((hT8.same h94).mono fun l cs z => z.dput hpdA).snoc (hL4.dput hpdA)
    · rintro σ H' ⟨v3, v4, kv2, rfl, s4, hD4, hpd4, hT4, hE4⟩
      rw [hE.1] at hT4
      exact ⟨_, rfl, q H' pd kv2 s4 npd hpd4 hT4⟩
end
end My
namespace My
open PySem PySem.Spec PyProof.Rows L2
abbrev sPorts : Stmt := top 3
abbrev sTurn : Stmt := top 11
section
variable {X : Cx} {K : PySem.W.Frag}
theorem op_inDK (hu : X.A.units + 65 < cLine) (hK : X.K = K := by rfl) : OpR X (compareOp .In) (rInD K) := by
  subst hK
  exact op_inD hu
theorem op_notInDK (hu : X.A.units + 65 < cLine) (hK : X.K = K := by rfl) : OpR X (compareOp .NotIn) (rNotInD K) := by
  subst hK
  exact op_notInD hu
theorem op_eqDK (hu : X.A.units + 64 < cLine) (hK : X.K = K := by rfl) : OpR X (compareOp .Eq) (rEqD K) := by
  subst hK
  exact op_eqD hu
end
theorem u65 {k : Nat} {A : Around} (r : Room k A) : A.units + 65 < cLine := by
  have := r.un
  omega
theorem cut1 (xs : List V) : cutV xs (some 1) none = xs.drop 1 := by
  unfold cutV
  have e1 : HT.sIx xs.length 0 (some 1) = min 1 xs.length := HT.sIx_nat _ _ 1
  rw [e1, HT.sIx_none]
  cases xs with
  | nil => rfl
  | cons x r =>
    rw [List.length_cons, Nat.min_eq_left (by omega)]
    show (r.take (r.length + 1 - 1)) = r
    rw [Nat.add_sub_cancel, List.take_length]
section
variable {P : Program} {w : World} {K : PySem.W.Frag} {mg : Str → Option Value} {base : Heap}
/-! ### ports_of, of any list -/
theorem scPo : FnScope ["path"] ["path"] (defScope sPorts) := ⟨rfl, rfl, rfl, by decide +kernel, rfl, by decide +kernel, by decide +kernel⟩
def spPoV (K : PySem.W.Frag) : Sp := fun vs H Q _ => ∃ (l : Addr) (xs : List V), vs = [.ref l] ∧ H l = some (.lst xs) ∧ ∀ (H' : Hp) (D : Addr) (ts : List Addr), Same H H' → H D = none → H' D = some (.lst (ts.map V.ref)) →
  Paired (fun (t : Addr) (z : V × V) => H' t = some (.tup [z.1, z.2])) ts (xs.zip (xs.drop 1)) → Q (.ref D) H'
theorem ok_portsV {f : Addr} {fd : FuncData} {k : Nat} (F : Fun K "ports_of" "ports_of" sPorts f fd) (T : Blt mg) (hz : mg "zip" = none) : FnOk P w K mg base CX0 (k + 1) f fd ["path"] (spPoV K) := by
  refine F.ok scPo (fun vs H Q E h => ?_) (fun cdv A outer s H vs Q E hr h => ?_)
  · obtain ⟨l, xs, rfl, _⟩ := h
    rfl
  · obtain ⟨l, xs, rfl, hl, q⟩ := h
    have nd := scPo.nd
    refine ⟨_, pss_one (ps_ret (Zl.pe_listZip rfl (pa_cons (pv 0) (pa_cons (pe_slice sl_list (pv 0) (po_some pe_int) po_none) pa_nil)) (by rfl) T.list (by rfl) hz)), ?_⟩
    refine ⟨_, rfl, _, rfl, _, rfl, l, _, rfl, SqL.of hl, fun y ny => ?_⟩
    have sy := same_new (o := .lst (cutV xs (some 1) none)) ny
    rw [cut1] at *
    exact ⟨l, y, xs, xs.drop 1, rfl, SqL.of (sy _ _ hl), SqL.of upd_same, fun H' p ts sm np hp hP => q H' p ts (sy.trans sm) (sy.free np) hp hP⟩
/-! ### places as data -/
def dPl (c : Nat) : PyData := .tuple [.str (sideS c), .int ((c / 2 : Nat) : Int)]
def dPP (p : Nat × Nat) : PyData := .tuple [dPl p.1, dPl p.2]
theorem shp_side (c : Nat) : Shp 0 (.str (sideS c)) := by
  unfold sideS
  have := shp_int 0
  split
  · exact ⟨by rw [PyData.canLay0]; decide +kernel, by rw [PyData.depth]; exact Nat.le_refl _⟩
  · exact ⟨by rw [PyData.canLay0]; decide +kernel, by rw [PyData.depth]; exact Nat.le_refl _⟩
theorem shp_pl (c : Nat) : Shp 1 (dPl c) := shp_tuple fun d hd => by
  rcases List.mem_cons.mp hd with e | hd
  · rw [e]; exact shp_side c
  · rw [List.mem_singleton.mp hd]; exact shp_int _
theorem shp_pp (p : Nat × Nat) : Shp 2 (dPP p) := shp_tuple fun d hd => by
  rcases List.mem_cons.mp hd with e | hd
  · rw [e]; exact shp_pl _
  · rw [List.mem_singleton.mp hd]; exact shp_pl _
theorem shp_pps (ps : List (Nat × Nat)) : Shp 3 (.list (ps.map dPP)) := shp_list (shp_map shp_pp)
theorem eqv_side (c d : Nat) : PyData.eqv (.str (sideS c)) (.str (sideS d)) = decide (c % 2 = d % 2) := by
  rw [PyData.eqv]
  unfold sideS
  by_cases h : c % 2 = 0 <;> by_cases h' : d % 2 = 0
  · rw [if_pos h, if_pos h', beq_self_eq_true, decide_eq_true (by omega)]
  · rw [if_pos h, if_neg h', decide_eq_false (by omega)]
    decide +kernel
  · rw [if_neg h, if_pos h', decide_eq_false (by omega)]
    decide +kernel
  · rw [if_neg h, if_neg h', beq_self_eq_true, decide_eq_true (by omega)]
theorem eqv_pl (c d : Nat) : PyData.eqv (dPl c) (dPl d) = decide (c = d) := by
  unfold dPl
  rw [PyData.eqv, PyData.eqvAll, PyData.eqvAll, PyData.eqvAll, eqv_side, eqv_int, beq_dec, Bool.and_true, Bool.eq_iff_iff, Bool.and_eq_true, decide_eq_true_eq, decide_eq_true_eq, decide_eq_true_eq]
  omega
theorem eqv_pp (p q : Nat × Nat) : PyData.eqv (dPP p) (dPP q) = decide (p = q) := by
  obtain ⟨a, b⟩ := p
  obtain ⟨c, d⟩ := q
  unfold dPP
  rw [PyData.eqv, PyData.eqvAll, PyData.eqvAll, PyData.eqvAll, eqv_pl, eqv_pl, Bool.and_true, Bool.eq_iff_iff, Bool.and_eq_true, decide_eq_true_eq, decide_eq_true_eq, decide_eq_true_eq, Prod.mk.injEq]
theorem dp_pl {H : Hp} {a : Addr} {c : Nat} (h : PlAt H a c) : Dp K H (.ref a) (dPl c) := .tup (SqT.of h) (.cons (.str _) (.cons (.int _) .nil))
def PPt (H : Hp) (t : Addr) (p : Nat × Nat) : Prop := ∃ a b : Addr, H t = some (.tup [.ref a, .ref b]) ∧ PlAt H a p.1 ∧ PlAt H b p.2
theorem PPt.mono {H H' : Hp} {t : Addr} {p : Nat × Nat} (h : PPt H t p) (f : ∀ a xs, H a = some (.tup xs) → H' a = some (.tup xs)) : PPt H' t p := by
  obtain ⟨a, b, h1, h2, h3⟩ := h
  exact ⟨a, b, f _ _ h1, f _ _ h2, f _ _ h3⟩
abbrev PPs' (H : Hp) (ts : List Addr) (ps : List (Nat × Nat)) : Prop := Paired (fun (t : Addr) (p : Nat × Nat) => PPt H t p) ts ps
theorem dp_pp {H : Hp} {t : Addr} {p : Nat × Nat} (h : PPt H t p) : Dp K H (.ref t) (dPP p) := by
  obtain ⟨a, b, h1, h2, h3⟩ := h
  exact .tup (SqT.of h1) (.cons (dp_pl h2) (.cons (dp_pl h3) .nil))
theorem pps_zip {H : Hp} : ∀ {as bs : List Addr} {cs ds : List Nat} {ts : List Addr}, Refs H as cs → Refs H bs ds → Paired (fun (t : Addr) (z : V × V) => H t = some (.tup [z.1, z.2])) ts ((as.map V.ref).zip (bs.map V.ref)) → PPs' H ts (cs.zip ds)
  | _, _, _, _, _, .nil, _, h => by
    cases h
    exact .nil
  | _, _, _, _, _, .cons _ _, .nil, h => by
    cases h
    exact .nil
  | _, _, _, _, _, .cons a ra, .cons b rb, h => by
    cases h with
    | cons r t => exact .cons ⟨_, _, r, a, b⟩ (pps_zip ra rb t)
theorem refs_app {H : Hp} : ∀ {as bs : List Addr} {cs ds : List Nat}, Refs H as cs → Refs H bs ds → Refs H (as ++ bs) (cs ++ ds)
  | _, _, _, _, .nil, b => b
  | _, _, _, _, .cons a r, b => .cons a (refs_app r b)
theorem Refs.drop1 {H : Hp} : ∀ {as : List Addr} {cs : List Nat}, Refs H as cs → Refs H (as.drop 1) (cs.drop 1)
  | _, _, .nil => .nil
  | _, _, .cons _ t => t
theorem any_pp (ps : List (Nat × Nat)) (p : Nat × Nat) : ((ps.map dPP).any fun z => PyData.eqv z (dPP p)) = ps.contains p := by
  rw [List.any_map, List.contains_eq_any_beq]
  congr 1
  funext q
  show PyData.eqv (dPP q) (dPP p) = (p == q)
  rw [eqv_pp, Bool.eq_iff_iff, decide_eq_true_eq, beq_iff_eq]
  exact eq_comm
theorem filt_take' {α : Type} (p : α → Bool) {l : List α} {i : Nat} {a : α} (h : l[i]? = some a) : (l.take (i + 1)).filter p = (l.take i).filter p ++ (if p a = true then [a] else []) := by
  rw [take_snoc h, List.filter_append, List.filter_cons]
  split <;> rfl
theorem filt_len' {α : Type} (p : α → Bool) (l : List α) (i : Nat) : ((l.take i).filter p).length ≤ l.length := by
  have h1 := List.length_filter_le p (l.take i)
  have h3 : (l.take i).length ≤ l.length := by rw [List.length_take]; omega
  omega
/-- an object that is neither list nor tuple was written -/
theorem LstP.out {H : Hp} {d l : Addr} {u v : HO} {cs : List Nat} (h : LstP H l cs) (hd : H d = some u) (n1 : ∀ xs, u ≠ .lst xs) (n2 : ∀ xs, u ≠ .tup xs) : LstP (upd H d v) l cs := by
  obtain ⟨as, a1, a2⟩ := h
  exact ⟨as, by rw [upd_ne (ne_of a1 hd (fun z => n1 _ z.symm))]; exact a1, a2.mono fun a xs e => by rw [upd_ne (ne_of e hd (fun z => n2 _ z.symm))]; exact e⟩
theorem ports_len' (r : List Nat) : (portsOf r).length ≤ r.length := by
  rw [ports_len]
  omega
/-! ### turn_around -/
theorem scTurn : FnScope ["arcs", "way", "turned", "result", "place", "heads", "kept", "head", "tail"] ["arcs", "way"] (defScope sTurn) := ⟨rfl, rfl, rfl, by decide +kernel, rfl, by decide +kernel, by decide +kernel⟩
def spTurn : Sp := fun vs H Q _ => ∃ (d wl : Addr) (kvs : List (List Key × V)) (A : Nat → List Nat) (n : Nat) (W : List Nat), vs = [.ref d, .ref wl] ∧ H d = some (.dT kvs) ∧ EntT H kvs A n ∧ LstP H wl W ∧ n ≤ 200 ∧ W.length ≤ 200 ∧ (∀ c, c < n → (A c).length ≤ 1000) ∧
  ∀ (H' : Hp) (D : Addr) (kv2 : List (List Key × V)), Same H H' → H D = none → H' D = some (.dT kv2) → EntT H' kv2 (turnA A W) n → Q (.ref D) H'
theorem ok_turn {f fPo : Addr} {fd fdPo : FuncData} {k : Nat} (F : Fun K "turn_around" "turn_around" sTurn f fd) (GPo : Callee P w K mg base 1 "ports_of" ["path"] (spPoV K) fPo fdPo) :
    FnOk P w K mg base CX0 (k + 2) f fd ["arcs", "way"] spTurn := by
  refine F.ok scTurn (fun vs H Q E h => ?_) (fun cdv A0 outer s H vs Q E hr h => ?_)
  · obtain ⟨d, wl, kvs, A, n, W, rfl, _⟩ := h
    rfl
  · obtain ⟨d, wl, kvs, A, n, W, rfl, hd, hE, hW, hn, hWl, hAl, q⟩ := h
    have nd := scTurn.nd
    have hu := hu_of hr
    have hr1 : Room 1 _ := hr.mono (by omega)
    have hu65 := u65 hr
    have hu64 := hr.units
    refine ⟨_, pss_cons (ps_set (i := 2) nd rfl (.inr rfl) (pe_call GPo.ok hr1 (by rfl) GPo.mg GPo.kp GPo.b .nil pass0 (pa_cons (pv 1) pa_nil))) <| pss_cons (ps_set (i := 3) nd rfl (.inl rfl) pe_dnewT) <| pss_cons (ps_lock (ps_for PassesOwn.never rfl (pi_itemsT (pv 0)) (pg_tup rfl (pgs_cons (pg_name (i := 4) nd rfl (.inr rfl)) (pgs_cons (pg_name (i := 5) nd rfl (.inl rfl)) pgs_nil))) (pss_cons (ps_setLc (i := 6) (own := [("head", 7)]) (g := (gName 7)) rfl nd rfl rfl (sw_true rfl rfl rfl (by decide +kernel)) (pi_list (pv 5)) (blkOk_by (own := [("head", 7)]) (N := ["arcs", "way", "turned", "result", "place", "heads", "kept", "head", "tail"]) (sc := defScope sTurn) (by decide +kernel)) (fun _ _ _ _ _ => pg_name (i := 7) nd rfl (Or.inl rfl)) (fun _ _ _ _ _ => pts_one (pt_cmpR (op_notInDK (K := K) hu65) (pe_tup (pa_cons (pv 4) (pa_cons (pv 7) pa_nil))) (pv 2) rfl)) (fun _ _ _ _ _ => (pv 7))) <| pss_one (ps_dput hu (pv 3) (pv 4) (pe_op op_cat (pv 6) (pe_lc (own := [("tail", 8), ("head", 7)]) (g := (gTup K 2 (gCons (gName 8) (gCons (gName 7) gNil)))) rfl nd (pi_list (pv 2)) (blkOk_by (own := [("tail", 8), ("head", 7)]) (N := ["arcs", "way", "turned", "result", "place", "heads", "kept", "head", "tail"]) (sc := defScope sTurn) (by decide +kernel)) (fun _ _ _ _ _ => pg_tupK (K := K) rfl (pgs_cons (pg_name (i := 8) nd rfl (Or.inl rfl)) (pgs_cons (pg_name (i := 7) nd rfl (Or.inl rfl)) pgs_nil))) (fun _ _ _ _ _ => pts_one (pt_cmpR (op_eqDK (K := K) hu64) (pv 7) (pv 4) (nomark _))) (fun _ _ _ _ _ => (pv 8)))) rfl)))) <| pss_one (ps_ret (pv 3)), ?_⟩
    obtain ⟨was, hw1, hw2⟩ := hW
    refine ⟨_, rfl, wl, _, rfl, hw1, fun H1 tp ts s1 ntp htp hP => ?_⟩
    have hPP : PPs' H1 ts (portsOf W) := by
      rw [← List.map_drop] at hP
      exact pps_zip (hw2.mono fun _ _ e => s1 _ _ e) (hw2.drop1.mono fun _ _ e => s1 _ _ e) hP
    have lts : ts.length = (portsOf W).length := hPP.length
    have lpo := ports_len' W
    have hd1 := s1 _ _ hd
    -- result = {}
    refine fun pr npr => ?_
    have s2 := same_new (o := .dT []) npr
    have hpr2 : (upd H1 pr (.dT [])) pr = some (.dT []) := upd_same
    generalize (upd H1 pr (.dT [])) = H2 at s2 hpr2 ⊢
    have hd2 := s2 _ _ hd1
    have nrd : pr ≠ d := fun z => by rw [z, hd1] at npr; cases npr
    refine ⟨d, .dT kvs, hd2, True.intro, fun od => ?_⟩
    have kb3 : But d H2 (upd H2 d (.frz od (.dT kvs))) := but_self
    have hd3 : (upd H2 d (.frz od (.dT kvs))) d = some (.frz od (.dT kvs)) := upd_same
    have hpr3 := kb3 _ _ hpr2 nrd
    have b3 : But d H1 (upd H2 d (.frz od (.dT kvs))) := fun b o e n => kb3 _ _ (s2 _ _ e) n
    generalize (upd H2 d (.frz od (.dT kvs))) = H3 at kb3 hd3 hpr3 b3 ⊢
    refine ⟨_, rfl, d, od, kvs, rfl, hd3, for_it (walk_itemsT (d := d) (o := od) (kvs := kvs)) (fun i σ H' => ∃ (v4 v5 v6 : Option V) (kv2 : List (List Key × V)), σ = [some (.ref d), some (.ref wl), some (.ref tp), some (.ref pr), v4, v5, v6, none, none] ∧
      But d H1 H' ∧ H' d = some (.frz od (.dT kvs)) ∧ H' pr = some (.dT kv2) ∧ EntT H' kv2 (turnA A W) i)
      ⟨none, none, none, [], rfl, b3, hd3, hpr3, ⟨rfl, fun c hc => absurd hc (Nat.not_lt_zero _)⟩⟩ (fun i σ H' _ ⟨_, _, _, _, _, _, z, _⟩ => z) ?_ ?_⟩
    · rintro i x σ H4 H5 hi ⟨v4, v5, v6, kv2, rfl, b4, hd4, hpr4, hT4⟩ ⟨T, qa, k, v, hkv, hqa, rfl, nT, rfl⟩
      rw [hE.1] at hi
      obtain ⟨l, hkv', cs, hl, hcs⟩ := hE.2 i hi
      rw [hkv] at hkv'
      have hkv' := Option.some.inj hkv'
      injection hkv' with e1 e2
      subst e1 e2
      have hAi := hAl i hi
      have lcs : cs.length = (A i).length := hcs.length
      have tupd : ∀ (a : Addr) (xs : List V), H a = some (.tup xs) → a ≠ d := fun a xs e => ne_of e hd (by intro z; cases z)
      have sT := same_new (o := .tup [V.ref qa, V.ref l]) nT
      have hTT : (upd H4 T (.tup [V.ref qa, V.ref l])) T = some (.tup [V.ref qa, V.ref l]) := upd_same
      have hl5 := sT _ _ (b4 _ _ (s1 _ _ hl) (ne_of hl hd (by intro z; cases z)))
      have htp5 := sT _ _ (b4 _ _ htp (ne_of htp hd1 (by intro z; cases z)))
      have hqa5 := sT _ _ hqa
      have hd5 := sT _ _ hd4
      have hpr5 := sT _ _ hpr4
      have b5 : But d H1 (upd H4 T (.tup [V.ref qa, V.ref l])) := fun b o e n => sT _ _ (b4 _ _ e n)
      have hT5 := hT4.same sT
      generalize (upd H4 T (.tup [V.ref qa, V.ref l])) = H5 at hTT hl5 htp5 hqa5 hd5 hpr5 b5 hT5 ⊢
      have old : ∀ (a : Addr) (c : Nat), PlAt H a c → PlAt H5 a c := fun a c e => b5 _ _ (s1 _ _ e) (tupd a _ e)
      have hPP5 : PPs' H5 ts (portsOf W) := Paired.imp hPP fun t p z => z.mono fun a xs e => b5 _ _ e (ne_of e hd1 (by intro z; cases z))
      refine ⟨T, _, rfl, SqT.of hTT, rfl, _, _, rfl, _, _, rfl, rfl, ?_⟩
      -- kept
      refine ⟨_, rfl, l, rfl, ⟨_, SqL.of hl5⟩, fun D1 nD1 => ?_⟩
      refine lc_list (K := K) (a := l) (xs := cs.map V.ref) (fun j H' => Same H5 H' ∧ ∃ us : List Addr, H' D1 = some (.lst (us.map V.ref)) ∧ Refs H' us (((A i).take j).filter fun h => !(portsOf W).contains (i, h))) ⟨same_new nD1, [], upd_same, .nil⟩ (fun j H' _ z => SqL.of (z.1 _ _ hl5)) ?_ ?_
      · rintro j x H6 hj ⟨s6, us, hD6, hU⟩
        obtain ⟨ha, hh, rfl, eh, hpl, _⟩ := refs_at hcs hj
        have hpl6 := s6 _ _ (old _ _ hpl)
        have lu : us.length = (((A i).take j).filter fun h => !(portsOf W).contains (i, h)).length := hU.length
        have lf := filt_len' (fun h => !(portsOf W).contains (i, h)) (A i) j
        refine ⟨rfl, _, rfl, _, rfl, by show 2 ≤ sizeLine; decide, fun u nu => ?_⟩
        have su := same_new (o := .tup [V.ref qa, V.ref ha]) nu
        have hPu : PPt (upd H6 u (.tup [V.ref qa, V.ref ha])) u (i, hh) := ⟨qa, ha, upd_same, su _ _ (s6 _ _ hqa5), su _ _ hpl6⟩
        have hD' := su _ _ hD6
        have hU' := hU.mono fun a xs e => su _ _ e
        have hpl7 := su _ _ hpl6
        have s7 := s6.trans su
        generalize (upd H6 u (.tup [V.ref qa, V.ref ha])) = H7 at su hPu hD' hU' hpl7 s7 ⊢
        refine ⟨_, rfl, dPP (i, hh), (portsOf W).map dPP, dp_pp hPu, .lst (SqL.of (s7 _ _ htp5)) (dp_paired dPP (fun _ _ z => dp_pp z) (Paired.imp hPP5 fun t p z => z.mono fun a xs e => s7 _ _ e)), (shp_pp _).shaped, (shp_pps _).shaped, _, rfl, ?_⟩
        rw [any_pp]
        refine ite2 (fun e => ?_) (fun e => ?_)
        · refine ⟨_, rfl, _, hD', szl (by rw [List.length_map]; omega), same_but s7 nD1 but_self, us ++ [ha], ?_, ?_⟩
          · rw [upd_same, List.map_append]
            rfl
          · rw [filt_take' (fun h => !(portsOf W).contains (i, h)) eh, if_pos e]
            have kt : ∀ a xs, H7 a = some (.tup xs) → (upd H7 D1 (.lst (us.map V.ref ++ [V.ref ha]))) a = some (.tup xs) := fun a xs e => by
              rw [upd_ne (ne_of e hD' (by intro z; cases z))]
              exact e
            exact Refs.snoc (hU'.mono kt) (kt _ _ hpl7)
        · refine ⟨s7, us, hD', ?_⟩
          rw [filt_take' (fun h => !(portsOf W).contains (i, h)) eh, if_neg e, List.append_nil]
          exact hU'
      rintro H6 ⟨s6, us, hD6, hU⟩
      rw [List.length_map, lcs, List.take_length] at hU
      -- the tails
      have htp6 := s6 _ _ htp5
      have hPP6 : PPs' H6 ts (portsOf W) := Paired.imp hPP5 fun t p z => z.mono fun a xs e => s6 _ _ e
      refine ⟨_, rfl, _, rfl, tp, rfl, ⟨_, SqL.of htp6⟩, fun D2 nD2 => ?_⟩
      refine lc_list (K := K) (a := tp) (xs := ts.map V.ref) (fun j H' => Same H6 H' ∧ ∃ ws : List Addr, H' D2 = some (.lst (ws.map V.ref)) ∧ Refs H' ws ((((portsOf W).take j).filter fun p => p.2 == i).map (·.1))) ⟨same_new nD2, [], upd_same, .nil⟩ (fun j H' _ z => SqL.of (z.1 _ _ htp6)) ?_ ?_
      · rintro j x H7 hj ⟨s7, ws, hD7, hWs⟩
        rw [List.getElem?_map] at hj
        cases ht : ts[j]? with
        | none => rw [ht] at hj; cases hj
        | some t =>
          rw [ht] at hj
          cases hj
          obtain ⟨p, ep, hpt⟩ := Paired.at hPP6 ht
          obtain ⟨pa, pb, h1, h2, h3⟩ := hpt.mono fun a xs e => s7 _ _ e
          have lw : ws.length = ((((portsOf W).take j).filter fun p => p.2 == i).map (·.1)).length := hWs.length
          rw [List.length_map] at lw
          have lf := filt_len' (fun p : Nat × Nat => p.2 == i) (portsOf W) j
          refine ⟨t, _, rfl, SqT.of h1, rfl, _, _, rfl, _, _, rfl, rfl, rfl, ?_⟩
          refine ⟨_, rfl, _, rfl, dPl p.2, dPl i, dp_pl h3, dp_pl (s7 _ _ (s6 _ _ hqa5)), (shp_pl _).shaped, (shp_pl _).shaped, _, rfl, ?_⟩
          rw [eqv_pl]
          refine ite2 (fun e => ?_) (fun e => ?_)
          · have e := of_decide_eq_true e
            refine ⟨_, rfl, _, hD7, szl (by rw [List.length_map]; omega), same_but s7 nD2 but_self, ws ++ [pa], ?_, ?_⟩
            · rw [upd_same, List.map_append]
              rfl
            · rw [filt_take' (fun p : Nat × Nat => p.2 == i) ep, if_pos (by rw [e]; exact beq_self_eq_true _), List.map_append]
              have kt : ∀ a xs, H7 a = some (.tup xs) → (upd H7 D2 (.lst (ws.map V.ref ++ [V.ref pa]))) a = some (.tup xs) := fun a xs e => by
                rw [upd_ne (ne_of e hD7 (by intro z; cases z))]
                exact e
              exact Refs.snoc (hWs.mono kt) (kt _ _ h2)
          · refine ⟨s7, ws, hD7, ?_⟩
            rw [filt_take' (fun p : Nat × Nat => p.2 == i) ep, if_neg (fun z => e (decide_eq_true (by simpa using z))), List.append_nil]
            exact hWs
      rintro H7 ⟨s7, ws, hD7, hWs⟩
      rw [List.length_map, lts, List.take_length] at hWs
      have hD67 := s7 _ _ hD6
      have hU7 := hU.mono fun a xs e => s7 _ _ e
      have l1 : us.length = ((A i).filter fun h => !(portsOf W).contains (i, h)).length := hU.length
      have l2 : ws.length = (((portsOf W).filter fun p => p.2 == i).map (·.1)).length := hWs.length
      have l3 := List.length_filter_le (fun h => !(portsOf W).contains (i, h)) (A i)
      have l4 := List.length_filter_le (fun p : Nat × Nat => p.2 == i) (portsOf W)
      rw [List.length_map] at l2
      refine ⟨D1, D2, _, _, rfl, rfl, hD67, hD7, sz (by rw [List.length_map, List.length_map]; omega), fun y ny => ?_⟩
      have sy := same_new (o := .lst (us.map V.ref ++ ws.map V.ref)) ny
      have hLy : LstP (upd H7 y (.lst (us.map V.ref ++ ws.map V.ref))) y (turnA A W i) := ⟨us ++ ws, by rw [upd_same, List.map_append], (refs_app hU7 hWs).mono fun a xs e => sy _ _ e⟩
      have s57 := (s6.trans s7).trans sy
      generalize (upd H7 y (.lst (us.map V.ref ++ ws.map V.ref))) = H8 at hLy s57 ⊢
      have hpr8 := s57 _ _ hpr5
      have lk := hT5.1
      refine ⟨_, rfl, _, rfl, pr, _, rfl, DPut.t (k := keyP i) hpr8 (s57 _ _ hqa5) (szl (by omega)), ?_⟩
      refine ⟨_, _, _, _, rfl, fun b o e n => ?_, ?_, upd_same, ((hT5.same s57).mono fun l cs z => z.dput hpr8).snoc (hLy.dput hpr8)⟩
      · rw [upd_ne (ne_of_none e npr)]
        exact s57 _ _ (b5 _ _ e n)
      · rw [upd_ne nrd.symm]
        exact s57 _ _ hd5
    · rintro σ H' ⟨v4, v5, v6, kv2, rfl, b4, hd4, hpr4, hT4⟩
      rw [hE.1] at hT4
      refine ⟨hd4, _, rfl, q (upd H' d (.dT kvs)) pr kv2 (fun b o e => ?_) (s1.free npr) (by rw [upd_ne nrd]; exact hpr4) (hT4.mono fun l cs z => z.out hd4 (fun xs z => by cases z) (fun xs z => by cases z))⟩
      by_cases n : b = d
      · rw [n, upd_same, ← hd, n.symm]
        exact e
      · rw [upd_ne n]
        exact b4 _ _ (s1 _ _ e) n
end
end My
namespace My
open PySem PySem.Spec PyProof.Rows L2
abbrev sUsed : Stmt := top 12
abbrev sFollow : Stmt := top 13
theorem any_pl (cs : List Nat) (c : Nat) : ((cs.map dPl).any fun z => PyData.eqv z (dPl c)) = cs.contains c := by
  rw [List.any_map, List.contains_eq_any_beq]
  congr 1
  funext q
  show PyData.eqv (dPl q) (dPl c) = (c == q)
  rw [eqv_pl, Bool.eq_iff_iff, decide_eq_true_eq, beq_iff_eq]
  exact eq_comm
theorem atI_last {r : List Nat} (h : 1 ≤ r.length) : atI (natsV r) (-1) = some (.int ((lastN r : Nat) : Int)) := by
  have e : ixN (natsV r).length (-1) = some (r.length - 1) := by
    rw [natsV_len]
    unfold ixN
    rw [if_neg (by decide), if_pos (by omega)]
    congr 1
    omega
  unfold atI
  rw [e]
  show (natsV r)[r.length - 1]? = _
  exact natsV_at (getD_at 0 (by omega))
section
variable {P : Program} {w : World} {K : PySem.W.Frag} {mg : Str → Option Value} {base : Heap}
/-! ### used_nodes -/
theorem scUsed : FnScope ["net", "arcs", "node", "head"] ["net", "arcs", "node"] (defScope sUsed) := ⟨rfl, rfl, rfl, by decide +kernel, rfl, by decide +kernel, by decide +kernel⟩
def spUsed (K : PySem.W.Frag) (C : Addr) : Sp := fun vs H Q _ => ∃ (p d : Addr) (v : Nat) (N : NetD) (A : Nat → List Nat), vs = [.ref p, .ref d, .int (v : Int)] ∧ NetAt K C H p N ∧ N.ks.length ≤ 100 ∧ ArcsT H d A (2 * N.ks.length) ∧
  ∀ (H' : Hp) (D : Addr), Same H H' → H D = none → H' D = some (.lst (natsV (usedN N A v))) → Q (.ref D) H'
theorem ok_used {f C fN : Addr} {fd fdN : FuncData} {k : Nat} (F : Fun K "used_nodes" "used_nodes" sUsed f fd) (c : NetC K C) (mN : Meth K C "neighbours" fN) (GN : MethOf P w K mg base 1 ["self", "a"] (spNb K C) fN fdN) :
    FnOk P w K mg base CX0 (k + 2) f fd ["net", "arcs", "node"] (spUsed K C) := by
  refine F.ok scUsed (fun vs H Q E h => ?_) (fun cdv A0 outer s H vs Q E hr h => ?_)
  · obtain ⟨p, d, v, N, A, rfl, _⟩ := h
    rfl
  · obtain ⟨p, d, v, N, A, rfl, hN, hn, hA, q⟩ := h
    have nd := scUsed.nd
    have hu := hu_of hr
    have hr1 : Room 1 _ := hr.mono (by omega)
    have hu65 := u65 hr
    refine ⟨_, pss_one (ps_ret (pe_lc (own := [("head", 3)]) (g := (gName 3)) rfl nd (pi_list (pe_meth (pv 0) c.cl mN GN.ok hr1 GN.b .nil pass0 (pa_cons (pv 2) pa_nil))) (blkOk_by (own := [("head", 3)]) (N := ["net", "arcs", "node", "head"]) (sc := defScope sUsed) (by decide +kernel)) (fun _ _ _ _ _ => pg_name (i := 3) nd rfl (Or.inl rfl)) (fun _ _ _ _ _ => pts_one (pt_cmpR (op_inDK (K := K) hu65) (pe_tup (pa_cons pe_str (pa_cons (pv 2) pa_nil))) (pe_dget hu (pv 1) (pe_tup (pa_cons pe_str (pa_cons (pv 3) pa_nil))) (fun _ _ => rfl)) rfl)) (fun _ _ _ _ _ => (pv 3)))), ?_⟩
    have eN := hN
    obtain ⟨dx, lk, ll, ld, ts, e1, e2, e3, e4, e5⟩ := hN
    refine ⟨_, rfl, p, dx, _, rfl, e1, g6, _, rfl, p, v, N, rfl, eN, by omega, fun H1 l s1 nl hl => ?_⟩
    refine ⟨l, rfl, ⟨_, SqL.of hl⟩, fun D nD => ?_⟩
    have ln : (nbs N v).length ≤ N.ks.length := by
      unfold nbs
      have := List.length_filter_le (adj N v) (List.range N.ks.length)
      rw [List.length_range] at this
      exact this
    refine lc_list (K := K) (a := l) (xs := natsV (nbs N v)) (fun i H' => Same H1 H' ∧ H' D = some (.lst (natsV (((nbs N v).take i).filter fun w => (A (2 * w)).contains (2 * v + 1))))) ⟨same_new nD, upd_same⟩ (fun i H' _ z => SqL.of (z.1 _ _ hl)) ?_ ?_
    · rintro i x H2 hi ⟨s2, hD⟩
      obtain ⟨w0, ew, rfl⟩ := nats_at' hi
      have hw : w0 < N.ks.length := by
        have := List.mem_of_getElem? ew
        unfold nbs at this
        exact List.mem_range.mp (List.mem_filter.mp this).1
      refine ⟨rfl, _, rfl, by show 2 ≤ sizeLine; decide, fun u nu => ?_⟩
      have su := same_new (o := .tup [V.str "out", V.int (v : Int)]) nu
      have hpu : PlAt (upd H2 u (.tup [V.str "out", V.int (v : Int)])) u (2 * v + 1) := by unfold PlAt; rw [plV_odd]; exact upd_same
      generalize (upd H2 u (.tup [V.str "out", V.int (v : Int)])) = H3 at su hpu ⊢
      refine ⟨_, rfl, _, rfl, by show 2 ≤ sizeLine; decide, fun u2 nu2 => ?_⟩
      have su2 := same_new (o := .tup [V.str "in", V.int (w0 : Int)]) nu2
      have hk : (upd H3 u2 (.tup [V.str "in", V.int (w0 : Int)])) u2 = some (.tup ((keyP (2 * w0)).map kV)) := by rw [upd_same, keyP_map, plV_even]
      have hpu' := su2 _ _ hpu
      have s24 := su.trans su2
      generalize (upd H3 u2 (.tup [V.str "in", V.int (w0 : Int)])) = H4 at hk hpu' s24 ⊢
      obtain ⟨kvs, h1, h2⟩ := hA.same ((s1.trans s2).trans s24)
      obtain ⟨l2, h3, as, h4, h5⟩ := h2 (2 * w0) (by omega)
      refine ⟨d, .ref l2, rfl, (by rw [← h3]; exact DGet.t (k := keyP (2 * w0)) h1 hk), dPl (2 * v + 1), (A (2 * w0)).map dPl, dp_pl hpu', .lst (SqL.of h4) (dp_paired dPl (fun _ _ z => dp_pl z) h5), (shp_pl _).shaped, (shp_list (shp_map shp_pl)).shaped, _, rfl, ?_⟩
      rw [any_pl]
      have lf := filt_len' (fun w => (A (2 * w)).contains (2 * v + 1)) (nbs N v) i
      refine ite2 (fun e => ?_) (fun e => ?_)
      · refine ⟨_, rfl, _, s24 _ _ hD, szl (by rw [natsV_len]; omega), same_but (s2.trans s24) nD but_self, ?_⟩
        rw [upd_same, natsV_app, filt_take' (fun w => (A (2 * w)).contains (2 * v + 1)) ew, if_pos e]
      · refine ⟨s2.trans s24, ?_⟩
        rw [filt_take' (fun w => (A (2 * w)).contains (2 * v + 1)) ew, if_neg e, List.append_nil]
        exact s24 _ _ hD
    · rintro H2 ⟨s2, hD⟩
      rw [natsV_len, List.take_length] at hD
      exact q H2 D (s1.trans s2) (s1.free nD) hD
/-! ### follow -/
theorem scFollow : FnScope ["net", "arcs", "start", "last", "path"] ["net", "arcs", "start", "last"] (defScope sFollow) := ⟨rfl, rfl, rfl, by decide +kernel, rfl, by decide +kernel, by decide +kernel⟩
def spFollow (K : PySem.W.Frag) (C : Addr) : Sp := fun vs H Q _ => ∃ (p d st : Addr) (f l x : Nat) (N : NetD) (A : Nat → List Nat) (F : Nat → Nat → Prop), vs = [.ref p, .ref d, .ref st, .int (l : Int)] ∧ NetAt K C H p N ∧ N.ks.length ≤ 100 ∧ ArcsT H d A (2 * N.ks.length) ∧ H st = some (.lst (natsV [f, x])) ∧
  Ends N f l ∧ Res (Arc N f) F A ∧ Two N f l F ∧ F (2 * f + 1) (2 * x) ∧ ∀ (H' : Hp) (D : Addr) (r : List Nat), Same H H' → H D = none → H' D = some (.lst (natsV r)) → Trail f F r → lastN r = l → r.getD 1 0 = x → Q (.ref D) H'
theorem ok_follow {f C fU : Addr} {fd fdU : FuncData} {k : Nat} (F : Fun K "follow" "follow" sFollow f fd) (T : Blt mg) (GU : Callee P w K mg base 2 "used_nodes" ["net", "arcs", "node"] (spUsed K C) fU fdU) :
    FnOk P w K mg base CX0 (k + 3) f fd ["net", "arcs", "start", "last"] (spFollow K C) := by
  refine F.ok scFollow (fun vs H Q E h => ?_) (fun cdv A0 outer s H vs Q E hr h => ?_)
  · obtain ⟨p, d, st, fs, l, x, N, A, Fl, rfl, _⟩ := h
    rfl
  · obtain ⟨p, d, st, fs, l, x, N, A, Fl, rfl, hN, hn, hA, hst, En, hR, Tw, hx, q⟩ := h
    have nd := scFollow.nd
    have hr2 : Room 2 _ := hr.mono (by omega)
    refine ⟨_, pss_cons (ps_set (i := 4) nd rfl (.inl rfl) (pe_callTy call_list_of (by rfl) T.list (by decide +kernel) (pa_cons (pv 2) pa_nil))) <| pss_cons (ps_while PassesOwn.never (pt_cmpR op_ne (pe_ix ix_list (pv 4) (pe_un un_neg pe_int) (fun _ _ => rfl)) (pv 3) (nomark _)) (pss_one (ps_set (i := 4) nd rfl (.inl rfl) (pe_op op_cat (pv 4) (pe_call GU.ok hr2 (by rfl) GU.mg GU.kp GU.b .nil pass0 (pa_cons (pv 0) (pa_cons (pv 1) (pa_cons (pe_ix ix_list (pv 4) (pe_un un_neg pe_int) (fun _ _ => rfl)) pa_nil)))))))) <| pss_one (ps_ret (pv 4)), ?_⟩
    refine ⟨_, rfl, st, _, rfl, .inl (SqL.of hst), fun pt npt => ?_⟩
    have s1 := same_new (o := .lst (natsV [fs, x])) npt
    have hp1 : (upd H pt (.lst (natsV [fs, x]))) pt = some (.lst (natsV [fs, x])) := upd_same
    generalize (upd H pt (.lst (natsV [fs, x]))) = H1 at s1 hp1 ⊢
    have tr0 : Trail fs Fl [fs, x] := Trail.start hx
    refine ⟨fun m σ H' => ∃ (r : List Nat) (pt : Addr), m = N.ks.length - r.length ∧ σ = [some (.ref p), some (.ref d), some (.ref st), some (.int (l : Int)), some (.ref pt)] ∧ Same H H' ∧ H pt = none ∧ H' pt = some (.lst (natsV r)) ∧ Trail fs Fl r ∧ r.getD 1 0 = x,
      ⟨_, [fs, x], pt, rfl, rfl, s1, npt, hp1, tr0, rfl⟩, ?_⟩
    rintro m σ H2 ⟨r, pt, rfl, rfl, s2, npt, hpt, tr, hr1'⟩
    have two := tr.two
    have lr : r.length ≤ N.ks.length := nodup_lt _ r (tr.nodup Tw En) (tr.lt Tw En)
    refine ⟨_, rfl, _, rfl, pt, _, _, _, rfl, rfl, SqL.of hpt, atI_last (by omega), _, rfl, rfl, _, rfl, ?_⟩
    rw [dec_nat]
    refine ite2 (fun e => ?_) (fun e => ?_)
    · have e : lastN r ≠ l := by simpa using e
      refine ⟨fun σ H' => ∃ (r' : List Nat) (pt : Addr), r'.length = r.length + 1 ∧ σ = [some (.ref p), some (.ref d), some (.ref st), some (.int (l : Int)), some (.ref pt)] ∧ Same H H' ∧ H pt = none ∧ H' pt = some (.lst (natsV r')) ∧ Trail fs Fl r' ∧ r'.getD 1 0 = x,
        fun σ' H' ⟨r', pt, z0, z1, z2, z3, z4, z5, z6⟩ => ⟨N.ks.length - r'.length, ?_, r', pt, rfl, z1, z2, z3, z4, z5, z6⟩, ?_⟩
      · have := nodup_lt _ r' (z5.nodup Tw En) (z5.lt Tw En)
        omega
      · have hin : Fl (2 * r.getD (r.length - 2) 0 + 1) (2 * lastN r) := by
          have := tr.ch (r.length - 2) (by omega)
          rw [show r.length - 2 + 1 = r.length - 1 by omega] at this
          exact this
        obtain ⟨y, hy⟩ := used_one En hR Tw hin e
        have hFy : Fl (2 * lastN r + 1) (2 * y) := (used_mem En.d hR).mp (by rw [hy]; exact List.mem_singleton.mpr rfl)
        refine ⟨_, rfl, _, rfl, _, rfl, _, rfl, _, rfl, pt, _, _, _, rfl, rfl, SqL.of hpt, atI_last (by omega), p, d, lastN r, N, A, rfl, hN.same s2, hn, hA.same s2, fun H3 D s3 nD hD => ?_⟩
        rw [hy] at hD
        refine ⟨pt, D, _, _, rfl, rfl, s3 _ _ hpt, hD, sz (by rw [natsV_len, natsV_len]; show r.length + 1 ≤ 100000; omega), fun z nz => ?_⟩
        have sz' := same_new (o := .lst (natsV r ++ natsV [y])) nz
        refine ⟨r ++ [y], z, by rw [List.length_append]; rfl, rfl, (s2.trans s3).trans sz', (s2.trans s3).free nz, ?_, tr.ext hFy, by rw [app_l (by omega)]; exact hr1'⟩
        rw [upd_same]
        show some (HO.lst (natsV r ++ [V.int (y : Int)])) = _
        rw [natsV_app]
    · have e : lastN r = l := by simpa using e
      exact ⟨_, rfl, q H2 pt r s2 npt hpt tr e hr1'⟩
end
end My
namespace My
open PySem PySem.Spec PyProof.Rows L2
abbrev sSepa : Stmt := top 6
inductive Stage (N : NetD) (f l : Nat) : Nat → (Nat → List Nat) → Prop
  | z : Stage N f l 0 (arcs0 N f)
  | s {i : Nat} {A : Nat → List Nat} {W : List Nat} : Stage N f l i A → Way A (2 * f + 1) (2 * l) W → Stage N f l (i + 1) (turnA A W)
theorem Stage.bd {N : NetD} {f l i : Nat} {A : Nat → List Nat} (hf : f < N.ks.length) (h : Stage N f l i A) : (∀ p, p < 2 * N.ks.length → ∀ h ∈ A p, h < 2 * N.ks.length) ∧ ∀ c, (A c).length ≤ 2 * N.ks.length * (i + 1) := by
  induction h with
  | z =>
    refine ⟨fun p hp h hh => arc_bd hh hp, fun c => ?_⟩
    unfold arcs0
    split
    · show 1 ≤ _
      omega
    · rw [List.length_map]
      unfold arcsOf nbs
      have := List.length_filter_le (adj N (c / 2)) (List.range N.ks.length)
      rw [List.length_range] at this
      split
      · omega
      · exact Nat.zero_le _
  | @s i A W h w ih =>
    have bW := w.bd (by omega : 2 * f + 1 < 2 * N.ks.length) ih.1
    have lW := nodup_lt _ W w.nd bW
    refine ⟨turn_bd ih.1 bW, fun c => ?_⟩
    unfold turnA
    have h1 := List.length_filter_le (fun h => !(portsOf W).contains (c, h)) (A c)
    have h2 := List.length_filter_le (fun q : Nat × Nat => q.2 == c) (portsOf W)
    have h3 := ports_len' W
    have h4 := ih.2 c
    rw [List.length_append, List.length_map, Nat.mul_add, Nat.mul_one]
    omega
section
variable {P : Program} {w : World} {K : PySem.W.Frag} {mg : Str → Option Value} {base : Heap}
/-! ### separate_paths -/
theorem scSepa : FnScope ["net", "first", "last", "arcs", "_", "way", "left", "right"] ["net", "first", "last"] (defScope sSepa) := ⟨rfl, rfl, rfl, by decide +kernel, rfl, by decide +kernel, by decide +kernel⟩
def spSepa (K : PySem.W.Frag) (C : Addr) : Sp := fun vs H Q _ => ∃ (p : Addr) (f l : Nat) (N : NetD), vs = [.ref p, .int (f : Int), .int (l : Int)] ∧ NetAt K C H p N ∧ Ends N f l ∧ N.ks.length ≤ 20 ∧
  (∀ H' : Hp, Same H H' → ((∀ W, ¬ Way (arcs0 N f) (2 * f + 1) (2 * l) W) ∨ ∃ W, Way (arcs0 N f) (2 * f + 1) (2 * l) W ∧ ∀ V, ¬ Way (turnA (arcs0 N f) W) (2 * f + 1) (2 * l) V) → Q .non H') ∧
  ∀ (H' : Hp) (t a b : Addr) (r s : List Nat), Same H H' → H' t = some (.tup [.ref a, .ref b]) → H' a = some (.lst (natsV r)) → H' b = some (.lst (natsV s)) → Path N f l r → Path N f l s → (∀ x, x ∈ inner r → x ∉ inner s) → (2 < r.length ∨ 2 < s.length) → Q (.ref t) H'
theorem ok_sepa {f C fSp fW fT fU fF : Addr} {fd fdSp fdW fdT fdU fdF : FuncData} {k : Nat} (F : Fun K "separate_paths" "separate_paths" sSepa f fd) (T : Blt mg) (GSp : Callee P w K mg base 3 "split_nodes" ["net", "first"] (spSplit K C) fSp fdSp)
    (GW : Callee P w K mg base 1 "find_way" ["arcs", "start", "goal"] spWayT fW fdW) (GT : Callee P w K mg base 2 "turn_around" ["arcs", "way"] spTurn fT fdT) (GU : Callee P w K mg base 2 "used_nodes" ["net", "arcs", "node"] (spUsed K C) fU fdU) (GF : Callee P w K mg base 3 "follow" ["net", "arcs", "start", "last"] (spFollow K C) fF fdF) :
    FnOk P w K mg base CX0 (k + 4) f fd ["net", "first", "last"] (spSepa K C) := by
  refine F.ok scSepa (fun vs H Q E h => ?_) (fun cdv A0 outer s0 H vs Q E hr h => ?_)
  · obtain ⟨p, fs, l, N, rfl, _⟩ := h
    rfl
  · obtain ⟨p, fs, l, N, rfl, hN, En, hn, qn, qs⟩ := h
    have nd := scSepa.nd
    have hr1 : Room 1 _ := hr.mono (by omega)
    have hr2 : Room 2 _ := hr.mono (by omega)
    have hr3 : Room 3 _ := hr.mono (by omega)
    refine ⟨_, pss_cons (ps_set (i := 3) nd rfl (.inl rfl) (pe_call GSp.ok hr3 (by rfl) GSp.mg GSp.kp GSp.b .nil pass0 (pa_cons (pv 0) (pa_cons (pv 1) pa_nil)))) <| pss_cons (ps_for PassesOwn.never rfl (pi_range1 (by rfl) T.range (pa_cons pe_int pa_nil)) (pg_name (i := 4) nd rfl (.inl rfl)) (pss_cons (ps_set (i := 5) nd rfl (.inl rfl) (pe_call GW.ok hr1 (by rfl) GW.mg GW.kp GW.b .nil pass0 (pa_cons (pv 3) (pa_cons (pe_tup (pa_cons pe_str (pa_cons (pv 1) pa_nil))) (pa_cons (pe_tup (pa_cons pe_str (pa_cons (pv 2) pa_nil))) pa_nil))))) <| pss_cons (ps_if (pt_cmpR op_isN (pv 5) pe_non (nomark _)) (pss_one (ps_ret pe_non)) (pss_nil)) <| pss_one (ps_set (i := 3) nd rfl (.inl rfl) (pe_call GT.ok hr2 (by rfl) GT.mg GT.kp GT.b .nil pass0 (pa_cons (pv 3) (pa_cons (pv 5) pa_nil)))))) <| pss_cons (ps_asg (pe_call GU.ok hr2 (by rfl) GU.mg GU.kp GU.b .nil pass0 (pa_cons (pv 0) (pa_cons (pv 3) (pa_cons (pv 1) pa_nil)))) (pg_lst rfl (pgs_cons (pg_name (i := 6) nd rfl (.inl rfl)) (pgs_cons (pg_name (i := 7) nd rfl (.inl rfl)) pgs_nil)))) <| pss_one (ps_ret (pe_tup (pa_cons (pe_call GF.ok hr3 (by rfl) GF.mg GF.kp GF.b .nil pass0 (pa_cons (pv 0) (pa_cons (pv 3) (pa_cons (pe_lst (pa_cons (pv 1) (pa_cons (pv 6) pa_nil))) (pa_cons (pv 2) pa_nil))))) (pa_cons (pe_call GF.ok hr3 (by rfl) GF.mg GF.kp GF.b .nil pass0 (pa_cons (pv 0) (pa_cons (pv 3) (pa_cons (pe_lst (pa_cons (pv 1) (pa_cons (pv 7) pa_nil))) (pa_cons (pv 2) pa_nil))))) pa_nil)))), ?_⟩
    have sl : 2 * fs + 1 < 2 * N.ks.length := by have := En.fl; omega
    refine ⟨_, rfl, _, rfl, p, fs, N, rfl, hN, by omega, fun H1 d kvs s1 nD hD hE => ?_⟩
    refine ⟨_, rfl, by omega, by omega, for_range (n := (2 : Int).toNat) (fun i σ H' => ∃ (d : Addr) (kvs : List (List Key × V)) (A : Nat → List Nat) (v4 v5 : Option V), σ = [some (.ref p), some (.int (fs : Int)), some (.int (l : Int)), some (.ref d), v4, v5, none, none] ∧
      Same H H' ∧ H' d = some (.dT kvs) ∧ EntT H' kvs A (2 * N.ks.length) ∧ Stage N fs l i A) ⟨d, kvs, arcs0 N fs, none, none, rfl, s1, hD, hE, .z⟩ ?_ ?_⟩
    · rintro i σ H2 hi ⟨d, kvs, A, v4, v5, rfl, s2, hD, hE, hS⟩
      have hi : i < 2 := hi
      obtain ⟨bA, lA⟩ := hS.bd En.fl
      -- way
      refine ⟨_, rfl, _, rfl, by show 2 ≤ sizeLine; decide, fun t1 nt1 => ?_⟩
      have st1 := same_new (o := .tup [V.str "out", V.int (fs : Int)]) nt1
      have hp1 : PlAt (upd H2 t1 (.tup [V.str "out", V.int (fs : Int)])) t1 (2 * fs + 1) := by unfold PlAt; rw [plV_odd]; exact upd_same
      generalize (upd H2 t1 (.tup [V.str "out", V.int (fs : Int)])) = H3 at st1 hp1 ⊢
      refine ⟨_, rfl, by show 2 ≤ sizeLine; decide, fun t2 nt2 => ?_⟩
      have st2 := same_new (o := .tup [V.str "in", V.int (l : Int)]) nt2
      have hp2 : PlAt (upd H3 t2 (.tup [V.str "in", V.int (l : Int)])) t2 (2 * l) := by unfold PlAt; rw [plV_even]; exact upd_same
      have hp1' := st2 _ _ hp1
      have s24 := st1.trans st2
      generalize (upd H3 t2 (.tup [V.str "in", V.int (l : Int)])) = H4 at hp2 hp1' s24 ⊢
      have done := lev_done (A := A) sl bA
      refine ⟨d, t1, t2, 2 * fs + 1, 2 * l, 2 * N.ks.length, 2 * N.ks.length, A, rfl, hp1', hp2, (hE.same s24).arcs (s24 _ _ hD), by omega, sl, bA, by omega, done, fun H5 v s5 hv => ?_⟩
      have s25 := s24.trans s5
      cases hw : (lev A (2 * fs + 1) (2 * N.ks.length)).1 (2 * l) with
      | none =>
        rw [hw] at hv
        have hv : v = .non := hv
        subst hv
        have no := lev_none done hw
        refine ⟨_, rfl, rfl, _, rfl, ?_⟩
        rw [decide_eq_true rfl]
        refine ite2 (fun _ => ?_) (fun e => absurd rfl e)
        refine qn H5 (s2.trans s25) ?_
        cases hS with
        | z => exact .inl no
        | @s j A' W hS' w' =>
          cases hS' with
          | z => exact .inr ⟨W, w', no⟩
          | s _ _ => omega
      | some W =>
        rw [hw] at hv
        obtain ⟨wl, rfl, _, hL⟩ := hv
        have hWay := lev_way hw
        refine ⟨_, rfl, rfl, _, rfl, ?_⟩
        rw [decide_eq_false (by simp)]
        refine ite2 (fun e => by cases e) (fun _ => ?_)
        have lW := nodup_lt _ W hWay.nd (hWay.bd sl bA)
        refine ⟨_, rfl, _, rfl, d, wl, kvs, A, 2 * N.ks.length, W, rfl, s25 _ _ hD, hE.same s25, hL, by omega, by omega, fun c _ => ?_, fun H6 D kv2 s6 nD6 hD6 hE6 => ?_⟩
        · have h1 := lA c
          have h2 : 2 * N.ks.length * (i + 1) ≤ 40 * 2 := Nat.mul_le_mul (by omega) (by omega)
          omega
        · exact ⟨D, kv2, _, _, _, rfl, (s2.trans s25).trans s6, hD6, hE6, .s hS hWay⟩
    · rintro σ H2 ⟨d, kvs, A, v4, v5, rfl, s2, hD, hE, hS⟩
      have hS : Stage N fs l 2 A := hS
      cases hS with
      | @s j A1 W2 hS' hV =>
        cases hS' with
        | @s j' A2 W hS'' hW =>
          cases hS'' with
          | z =>
            obtain ⟨Tw, hR⟩ := two_of En hW hV
            obtain ⟨x, y, hxy, nxy⟩ := used_first En hR Tw
            have hA := hE.arcs hD
            refine ⟨_, rfl, _, rfl, _, rfl, p, d, fs, N, _, rfl, hN.same s2, by omega, hA, fun H3 D s3 nD hD3 => ?_⟩
            rw [hxy] at hD3
            refine ⟨D, _, rfl, SqL.of hD3, rfl, _, _, rfl, _, _, rfl, rfl, ?_⟩
            have hFx := (used_mem En.d hR (v := fs) (w := x)).mp (by rw [hxy]; exact List.mem_cons_self)
            have hFy := (used_mem En.d hR (v := fs) (w := y)).mp (by rw [hxy]; exact List.mem_cons_of_mem _ (List.mem_singleton.mpr rfl))
            refine ⟨_, rfl, _, rfl, _, rfl, _, rfl, by show 2 ≤ sizeLine; decide, fun u1 nu1 => ?_⟩
            have su1 := same_new (o := .lst [V.int (fs : Int), V.int (x : Int)]) nu1
            have hu1 : (upd H3 u1 (.lst [V.int (fs : Int), V.int (x : Int)])) u1 = some (.lst (natsV [fs, x])) := upd_same
            generalize (upd H3 u1 (.lst [V.int (fs : Int), V.int (x : Int)])) = H4 at su1 hu1 ⊢
            have z4 := s3.trans su1
            refine ⟨_, rfl, p, d, u1, fs, l, x, N, _, _, rfl, hN.same (s2.trans z4), by omega, hA.same z4, hu1, En, hR, Tw, hFx, fun H5 a r s5 na ha tr lr r1 => ?_⟩
            have z5 := z4.trans s5
            refine ⟨_, rfl, _, rfl, _, rfl, _, rfl, by show 2 ≤ sizeLine; decide, fun u2 nu2 => ?_⟩
            have su2 := same_new (o := .lst [V.int (fs : Int), V.int (y : Int)]) nu2
            have hu2 : (upd H5 u2 (.lst [V.int (fs : Int), V.int (y : Int)])) u2 = some (.lst (natsV [fs, y])) := upd_same
            have ha6 := su2 _ _ ha
            have z6 := z5.trans su2
            generalize (upd H5 u2 (.lst [V.int (fs : Int), V.int (y : Int)])) = H6 at su2 hu2 ha6 z6 ⊢
            refine ⟨_, rfl, p, d, u2, fs, l, y, N, _, _, rfl, hN.same (s2.trans z6), by omega, hA.same z6, hu2, En, hR, Tw, hFy, fun H7 b s s7 nb hb tr' ls s1' => ?_⟩
            refine ⟨by show 2 ≤ sizeLine; decide, fun t nt => ?_⟩
            have st := same_new (o := .tup [V.ref a, V.ref b]) nt
            have ne : r.getD 1 0 ≠ s.getD 1 0 := by rw [r1, s1']; exact nxy
            refine qs _ t a b r s (((s2.trans z6).trans s7).trans st) upd_same (st _ _ (s7 _ _ ha6)) (st _ _ hb) ⟨tr.is_path Tw En lr, tr.fst, lr, tr.lt Tw En⟩ ⟨tr'.is_path Tw En ls, tr'.fst, ls, tr'.lt Tw En⟩ (fun z h1 h2 => ?_) ?_
            · obtain ⟨i, i0, i1, ei⟩ := mem_inner.mp h1
              obtain ⟨j, j0, j1, ej⟩ := mem_inner.mp h2
              exact trail_sep Tw En tr tr' ne i j i0 j0 i1 (by omega) (by rw [ei, ej])
            · have h1 := tr.two
              have h2 := tr'.two
              by_cases e : 2 < r.length ∨ 2 < s.length
              · exact e
              · refine absurd ?_ ne
                unfold lastN at lr ls
                rw [show r.length - 1 = 1 by omega] at lr
                rw [show s.length - 1 = 1 by omega] at ls
                rw [lr, ls]
end
end My
namespace My
open PySem PySem.Spec PyProof.Rows L2
abbrev sWoN : Stmt := top 14
abbrev sWoL : Stmt := top 15
section
variable {X : Cx} {K : PySem.W.Frag}
theorem op_notInK (hK : X.K = K := by rfl) : OpR X (compareOp .NotIn) (rIn K true) := by
  subst hK
  exact op_notIn_seq
theorem sl_tupK (hK : X.K = K := by rfl) : SlR X (rSlT K) := by
  subst hK
  exact sl_tup
end
theorem net0 {K : PySem.W.Frag} {f : Addr} {fd : FuncData} (F : FunInit K f fd) : ∃ ds, Vals [V.int 0, V.int 0] ds ∧ Binds K fd ["self", "kinds", "lines", "processing", "error"] ds :=
  F.binds0 (ps := ["self", "kinds", "lines", "processing", "error"]) 3 (by simp) rfl (fun D doc pm an cdv ct us ks h1 h2 => match us, ks, h1, h2 with
    | [_, _, _], [_, _], _, _ => ⟨_, _, _, _, _, _, rfl, rfl, _, _, _, _, _, _, rfl, rfl, rfl⟩)
theorem same_lst {K : PySem.W.Frag} {H H' : Hp} {a : Addr} {xs : List V} (e : Same H H') (h : SqL K H a xs) : SqL K H' a xs := by
  rcases h with (h | ⟨o, h⟩) | h
  · exact .inl (.inl (e _ _ h))
  · exact .inl (.inr ⟨o, e _ _ h⟩)
  · exact .inr h
theorem mk_net {K : PySem.W.Frag} {C : Addr} {H : Hp} {R : VK} {x dx pk pl : Addr} {ts : List Addr} {N : NetD} {ws : List V} (nx : H x = none) (ndx : H dx = none) (ne : dx ≠ x) (hk : SqL K H pk (N.ks.map kindV)) (hl : SqL K H pl (ts.map V.ref)) (ht : LinesAt K H ts N.ls) (few : N.ls.length ≤ 1000)
    (q : ∀ H' : Hp, Same H H' → NetAt K C H' x N → R .non H') (e : ws = [.ref x, .ref pk, .ref pl, .int N.pr, .int N.er] := by rfl) : spInit K C ws (upd (upd H dx (.own x)) x (.ins C dx [])) R E0 := by
  subst e
  have z : ∀ b o, H b = some o → b ≠ x ∧ (upd (upd H dx (.own x)) x (.ins C dx [])) b = some o := fun b o e => by
    have h1 := ne_of_none e nx
    exact ⟨h1, by rw [upd_ne h1, upd_ne (ne_of_none e ndx)]; exact e⟩
  have zs : Same H (upd (upd H dx (.own x)) x (.ins C dx [])) := fun b o e => (z b o e).2
  refine ⟨x, dx, pk, pl, ts, N, rfl, upd_same, same_lst zs hk, same_lst zs hl, LinesAt.mono ht fun a ys t => same_tup zs t, few, fun H' kb' hN => q H' (fun b o e => ?_) hN.at⟩
  obtain ⟨z1, z2⟩ := z b o e
  exact kb' b o z2 z1
theorem or_read2 {t u : TT} {σ : L2.St} {H : Hp} {Q : Bool → Hp → Prop} {a b : Bool} (ht : ∀ Q : Bool → Hp → Prop, (∀ H1, Same H H1 → Q a H1) → t σ H Q) (hu : ∀ H1, Same H H1 → ∀ Q : Bool → Hp → Prop, (∀ H2, Same H1 H2 → Q b H2) → u σ H1 Q) (h : ∀ H1, Same H H1 → Q (a || b) H1) : tOr t u σ H Q := by
  refine ht _ fun H1 s1 => ?_
  cases a with
  | true => exact h H1 s1
  | false => exact hu H1 s1 _ fun H2 s2 => h H2 (s1.trans s2)
theorem line_pred {ls : List (Nat × Nat × Int)} (h : Dist ls) {a b : Nat} (ne : a ≠ b) : (ls.filter fun x => !(decide (x.1 = a) || decide (x.2.1 = a)) || !(decide (x.1 = b) || decide (x.2.1 = b))) = ls.filter fun x => !hits a b x := by
  refine List.filter_congr fun x hx => ?_
  have hn := h.ne x hx
  unfold hits
  rw [Bool.eq_iff_iff]
  simp only [Bool.or_eq_true, Bool.not_eq_true', Bool.or_eq_false_iff, Bool.and_eq_false_iff, decide_eq_false_iff_not]
  omega
theorem cut_two (l : Nat × Nat × Int) : cutV (lineV l) none (some 2) = [V.int (l.1 : Int), V.int (l.2.1 : Int)] := by
  unfold cutV lineV
  rfl
theorem not_whole (l : Nat × Nat × Int) : ¬ (HT.sIx (lineV l).length 0 none = 0 ∧ HT.sIx (lineV l).length (lineV l).length (some 2) = (lineV l).length) := fun z => by
  have := z.2
  have e : HT.sIx (lineV l).length (lineV l).length (some 2) = min 2 (lineV l).length := HT.sIx_nat _ _ 2
  rw [e] at this
  have l3 : (lineV l).length = 3 := rfl
  rw [l3] at this
  cases this
theorem in_two (v a b : Nat) : inV (V.int (v : Int)) [V.int (a : Int), V.int (b : Int)] = (decide (a = v) || decide (b = v)) := by
  have := natsV_in [a, b] v
  show inV (V.int (v : Int)) (natsV [a, b]) = _
  rw [this, Bool.eq_iff_iff, List.contains_iff_mem, Bool.or_eq_true, decide_eq_true_eq, decide_eq_true_eq]
  constructor
  · intro h
    rcases List.mem_cons.mp h with e | h
    · exact .inl e.symm
    · exact .inr (List.mem_singleton.mp h).symm
  · rintro (e | e)
    · rw [e]; exact List.mem_cons_self
    · rw [e]; exact List.mem_cons_of_mem _ (List.mem_singleton.mpr rfl)
section
variable {P : Program} {w : World} {K : PySem.W.Frag} {mg : Str → Option Value} {base : Heap}
/-! ### without_node -/
theorem scWoN : FnScope ["net", "node", "line"] ["net", "node"] (defScope sWoN) := ⟨rfl, rfl, rfl, by decide +kernel, rfl, by decide +kernel, by decide +kernel⟩
def spWoN (K : PySem.W.Frag) (C : Addr) : Sp := fun vs H Q _ => ∃ (p : Addr) (v : Nat) (N : NetD), vs = [.ref p, .int (v : Int)] ∧ NetAt K C H p N ∧ N.ls.length ≤ 1000 ∧ ∀ (H' : Hp) (x : Addr), Same H H' → NetAt K C H' x ⟨N.ks, (noNode N v).ls, 0, 0⟩ → Q (.ref x) H'
theorem ok_woN {f C fI : Addr} {fd fdI : FuncData} {k : Nat} (F : Fun K "without_node" "without_node" sWoN f fd) (c : NetC K C) (GI : NetMk P w K mg base C fI fdI) (hB : ∃ ds, Vals [V.int 0, V.int 0] ds ∧ Binds K fdI ["self", "kinds", "lines", "processing", "error"] ds) :
    FnOk P w K mg base CX0 (k + 3) f fd ["net", "node"] (spWoN K C) := by
  refine F.ok scWoN (fun vs H Q E h => ?_) (fun cdv A0 outer s H vs Q E hr h => ?_)
  · obtain ⟨p, v, N, rfl, _⟩ := h
    rfl
  · obtain ⟨p, v, N, rfl, hN, hl, q⟩ := h
    have nd := scWoN.nd
    have hr2 : Room 2 _ := hr.mono (by omega)
    obtain ⟨ds0, hds, hbd⟩ := hB
    refine ⟨_, pss_one (ps_ret (pe_make GI.mkC GI.ok hr2 (by rfl) GI.mg hbd hds pass0 (pa_cons (pe_fld (pv 0) rfl) (pa_cons (pe_lc (own := [("line", 2)]) (g := (gName 2)) rfl nd (pi_list (pe_fld (pv 0) rfl)) (blkOk_by (own := [("line", 2)]) (N := ["net", "node", "line"]) (sc := defScope sWoN) (by decide +kernel)) (fun _ _ _ _ _ => pg_name (i := 2) nd rfl (Or.inl rfl)) (fun _ _ _ _ _ => pts_one (pt_cmpR (op_notInK (K := K)) (pv 1) (pe_slice (sl_tupK (K := K)) (pv 2) po_none (po_some pe_int)) rfl)) (fun _ _ _ _ _ => (pv 2))) pa_nil)))), ?_⟩
    obtain ⟨dx, lk, ll, ld, ts, e1, e2, e3, e4, e5⟩ := hN
    have tlen : ts.length = N.ls.length := e4.length
    refine ⟨_, rfl, p, C, dx, _, _, rfl, e1, c.cl, c.n1, g1, _, rfl, p, C, dx, _, _, rfl, e1, c.cl, c.n2, g2, ll, rfl, ⟨_, SqL.of e3⟩, fun D nD => ?_⟩
    refine lc_list (K := K) (a := ll) (xs := ts.map V.ref) (fun i H' => Same H H' ∧ ∃ us : List Addr, H' D = some (.lst (us.map V.ref)) ∧ LinesAt K H' us ((N.ls.take i).filter fun x => !(decide (x.1 = v) || decide (x.2.1 = v)))) ⟨same_new nD, [], upd_same, .nil⟩ (fun i H' _ z => SqL.of (z.1 _ _ e3)) ?_ ?_
    · rintro i x H1 hi ⟨s1, us, hD, hU⟩
      rw [List.getElem?_map] at hi
      cases ht : ts[i]? with
      | none => rw [ht] at hi; cases hi
      | some t =>
        rw [ht] at hi
        cases hi
        obtain ⟨z, ez, hT⟩ := Paired.at e4 ht
        refine ⟨rfl, _, rfl, _, rfl, _, rfl, t, lineV z, rfl, same_tup s1 hT, not_whole z, fun u nu => ?_⟩
        have su := same_new (o := .tup (cutV (lineV z) none (some 2))) nu
        have hu' : (upd H1 u (.tup (cutV (lineV z) none (some 2)))) u = some (.tup [V.int (z.1 : Int), V.int (z.2.1 : Int)]) := by rw [upd_same, cut_two]
        have s2 := s1.trans su
        have hD' := su _ _ hD
        have hU' := LinesAt.mono hU fun a ys y => same_tup su y
        generalize (upd H1 u (.tup (cutV (lineV z) none (some 2)))) = H2 at su hu' s2 hD' hU' ⊢
        refine ⟨u, _, rfl, .inr (SqT.of hu'), rfl, rfl, _, rfl, ?_⟩
        show (if (!inV (V.int (v : Int)) [V.int (z.1 : Int), V.int (z.2.1 : Int)]) = true then _ else _)
        rw [in_two]
        have lu : us.length = ((N.ls.take i).filter fun x => !(decide (x.1 = v) || decide (x.2.1 = v))).length := hU.length
        have lf := filt_len' (fun x : Nat × Nat × Int => !(decide (x.1 = v) || decide (x.2.1 = v))) N.ls i
        refine ite2 (fun e => ?_) (fun e => ?_)
        · refine ⟨_, rfl, _, hD', szl (by rw [List.length_map]; omega), same_but s2 nD but_self, us ++ [t], ?_, ?_⟩
          · rw [upd_same, List.map_append]
            rfl
          · rw [filt_take' (fun x : Nat × Nat × Int => !(decide (x.1 = v) || decide (x.2.1 = v))) ez, if_pos e]
            have kb2 : But D H2 (upd H2 D (.lst (us.map V.ref ++ [V.ref t]))) := but_self
            exact LinesAt.snoc (LinesAt.mono hU' fun a b y => kb2.tupL hD' y) (kb2.tupL hD' (same_tup s2 hT))
        · refine ⟨s2, us, hD', ?_⟩
          rw [filt_take' (fun x : Nat × Nat × Int => !(decide (x.1 = v) || decide (x.2.1 = v))) ez, if_neg e, List.append_nil]
          exact hU'
    rintro H1 ⟨s1, us, hD, hU⟩
    rw [List.length_map, tlen, List.take_length] at hU
    refine fun x dy nx ndx ne => ?_
    have lf := List.length_filter_le (fun x : Nat × Nat × Int => !(decide (x.1 = v) || decide (x.2.1 = v))) N.ls
    exact mk_net (N := ⟨N.ks, (noNode N v).ls, 0, 0⟩) (ts := us) nx ndx ne (SqL.of (s1 _ _ e2)) (SqL.of hD) hU (by show (N.ls.filter _).length ≤ 1000; omega) fun H2 s2 hM => ⟨rfl, q H2 x (s1.trans s2) hM⟩
/-! ### without_line -/
theorem scWoL : FnScope ["net", "a", "b", "line"] ["net", "a", "b"] (defScope sWoL) := ⟨rfl, rfl, rfl, by decide +kernel, rfl, by decide +kernel, by decide +kernel⟩
def spWoL (K : PySem.W.Frag) (C : Addr) : Sp := fun vs H Q _ => ∃ (p : Addr) (a b : Nat) (N : NetD), vs = [.ref p, .int (a : Int), .int (b : Int)] ∧ NetAt K C H p N ∧ Dist N.ls ∧ a ≠ b ∧ N.ls.length ≤ 1000 ∧ ∀ (H' : Hp) (x : Addr), Same H H' → NetAt K C H' x ⟨N.ks, (noLine N a b).ls, 0, 0⟩ → Q (.ref x) H'
theorem ok_woL {f C fI : Addr} {fd fdI : FuncData} {k : Nat} (F : Fun K "without_line" "without_line" sWoL f fd) (c : NetC K C) (GI : NetMk P w K mg base C fI fdI) (hB : ∃ ds, Vals [V.int 0, V.int 0] ds ∧ Binds K fdI ["self", "kinds", "lines", "processing", "error"] ds) :
    FnOk P w K mg base CX0 (k + 3) f fd ["net", "a", "b"] (spWoL K C) := by
  refine F.ok scWoL (fun vs H Q E h => ?_) (fun cdv A0 outer s H vs Q E hr h => ?_)
  · obtain ⟨p, a, b, N, rfl, _⟩ := h
    rfl
  · obtain ⟨p, a, b, N, rfl, hN, hD0, nab, hl, q⟩ := h
    have nd := scWoL.nd
    have hr2 : Room 2 _ := hr.mono (by omega)
    obtain ⟨ds0, hds, hbd⟩ := hB
    refine ⟨_, pss_one (ps_ret (pe_make GI.mkC GI.ok hr2 (by rfl) GI.mg hbd hds pass0 (pa_cons (pe_fld (pv 0) rfl) (pa_cons (pe_lc (own := [("line", 3)]) (g := (gName 3)) rfl nd (pi_list (pe_fld (pv 0) rfl)) (blkOk_by (own := [("line", 3)]) (N := ["net", "a", "b", "line"]) (sc := defScope sWoL) (by decide +kernel)) (fun _ _ _ _ _ => pg_name (i := 3) nd rfl (Or.inl rfl)) (fun _ _ _ _ _ => pts_one (PW.pt (pw_or (pt_cmpR (op_notInK (K := K)) (pv 1) (pe_slice (sl_tupK (K := K)) (pv 3) po_none (po_some pe_int)) rfl) (pw_or1 (pt_cmpR (op_notInK (K := K)) (pv 2) (pe_slice (sl_tupK (K := K)) (pv 3) po_none (po_some pe_int)) rfl))))) (fun _ _ _ _ _ => (pv 3))) pa_nil)))), ?_⟩
    obtain ⟨dx, lk, ll, ld, ts, e1, e2, e3, e4, e5⟩ := hN
    have tlen : ts.length = N.ls.length := e4.length
    refine ⟨_, rfl, p, C, dx, _, _, rfl, e1, c.cl, c.n1, g1, _, rfl, p, C, dx, _, _, rfl, e1, c.cl, c.n2, g2, ll, rfl, ⟨_, SqL.of e3⟩, fun D nD => ?_⟩
    refine lc_list (K := K) (a := ll) (xs := ts.map V.ref) (fun i H' => Same H H' ∧ ∃ us : List Addr, H' D = some (.lst (us.map V.ref)) ∧ LinesAt K H' us ((N.ls.take i).filter fun x => !(decide (x.1 = a) || decide (x.2.1 = a)) || !(decide (x.1 = b) || decide (x.2.1 = b)))) ⟨same_new nD, [], upd_same, .nil⟩ (fun i H' _ z => SqL.of (z.1 _ _ e3)) ?_ ?_
    · rintro i x H1 hi ⟨s1, us, hD, hU⟩
      rw [List.getElem?_map] at hi
      cases ht : ts[i]? with
      | none => rw [ht] at hi; cases hi
      | some t =>
        rw [ht] at hi
        cases hi
        obtain ⟨z, ez, hT⟩ := Paired.at e4 ht
        have one : ∀ (v : Nat) (H2 : Hp) (Q : Bool → Hp → Prop), Same H H2 → (∀ H3, Same H2 H3 → Q (!(decide (z.1 = v) || decide (z.2.1 = v))) H3) → ∃ (tt : Addr) (xs : List V), V.ref t = V.ref tt ∧ SqT K H2 tt xs ∧ ¬ (HT.sIx xs.length 0 none = 0 ∧ HT.sIx xs.length xs.length (some 2) = xs.length) ∧
            ∀ u, H2 u = none → ∃ p ys, V.ref u = V.ref p ∧ (SqL K (upd H2 u (.tup (cutV xs none (some 2)))) p ys ∨ SqT K (upd H2 u (.tup (cutV xs none (some 2)))) p ys) ∧ flatV (V.int (v : Int)) = true ∧ ys.all flatV = true ∧ ∃ c, V.bl (if true = true then !inV (V.int (v : Int)) ys else inV (V.int (v : Int)) ys) = V.bl c ∧ Q c (upd H2 u (.tup (cutV xs none (some 2)))) := fun v H2 Q s2 h => by
          refine ⟨t, lineV z, rfl, same_tup s2 hT, not_whole z, fun u nu => ?_⟩
          have su := same_new (o := .tup (cutV (lineV z) none (some 2))) nu
          refine ⟨u, [V.int (z.1 : Int), V.int (z.2.1 : Int)], rfl, .inr (SqT.of (by rw [upd_same, cut_two])), rfl, rfl, _, rfl, ?_⟩
          show Q (!inV (V.int (v : Int)) [V.int (z.1 : Int), V.int (z.2.1 : Int)]) _
          rw [in_two]
          exact h _ su
        refine ⟨rfl, ?_⟩
        refine or_read2 (a := !(decide (z.1 = a) || decide (z.2.1 = a))) (b := !(decide (z.1 = b) || decide (z.2.1 = b))) (fun Q h => ?_) (fun H2 s2 Q h => ?_) (fun H2 s2 => ?_)
        · exact ⟨_, rfl, _, rfl, _, rfl, one a H1 Q s1 h⟩
        · exact ⟨_, rfl, _, rfl, _, rfl, one b H2 Q (s1.trans s2) h⟩
        · have hD' := s2 _ _ hD
          have hU' := LinesAt.mono hU fun a ys y => same_tup s2 y
          have s12 := s1.trans s2
          have lu : us.length = ((N.ls.take i).filter fun x => !(decide (x.1 = a) || decide (x.2.1 = a)) || !(decide (x.1 = b) || decide (x.2.1 = b))).length := hU.length
          have lf := filt_len' (fun x : Nat × Nat × Int => !(decide (x.1 = a) || decide (x.2.1 = a)) || !(decide (x.1 = b) || decide (x.2.1 = b))) N.ls i
          refine ite2 (fun e => ?_) (fun e => ?_)
          · refine ⟨_, rfl, _, hD', szl (by rw [List.length_map]; omega), same_but s12 nD but_self, us ++ [t], ?_, ?_⟩
            · rw [upd_same, List.map_append]
              rfl
            · rw [filt_take' (fun x : Nat × Nat × Int => !(decide (x.1 = a) || decide (x.2.1 = a)) || !(decide (x.1 = b) || decide (x.2.1 = b))) ez, if_pos e]
              have kb2 : But D H2 (upd H2 D (.lst (us.map V.ref ++ [V.ref t]))) := but_self
              exact LinesAt.snoc (LinesAt.mono hU' fun a b y => kb2.tupL hD' y) (kb2.tupL hD' (same_tup s12 hT))
          · refine ⟨s12, us, hD', ?_⟩
            rw [filt_take' (fun x : Nat × Nat × Int => !(decide (x.1 = a) || decide (x.2.1 = a)) || !(decide (x.1 = b) || decide (x.2.1 = b))) ez, if_neg e, List.append_nil]
            exact hU'
    rintro H1 ⟨s1, us, hD, hU⟩
    rw [List.length_map, tlen, List.take_length, line_pred hD0 nab] at hU
    refine fun x dy nx ndx ne => ?_
    have lf := List.length_filter_le (fun x : Nat × Nat × Int => !hits a b x) N.ls
    exact mk_net (N := ⟨N.ks, (noLine N a b).ls, 0, 0⟩) (ts := us) nx ndx ne (SqL.of (s1 _ _ e2)) (SqL.of hD) hU (by show (N.ls.filter _).length ≤ 1000; omega) fun H2 s2 hM => ⟨rfl, q H2 x (s1.trans s2) hM⟩
end
end My
namespace My
open PySem PySem.Spec PyProof.Rows L2
abbrev sBott : Stmt := top 7
section
variable {X : Cx} {K : PySem.W.Frag}
theorem cr_min2K (hc : X.calm = true) (hu : X.A.units + 64 < cLine) (hK : X.K = K := by rfl) : CallR X (.builtin "min") (rMin2 K) := by
  subst hK
  exact cr_min2 hc hu
theorem cr_max2K (hc : X.calm = true) (hu : X.A.units + 64 < cLine) (hK : X.K = K := by rfl) : CallR X (.builtin "max") (rMax2 K) := by
  subst hK
  exact cr_max2 hc hu
end
theorem IsP.cast {N M : NetD} {r : List Nat} (h : IsP N r) (e1 : N.ks = M.ks) (e2 : N.ls = M.ls) : IsP M r := by
  obtain ⟨a, b, c, d⟩ := N
  obtain ⟨a', b', c', d'⟩ := M
  cases e1
  cases e2
  exact ⟨h.two, h.nd, h.hs, h.ad⟩
theorem Path.cast {N M : NetD} {f l : Nat} {r : List Nat} (h : Path N f l r) (e1 : N.ks = M.ks) (e2 : N.ls = M.ls) : Path M f l r := ⟨h.is.cast e1 e2, h.fst, h.lst, e1 ▸ h.lt⟩
theorem Dist.filter {ls : List (Nat × Nat × Int)} (h : Dist ls) (p : Nat × Nat × Int → Bool) : Dist (ls.filter p) := ⟨by
  have : ((ls.filter p).map norm).Sublist (ls.map norm) := List.filter_sublist.map norm
  exact this.nodup h.nd, fun l hl => h.ne l (List.mem_filter.mp hl).1⟩
/-- what shortest_path tells -/
theorem short_some {N : NetD} {f l : Nat} {r : List Nat} (E : Ends N f l) (h : (lev (arcsOf N f) f N.ks.length).1 l = some r) : Path N f l r := way_path E (lev_way h)
theorem short_none {N : NetD} {f l : Nat} (E : Ends N f l) (h : (lev (arcsOf N f) f N.ks.length).1 l = none) : ¬ ∃ r, Path N f l r := fun ⟨r, p⟩ =>
  lev_none (lev_done E.fl fun a _ b hb => arcs_lt' b hb) h r (path_way p)
def BottV (H : Hp) (o : Option (Nat ⊕ Nat × Nat)) (v : V) : Prop := match o with
  | none => v = .non
  | some (.inl u) => ∃ t, v = .ref t ∧ H t = some (.tup [.str "switch", .int (u : Int)])
  | some (.inr p) => ∃ t, v = .ref t ∧ H t = some (.tup [.str "line", .int (p.1 : Int), .int (p.2 : Int)])
theorem natsV_ints' (r : List Nat) : natsV r = (r.map fun (n : Nat) => (n : Int)).map V.int := by
  unfold natsV
  rw [List.map_map]
  rfl
theorem natsV_drop' (r : List Nat) (n : Nat) : (natsV r).drop n = natsV (r.drop n) := by
  unfold natsV
  rw [List.map_drop]
theorem natsV_take' (r : List Nat) (n : Nat) : (natsV r).take n = natsV (r.take n) := by
  unfold natsV
  rw [List.map_take]
theorem cut_mid' (r : List Nat) : cutV (natsV r) (some 1) (some (-1)) = natsV (inner r) := by
  unfold cutV inner
  have e1 : HT.sIx (natsV r).length 0 (some 1) = min 1 (natsV r).length := HT.sIx_nat _ _ 1
  have e2 : HT.sIx (natsV r).length (natsV r).length (some (-1)) = (natsV r).length - 1 := by
    show (if (-1 : Int) < 0 then ((-1 : Int) + ((natsV r).length : Int)).toNat else min (-1 : Int).toNat (natsV r).length) = _
    rw [if_pos (by decide)]
    omega
  rw [e1, e2, natsV_len]
  cases r with
  | nil => rfl
  | cons x r =>
    rw [List.length_cons, Nat.min_eq_left (by omega), natsV_drop', natsV_take']
abbrev Tups (H : Hp) (ts : List Addr) (ps : List (Nat × Nat)) : Prop := Paired (fun (t : Addr) (p : Nat × Nat) => H t = some (.tup [.int (p.1 : Int), .int (p.2 : Int)])) ts ps
theorem zip_tups {H : Hp} : ∀ {a b : List Nat} {ts : List Addr}, Paired (fun (t : Addr) (z : V × V) => H t = some (.tup [z.1, z.2])) ts ((natsV a).zip (natsV b)) → Tups H ts (a.zip b)
  | [], _, _, h => by
    cases h
    exact .nil
  | x :: a, [], _, h => by
    cases h
    exact .nil
  | x :: a, y :: b, _, h => by
    cases h with
    | cons r t => exact .cons r (zip_tups t)
theorem Tups.mono {H H' : Hp} {ts : List Addr} {ps : List (Nat × Nat)} (h : Tups H ts ps) (f : ∀ a xs, H a = some (.tup xs) → H' a = some (.tup xs)) : Tups H' ts ps := Paired.imp h fun _ _ z => f _ _ z
theorem Tups.snoc {H : Hp} {ts : List Addr} {ps : List (Nat × Nat)} {t : Addr} {p : Nat × Nat} (h : Tups H ts ps) (e : H t = some (.tup [.int (p.1 : Int), .int (p.2 : Int)])) : Tups H (ts ++ [t]) (ps ++ [p]) := Paired.snoc (F := fun (t : Addr) (p : Nat × Nat) => H t = some (.tup [.int (p.1 : Int), .int (p.2 : Int)])) e h
def mm (p : Nat × Nat) : Nat × Nat := (min p.1 p.2, max p.1 p.2)
def keyOf (H : Hp) (x : V) : Int × Int := match x with
  | .ref t => match H t with
    | some (.tup [.int i, .int j]) => (i, j)
    | _ => (0, 0)
  | _ => (0, 0)
theorem keyOf_eq {H : Hp} {t : Addr} {i j : Int} (h : H t = some (.tup [.int i, .int j])) : keyOf H (.ref t) = (i, j) := by
  unfold keyOf
  simp only [h]
theorem mem_perm_nat {ns : List Int} {r : List Nat} (h : ns.Perm (r.map fun (n : Nat) => (n : Int))) {i : Nat} {x : Int} (hi : ns[i]? = some x) : ∃ n : Nat, x = (n : Int) ∧ n ∈ r := by
  have := h.mem_iff.mp (List.mem_of_getElem? hi)
  obtain ⟨n, hn, e⟩ := List.mem_map.mp this
  exact ⟨n, e.symm, hn⟩
section
variable {P : Program} {w : World} {K : PySem.W.Frag} {mg : Str → Option Value} {base : Heap}
/-! ### bottleneck -/
theorem scBott : FnScope ["net", "first", "last", "path", "node", "a", "b", "port"] ["net", "first", "last"] (defScope sBott) := ⟨rfl, rfl, rfl, by decide +kernel, rfl, by decide +kernel, by decide +kernel⟩
def spBott (K : PySem.W.Frag) (C : Addr) : Sp := fun vs H Q _ => ∃ (p : Addr) (f l : Nat) (N : NetD), vs = [.ref p, .int (f : Int), .int (l : Int)] ∧ NetAt K C H p N ∧ Ends N f l ∧ N.ks.length ≤ 20 ∧ N.ls.length ≤ 900 ∧
  (∀ H' : Hp, Same H H' → (¬ ∃ r, Path N f l r) → Q .non H') ∧ ∀ (H' : Hp) (o : Option (Nat ⊕ Nat × Nat)) (v : V), Same H H' → (∃ r, Path N f l r) → Bott N f l o → BottV H' o v → Q v H'
theorem ok_bott {f C fS fN fL fPo : Addr} {fd fdS fdN fdL fdPo : FuncData} {k : Nat} (F : Fun K "bottleneck" "bottleneck" sBott f fd) (T : Blt mg) (hsorted : mg "sorted" = none) (hmin : mg "min" = none) (hmax : mg "max" = none)
    (GS : Callee P w K mg base 3 "shortest_path" ["net", "first", "last"] (spShort K C) fS fdS) (GWN : Callee P w K mg base 3 "without_node" ["net", "node"] (spWoN K C) fN fdN) (GWL : Callee P w K mg base 3 "without_line" ["net", "a", "b"] (spWoL K C) fL fdL)
    (GPo : Callee P w K mg base 1 "ports_of" ["path"] (spPoV K) fPo fdPo) : FnOk P w K mg base CX0 (k + 4) f fd ["net", "first", "last"] (spBott K C) := by
  refine F.ok scBott (fun vs H Q E h => ?_) (fun cdv A0 outer s0 H vs Q E hr h => ?_)
  · obtain ⟨p, fs, l, N, rfl, _⟩ := h
    rfl
  · obtain ⟨p, fs, l, N, rfl, hN, En, hn, hls, qn, qs⟩ := h
    have nd := scBott.nd
    have hr1 : Room 1 _ := hr.mono (by omega)
    have hr3 : Room 3 _ := hr.mono (by omega)
    have hu64 := hr.units
    refine ⟨_, pss_cons (ps_set (i := 3) nd rfl (.inl rfl) (pe_call GS.ok hr3 (by rfl) GS.mg GS.kp GS.b .nil pass0 (pa_cons (pv 0) (pa_cons (pv 1) (pa_cons (pv 2) pa_nil))))) <| pss_cons (ps_if (pt_cmpR op_isN (pv 3) pe_non (nomark _)) (pss_one (ps_ret pe_non)) (pss_nil)) <| pss_cons (ps_for PassesOwn.never rfl (pi_list (pe_callB cr_sortedI (by rfl) hsorted (by decide +kernel) (pa_cons (pe_slice sl_list (pv 3) (po_some pe_int) (po_some (pe_un un_neg pe_int))) pa_nil))) (pg_name (i := 4) nd rfl (.inl rfl)) (pss_one (ps_if (pt_cmpR op_isN (pe_call GS.ok hr3 (by rfl) GS.mg GS.kp GS.b .nil pass0 (pa_cons (pe_call GWN.ok hr3 (by rfl) GWN.mg GWN.kp GWN.b .nil pass0 (pa_cons (pv 0) (pa_cons (pv 4) pa_nil))) (pa_cons (pv 1) (pa_cons (pv 2) pa_nil)))) pe_non (nomark _)) (pss_one (ps_ret (pe_tup (pa_cons pe_str (pa_cons (pv 4) pa_nil))))) (pss_nil)))) <| pss_cons (ps_for PassesOwn.never rfl (pi_list (pe_callB cr_sortedPO (by rfl) hsorted (by decide +kernel) (pa_cons (pe_lc (own := [("port", 7)]) (g := (gName 7)) (tt := tYes) rfl nd (pi_list (pe_call GPo.ok hr1 (by rfl) GPo.mg GPo.kp GPo.b .nil pass0 (pa_cons (pv 3) pa_nil))) (blkOk_by (own := [("port", 7)]) (N := ["net", "first", "last", "path", "node", "a", "b", "port"]) (sc := defScope sBott) (by decide +kernel)) (fun _ _ _ _ _ => pg_name (i := 7) nd rfl (Or.inl rfl)) (fun _ _ _ _ _ => pts_nil) (fun _ _ _ _ _ => (pe_tup (pa_cons (pe_callB (cr_min2K (K := K) rfl hu64) (by rfl) hmin (by decide +kernel) (pa_cons (pv 7) pa_nil)) (pa_cons (pe_callB (cr_max2K (K := K) rfl hu64) (by rfl) hmax (by decide +kernel) (pa_cons (pv 7) pa_nil)) pa_nil))))) pa_nil))) (pg_tup rfl (pgs_cons (pg_name (i := 5) nd rfl (.inl rfl)) (pgs_cons (pg_name (i := 6) nd rfl (.inl rfl)) pgs_nil))) (pss_one (ps_if (pt_cmpR op_isN (pe_call GS.ok hr3 (by rfl) GS.mg GS.kp GS.b .nil pass0 (pa_cons (pe_call GWL.ok hr3 (by rfl) GWL.mg GWL.kp GWL.b .nil pass0 (pa_cons (pv 0) (pa_cons (pv 5) (pa_cons (pv 6) pa_nil)))) (pa_cons (pv 1) (pa_cons (pv 2) pa_nil)))) pe_non (nomark _)) (pss_one (ps_ret (pe_tup (pa_cons pe_str (pa_cons (pv 5) (pa_cons (pv 6) pa_nil)))))) (pss_nil)))) <| pss_one (ps_ret pe_non), ?_⟩
    have done : ∀ M : NetD, M.ks.length = N.ks.length → (lev (arcsOf M fs) fs N.ks.length).2 = [] := fun M e => lev_done (by exact En.fl) fun a _ b hb => by have := arcs_lt' b hb; omega
    refine ⟨_, rfl, _, rfl, _, rfl, p, fs, l, N.ks.length, N, rfl, hN, by omega, En.fl, by omega, done N rfl, fun H1 v s1 hv => ?_⟩
    cases hw : (lev (arcsOf N fs) fs N.ks.length).1 l with
    | none =>
      rw [hw] at hv
      have hv : v = .non := hv
      subst hv
      refine ⟨_, rfl, rfl, _, rfl, ?_⟩
      rw [decide_eq_true rfl]
      exact ite2 (fun _ => qn H1 s1 (short_none En hw)) (fun e => absurd rfl e)
    | some r =>
      rw [hw] at hv
      obtain ⟨pl, rfl, _, hpl⟩ := hv
      have hP := short_some En hw
      have two := hP.is.two
      have rl : r.length ≤ N.ks.length := nodup_lt _ r hP.is.nd hP.lt
      refine ⟨_, rfl, rfl, _, rfl, ?_⟩
      rw [decide_eq_false (by simp)]
      refine ite2 (fun e => by cases e) (fun _ => ?_)
      -- the nodes
      have En' : ∀ (q : Nat × Nat × Int → Bool), Ends ⟨N.ks, N.ls.filter q, 0, 0⟩ fs l := fun q => ⟨En.d.filter q, En.hf, En.hl, En.ne, En.fl, En.ll⟩
      refine ⟨_, rfl, _, rfl, _, rfl, _, rfl, pl, _, rfl, SqL.of hpl, fun y ny => ?_⟩
      have sy := same_new (o := .lst (cutV (natsV r) (some 1) (some (-1)))) ny
      have hy : (upd H1 y (.lst (cutV (natsV r) (some 1) (some (-1))))) y = some (.lst (((inner r).map fun (n : Nat) => (n : Int)).map V.int)) := by rw [upd_same, cut_mid', natsV_ints']
      generalize (upd H1 y (.lst (cutV (natsV r) (some 1) (some (-1))))) = H2 at sy hy ⊢
      refine ⟨y, _, rfl, SqL.of hy, fun ns' q perm asc nq => ?_⟩
      have sq := same_new (o := .lst (ns'.map V.int)) nq
      have hq : (upd H2 q (.lst (ns'.map V.int))) q = some (.lst (ns'.map V.int)) := upd_same
      have S3 := (s1.trans sy).trans sq
      have hpl3 := sq _ _ (sy _ _ hpl)
      generalize (upd H2 q (.lst (ns'.map V.int))) = H3 at sq hq S3 hpl3 ⊢
      refine ⟨q, rfl, ⟨_, SqL.of hq⟩, for_list (K := K) (a := q) (xs := ns'.map V.int) (fun i σ H' => ∃ v4 : Option V, σ = [some (.ref p), some (.int (fs : Int)), some (.int (l : Int)), some (.ref pl), v4, none, none, none] ∧ Same H3 H' ∧ ∀ k, k < i → ∀ u : Nat, ns'[k]? = some (u : Int) → openN N fs l u)
        ⟨none, rfl, Same.refl H3, fun k hk => absurd hk (Nat.not_lt_zero _)⟩ (fun i σ H' _ ⟨_, _, sm, _⟩ => SqL.of (sm _ _ hq)) ?_ ?_⟩
      · rintro i x σ H4 hi ⟨v4, rfl, s4, hop⟩
        obtain ⟨m, em, rfl⟩ := ints_at hi
        obtain ⟨u, rfl, hu⟩ := mem_perm_nat perm em
        obtain ⟨hur, hus⟩ := hP.is.inner_sw hu
        refine ⟨_, rfl, _, rfl, p, u, N, rfl, hN.same (S3.trans s4), by omega, fun H5 x5 s5 hX => ?_⟩
        refine ⟨_, rfl, _, rfl, x5, fs, l, N.ks.length, _, rfl, hX, by show N.ks.length ≤ 100; omega, En.fl, by omega, done _ rfl, fun H6 v s6 hv => ?_⟩
        have z6 := (s4.trans s5).trans s6
        cases hw2 : (lev (arcsOf ⟨N.ks, (noNode N u).ls, 0, 0⟩ fs) fs N.ks.length).1 l with
        | none =>
          rw [hw2] at hv
          have hv : v = .non := hv
          subst hv
          refine ⟨rfl, _, rfl, ?_⟩
          rw [decide_eq_true rfl]
          refine ite2 (fun _ => ?_) (fun e => absurd rfl e)
          refine ⟨_, rfl, by show 2 ≤ sizeLine; decide, fun t nt => ?_⟩
          have no : ¬ openN N fs l u := fun z => by
            obtain ⟨r2, p2⟩ := path_node.mpr z
            exact short_none (En' _) hw2 ⟨r2, p2.cast rfl rfl⟩
          refine qs _ (some (.inl u)) _ ((S3.trans z6).trans (same_new nt)) ⟨r, hP⟩ (.sw (hP.lt u hur) hus no fun u' hlt hu' => ?_) ⟨t, rfl, upd_same⟩
          by_cases mr : u' ∈ r
          · have hin := hP.is.in_inner mr hu'
            obtain ⟨j, ej⟩ := List.mem_iff_getElem?.mp (perm.mem_iff.mpr (List.mem_map.mpr ⟨u', hin, rfl⟩))
            refine hop j ?_ u' ej
            rcases Nat.lt_or_ge j i with z | z
            · exact z
            · obtain ⟨hj, ej'⟩ := List.getElem?_eq_some_iff.mp ej
              obtain ⟨hi', ei'⟩ := List.getElem?_eq_some_iff.mp em
              have : ns'[i] ≤ ns'[j] := by
                rcases Nat.lt_or_ge i j with y | y
                · exact List.pairwise_iff_getElem.mp asc i j hi' hj y
                · have : i = j := by omega
                  subst this
                  exact Int.le_refl _
              rw [ej', ei'] at this
              omega
          · exact ⟨r, hP, mr⟩
        | some r2 =>
          rw [hw2] at hv
          obtain ⟨l2, rfl, _, _⟩ := hv
          refine ⟨rfl, _, rfl, ?_⟩
          rw [decide_eq_false (by simp)]
          refine ite2 (fun e => by cases e) (fun _ => ?_)
          refine ⟨_, rfl, z6, fun k hk u' hk' => ?_⟩
          by_cases e : k = i
          · subst e
            rw [em] at hk'
            have : u = u' := by
              have := Option.some.inj hk'
              omega
            subst this
            exact path_node.mp ⟨r2, (short_some (En' _) hw2).cast rfl rfl⟩
          · exact hop k (by omega) u' hk'
      rintro σ H4 ⟨v4, rfl, s4, hop⟩
      rw [List.length_map] at hop
      have allN : ∀ u, u < N.ks.length → host N u = false → openN N fs l u := fun u _ hu => by
        by_cases mr : u ∈ r
        · obtain ⟨j, ej⟩ := List.mem_iff_getElem?.mp (perm.mem_iff.mpr (List.mem_map.mpr ⟨u, hP.is.in_inner mr hu, rfl⟩))
          exact hop j (List.getElem?_eq_some_iff.mp ej).1 u ej
        · exact ⟨r, hP, mr⟩
      have S4 := S3.trans s4
      have hpl4 := s4 _ _ hpl3
      clear hop perm asc
      -- the lines
      refine ⟨_, rfl, pl, natsV r, rfl, hpl4, fun H5 tp ts s5 ntp htp hPP => ?_⟩
      rw [natsV_drop'] at hPP
      have hT5 : Tups H5 ts (portsOf r) := zip_tups hPP
      have lts : ts.length = (portsOf r).length := hT5.length
      have lpo := ports_len' r
      refine ⟨tp, rfl, ⟨_, SqL.of htp⟩, fun D nD => ?_⟩
      refine lc_list (K := K) (a := tp) (xs := ts.map V.ref) (fun j H' => Same H5 H' ∧ ∃ us : List Addr, H' D = some (.lst (us.map V.ref)) ∧ Tups H' us (((portsOf r).take j).map mm)) ⟨same_new nD, [], upd_same, .nil⟩ (fun j H' _ z => SqL.of (z.1 _ _ htp)) ?_ ?_
      · rintro j x H6 hj ⟨s6, us, hD6, hU⟩
        rw [List.getElem?_map] at hj
        cases ht : ts[j]? with
        | none => rw [ht] at hj; cases hj
        | some t =>
          rw [ht] at hj
          cases hj
          obtain ⟨z, ez, hz⟩ := Paired.at hT5 ht
          have hz6 := s6 _ _ hz
          have lu : us.length = (((portsOf r).take j).map mm).length := hU.length
          rw [List.length_map, List.length_take] at lu
          refine ⟨rfl, _, rfl, t, _, _, rfl, SqT.of hz6, _, rfl, t, _, _, rfl, SqT.of hz6, by show 2 ≤ sizeLine; decide, fun u nu => ?_⟩
          have e1 : (if (z.2 : Int) < (z.1 : Int) then (z.2 : Int) else (z.1 : Int)) = (((mm z).1 : Nat) : Int) := by
            unfold mm
            show _ = ((min z.1 z.2 : Nat) : Int)
            split <;> omega
          have e2 : (if (z.1 : Int) < (z.2 : Int) then (z.2 : Int) else (z.1 : Int)) = (((mm z).2 : Nat) : Int) := by
            unfold mm
            show _ = ((max z.1 z.2 : Nat) : Int)
            split <;> omega
          rw [e1, e2] at *
          have su := same_new (o := .tup [V.int (((mm z).1 : Nat) : Int), V.int (((mm z).2 : Nat) : Int)]) nu
          have hD' := su _ _ hD6
          refine ⟨_, hD', szl (by rw [List.length_map]; omega), same_but (s6.trans su) nD but_self, us ++ [u], ?_, ?_⟩
          · rw [upd_same, List.map_append]
            rfl
          · rw [take_snoc ez, List.map_append]
            have kt : ∀ a xs, (upd H6 u (.tup [V.int (((mm z).1 : Nat) : Int), V.int (((mm z).2 : Nat) : Int)])) a = some (.tup xs) → (upd (upd H6 u (.tup [V.int (((mm z).1 : Nat) : Int), V.int (((mm z).2 : Nat) : Int)])) D (.lst (us.map V.ref ++ [V.ref u]))) a = some (.tup xs) := fun a xs e => by
              rw [upd_ne (ne_of e hD' (by intro z; cases z))]
              exact e
            exact Tups.snoc ((hU.mono fun a xs e => su _ _ e).mono kt) (kt _ _ upd_same)
      rintro H6 ⟨s6, us, hD6, hU⟩
      rw [List.length_map, lts, List.take_length] at hU
      have lus : us.length = ((portsOf r).map mm).length := hU.length
      have S6 := (S4.trans s5).trans s6
      -- what stands in the list
      have item : ∀ x, x ∈ us.map V.ref → ∃ (t : Addr) (z : Nat × Nat), x = .ref t ∧ z ∈ portsOf r ∧ H6 t = some (.tup [.int (((mm z).1 : Nat) : Int), .int (((mm z).2 : Nat) : Int)]) := fun x hx => by
        obtain ⟨t, ht, rfl⟩ := List.mem_map.mp hx
        obtain ⟨j, ej⟩ := List.mem_iff_getElem?.mp ht
        obtain ⟨m, em, hm⟩ := Paired.at hU ej
        obtain ⟨z, hz, rfl⟩ := List.mem_map.mp (List.mem_of_getElem? em)
        exact ⟨t, z, rfl, hz, hm⟩
      have back : ∀ z, z ∈ portsOf r → ∃ t : Addr, V.ref t ∈ us.map V.ref ∧ H6 t = some (.tup [.int (((mm z).1 : Nat) : Int), .int (((mm z).2 : Nat) : Int)]) := fun z hz => by
        obtain ⟨j, ej⟩ := List.mem_iff_getElem?.mp (List.mem_map.mpr ⟨z, hz, rfl⟩ : mm z ∈ (portsOf r).map mm)
        obtain ⟨hj, _⟩ := List.getElem?_eq_some_iff.mp ej
        obtain ⟨m, em, hm⟩ := Paired.at hU (List.getElem?_eq_getElem (by omega : j < us.length))
        rw [ej] at em
        have em := Option.some.inj em
        subst em
        exact ⟨us[j], List.mem_map.mpr ⟨_, List.getElem_mem _, rfl⟩, hm⟩
      have port : ∀ z, z ∈ portsOf r → z.1 ≠ z.2 ∧ adj N z.1 z.2 = true := fun z hz => by
        obtain ⟨k, hk, rfl⟩ := mem_ports.mp hz
        have ad := hP.is.ad k hk
        refine ⟨fun e => ?_, ad⟩
        have e : r.getD k 0 = r.getD (k + 1) 0 := e
        rw [e, adj_self En.d] at ad
        cases ad
      have sym : ∀ a b, adj N a b = true → adj N b a = true := fun a b h => by
        obtain ⟨x, hx, h⟩ := adj_iff.mp h
        refine adj_iff.mpr ⟨x, hx, ?_⟩
        rcases hits_of h with ⟨e1, e2⟩ | ⟨e1, e2⟩
        · exact hits_mk (.inr ⟨e1, e2⟩)
        · exact hits_mk (.inl ⟨e1, e2⟩)
      have mmL : ∀ z, z ∈ portsOf r → isLine N (mm z) := fun z hz => by
        obtain ⟨z1, z2⟩ := port z hz
        unfold isLine mm
        rcases Nat.lt_or_ge z.1 z.2 with y | y
        · show min z.1 z.2 < max z.1 z.2 ∧ adj N (min z.1 z.2) (max z.1 z.2) = true
          rw [Nat.min_eq_left (by omega), Nat.max_eq_right (by omega)]
          exact ⟨y, z2⟩
        · show min z.1 z.2 < max z.1 z.2 ∧ adj N (min z.1 z.2) (max z.1 z.2) = true
          rw [Nat.min_eq_right (by omega), Nat.max_eq_left (by omega)]
          exact ⟨by omega, sym _ _ z2⟩
      have used : ∀ q : Nat × Nat, q.1 < q.2 → uses r q.1 q.2 → ∃ z, z ∈ portsOf r ∧ mm z = q := fun q hq h => by
        rcases h with h | h
        · refine ⟨_, h, ?_⟩
          unfold mm
          show (min q.1 q.2, max q.1 q.2) = q
          rw [Nat.min_eq_left (by omega), Nat.max_eq_right (by omega)]
        · refine ⟨_, h, ?_⟩
          unfold mm
          show (min q.2 q.1, max q.2 q.1) = q
          rw [Nat.min_eq_right (by omega), Nat.max_eq_left (by omega)]
      refine ⟨D, us.map V.ref, keyOf H6, rfl, SqL.of hD6, fun x hx => ?_, fun ys q srt stb nq => ?_⟩
      · obtain ⟨t, z, rfl, _, hm⟩ := item x hx
        exact ⟨t, rfl, by rw [keyOf_eq hm]; exact hm⟩
      have sq := same_new (o := .lst ys) nq
      have hq : (upd H6 q (.lst ys)) q = some (.lst ys) := upd_same
      have S7 := S6.trans sq
      generalize (upd H6 q (.lst ys)) = H7 at sq hq S7 ⊢
      refine ⟨q, rfl, ⟨_, SqL.of hq⟩, for_list (K := K) (a := q) (xs := ys) (fun i σ H' => ∃ v5 v6 : Option V, σ = [some (.ref p), some (.int (fs : Int)), some (.int (l : Int)), some (.ref pl), v4, v5, v6, none] ∧ Same H7 H' ∧ ∀ k, k < i → ∀ m : Nat × Nat, ys[k]?.map (keyOf H6) = some ((m.1 : Int), (m.2 : Int)) → openL N fs l m.1 m.2)
        ⟨none, none, rfl, Same.refl H7, fun k hk => absurd hk (Nat.not_lt_zero _)⟩ (fun i σ H' _ ⟨_, _, _, sm, _⟩ => SqL.of (sm _ _ hq)) ?_ ?_⟩
      · rintro i x σ H8 hi ⟨v5, v6, rfl, s8, hop⟩
        obtain ⟨t, z, rfl, hz, hm⟩ := item x (stb.perm.mem_iff.mp (List.mem_of_getElem? hi))
        obtain ⟨lt, ad⟩ := mmL z hz
        refine ⟨t, _, rfl, SqT.of (s8 _ _ (sq _ _ hm)), rfl, _, _, rfl, _, _, rfl, rfl, ?_⟩
        refine ⟨_, rfl, _, rfl, _, rfl, p, (mm z).1, (mm z).2, N, rfl, hN.same (S7.trans s8), En.d, by omega, by omega, fun H9 x9 s9 hX => ?_⟩
        refine ⟨_, rfl, _, rfl, x9, fs, l, N.ks.length, _, rfl, hX, by show N.ks.length ≤ 100; omega, En.fl, by omega, done _ rfl, fun HA v sA hv => ?_⟩
        have zA := (s8.trans s9).trans sA
        cases hw2 : (lev (arcsOf ⟨N.ks, (noLine N (mm z).1 (mm z).2).ls, 0, 0⟩ fs) fs N.ks.length).1 l with
        | none =>
          rw [hw2] at hv
          have hv : v = .non := hv
          subst hv
          refine ⟨rfl, _, rfl, ?_⟩
          rw [decide_eq_true rfl]
          refine ite2 (fun _ => ?_) (fun e => absurd rfl e)
          refine ⟨_, rfl, _, rfl, by show 3 ≤ sizeLine; decide, fun t nt => ?_⟩
          have no : ¬ openL N fs l (mm z).1 (mm z).2 := fun y => by
            obtain ⟨r2, p2⟩ := path_line.mpr y
            exact short_none (En' _) hw2 ⟨r2, p2.cast rfl rfl⟩
          refine qs _ (some (.inr (mm z))) _ ((S7.trans zA).trans (same_new nt)) ⟨r, hP⟩ (.line allN ⟨lt, ad⟩ no fun m hm' hlx => ?_) ⟨t, rfl, upd_same⟩
          by_cases mu : uses r m.1 m.2
          · obtain ⟨z', hz', ez'⟩ := used m hm'.1 mu
            obtain ⟨t', ht', hm2⟩ := back z' hz'
            rw [ez'] at hm2
            obtain ⟨j, ej⟩ := List.mem_iff_getElem?.mp (stb.perm.mem_iff.mpr ht')
            refine hop j ?_ m (by rw [ej]; show some (keyOf H6 (V.ref t')) = _; rw [keyOf_eq hm2])
            rcases Nat.lt_or_ge j i with y | y
            · exact y
            · obtain ⟨hj, ej'⟩ := List.getElem?_eq_some_iff.mp ej
              obtain ⟨hi', ei'⟩ := List.getElem?_eq_some_iff.mp hi
              rcases Nat.lt_or_ge i j with w1 | w1
              · have := List.pairwise_iff_getElem.mp srt i j hi' hj w1
                rw [ej', ei'] at this
                have this := SrtO.lexB_no.mp this
                rw [keyOf_eq hm2, keyOf_eq hm] at this
                refine absurd ?_ this
                show (m.1 : Int) < ((mm z).1 : Int) ∨ ((m.1 : Int) = ((mm z).1 : Int) ∧ (m.2 : Int) < ((mm z).2 : Int))
                unfold lexP at hlx
                omega
              · have : i = j := by omega
                subst this
                rw [ei'] at ej'
                have e := congrArg (keyOf H6) ej'
                rw [keyOf_eq hm2, keyOf_eq hm] at e
                injection e with e1 e2
                unfold lexP at hlx
                omega
          · exact ⟨r, hP, mu⟩
        | some r2 =>
          rw [hw2] at hv
          obtain ⟨l2, rfl, _, _⟩ := hv
          refine ⟨rfl, _, rfl, ?_⟩
          rw [decide_eq_false (by simp)]
          refine ite2 (fun e => by cases e) (fun _ => ?_)
          refine ⟨_, _, rfl, zA, fun k hk m hk' => ?_⟩
          by_cases e : k = i
          · subst e
            rw [hi] at hk'
            have hk' : some (keyOf H6 (V.ref t)) = some ((m.1 : Int), (m.2 : Int)) := hk'
            rw [keyOf_eq hm] at hk'
            have hk' := Option.some.inj hk'
            injection hk' with e1 e2
            have e3 : (mm z).1 = m.1 := by omega
            have e4 : (mm z).2 = m.2 := by omega
            rw [← e3, ← e4]
            exact path_line.mp ⟨r2, (short_some (En' _) hw2).cast rfl rfl⟩
          · exact hop k (by omega) m hk'
      · rintro σ H8 ⟨v5, v6, rfl, s8, hop⟩
        refine qs H8 none _ (S7.trans s8) ⟨r, hP⟩ (.none allN fun m hm' => ?_) rfl
        by_cases mu : uses r m.1 m.2
        · obtain ⟨z', hz', ez'⟩ := used m hm'.1 mu
          obtain ⟨t', ht', hm2⟩ := back z' hz'
          rw [ez'] at hm2
          obtain ⟨j, ej⟩ := List.mem_iff_getElem?.mp (stb.perm.mem_iff.mpr ht')
          exact hop j (List.getElem?_eq_some_iff.mp ej).1 m (by rw [ej]; show some (keyOf H6 (V.ref t')) = _; rw [keyOf_eq hm2])
        · exact ⟨r, hP, mu⟩
end
end My
namespace My
open PySem PySem.Spec PyProof.Rows L2
abbrev sOpen : Stmt := top 23
theorem and_read2 {t u : TT} {σ : L2.St} {H : Hp} {Q : Bool → Hp → Prop} {a b : Bool} (ht : ∀ Q : Bool → Hp → Prop, (∀ H1, Same H H1 → Q a H1) → t σ H Q) (hu : a = true → ∀ H1, Same H H1 → ∀ Q : Bool → Hp → Prop, (∀ H2, Same H1 H2 → Q b H2) → u σ H1 Q) (h : ∀ H1, Same H H1 → Q (a && b) H1) : tAnd t u σ H Q := by
  refine ht _ fun H1 s1 => ?_
  cases a with
  | true => exact hu rfl H1 s1 _ fun H2 s2 => h H2 (s1.trans s2)
  | false => exact h H1 s1
def cutN (N : NetD) (o : Option Nat) (q : Option (Nat × Nat)) : NetD := ⟨N.ks, N.ls.filter fun k => !(decide (some k.1 = o) || decide (some k.2.1 = o) || decide (some (k.1, k.2.1) = q)), 0, 0⟩
theorem adj_cut {N : NetD} {o : Option Nat} {q : Option (Nat × Nat)} {u w : Nat} : adj (cutN N o q) u w = true ↔ some u ≠ o ∧ some w ≠ o ∧ ∃ k ∈ N.ls, hits u w k = true ∧ some (k.1, k.2.1) ≠ q := by
  rw [adj_iff]
  constructor
  · rintro ⟨k, hk, h⟩
    obtain ⟨h1, h2⟩ := List.mem_filter.mp hk
    rw [Bool.not_eq_true', Bool.or_eq_false_iff, Bool.or_eq_false_iff, decide_eq_false_iff_not, decide_eq_false_iff_not, decide_eq_false_iff_not] at h2
    obtain ⟨⟨n1, n2⟩, n3⟩ := h2
    rcases hits_of h with ⟨e1, e2⟩ | ⟨e1, e2⟩
    · exact ⟨e1 ▸ n1, e2 ▸ n2, k, h1, h, n3⟩
    · exact ⟨e2 ▸ n2, e1 ▸ n1, k, h1, h, n3⟩
  · rintro ⟨n1, n2, k, h1, h, n3⟩
    refine ⟨k, List.mem_filter.mpr ⟨h1, ?_⟩, h⟩
    rw [Bool.not_eq_true', Bool.or_eq_false_iff, Bool.or_eq_false_iff, decide_eq_false_iff_not, decide_eq_false_iff_not, decide_eq_false_iff_not]
    rcases hits_of h with ⟨e1, e2⟩ | ⟨e1, e2⟩
    · exact ⟨⟨by rw [e1]; exact n1, by rw [e2]; exact n2⟩, n3⟩
    · exact ⟨⟨by rw [e1]; exact n2, by rw [e2]; exact n1⟩, n3⟩
def nodeO : Option Nat → V
  | none => .non
  | some v => .int (v : Int)
def dLn : Option (Nat × Nat) → PyData
  | none => .none
  | some p => dPort p
theorem shp_ln (q : Option (Nat × Nat)) : SeqAt.shaped (dLn q) = true := by
  cases q with
  | none => exact shaped_none
  | some p => exact (shp_port p).shaped
theorem eqv_ln (p : Nat × Nat) (q : Option (Nat × Nat)) : PyData.eqv (dPort p) (dLn q) = decide (some p = q) := by
  cases q with
  | none =>
    rw [decide_eq_false (by simp)]
    unfold dPort dLn
    rw [PyData.eqv]
  | some q =>
    show PyData.eqv (dPort p) (dPort q) = _
    rw [eqv_port, Bool.eq_iff_iff, decide_eq_true_eq, decide_eq_true_eq]
    simp
theorem dec_node (y : Nat) (o : Option Nat) : decide (V.int (y : Int) = nodeO o) = decide (some y = o) := by
  cases o with
  | none =>
    show decide (V.int (y : Int) = V.non) = decide (some y = none)
    rw [decide_eq_false (by intro z; cases z), decide_eq_false (by simp)]
  | some v =>
    show decide (V.int (y : Int) = V.int (v : Int)) = _
    rw [dec_nat, Bool.eq_iff_iff, decide_eq_true_eq, decide_eq_true_eq]
    simp
theorem scal_node (y : Nat) (o : Option Nat) : scal (V.int (y : Int)) (nodeO o) = true := by
  cases o <;> rfl
/-- within a turn -/
structure Opn (N : NetD) (o : Option Nat) (q : Option (Nat × Nat)) (f : Nat) (found more : List Nat) : Prop where
  way : ∀ v, v ∈ found ∨ v ∈ more → ∃ W, Way (arcsOf (cutN N o q) f) f v W
def cov (N : NetD) (o : Option Nat) (q : Option (Nat × Nat)) (f : Nat) (found more : List Nat) (k : Nat × Nat × Int) (x y : Nat) : Prop := x ∈ found → some y ≠ o → some (k.1, k.2.1) ≠ q → (x = f ∨ host N x = false) → y ∈ found ∨ y ∈ more
section
variable {P : Program} {w : World} {K : PySem.W.Frag} {mg : Str → Option Value} {base : Heap}
theorem scOpen : FnScope ["net", "first", "last", "node", "line", "found", "turn", "more", "a", "b", "ticks", "x", "y"] ["net", "first", "last", "node", "line"] (defScope sOpen) := ⟨rfl, rfl, rfl, by decide +kernel, rfl, by decide +kernel, by decide +kernel⟩
def spOpen (K : PySem.W.Frag) (C : Addr) : Sp := fun vs H Q _ => ∃ (p : Addr) (lv : V) (f l : Nat) (N : NetD) (o : Option Nat) (q : Option (Nat × Nat)), vs = [.ref p, .int (f : Int), .int (l : Int), nodeO o, lv] ∧ NetAt K C H p N ∧ (∀ k ∈ N.ls, k.1 < N.ks.length ∧ k.2.1 < N.ks.length) ∧ f < N.ks.length ∧ some f ≠ o ∧
  (∀ H', Same H H' → Dp K H' lv (dLn q)) ∧ N.ls.length ≤ 100 ∧ N.ks.length ≤ 20 ∧ ∀ (b : Bool) (H' : Hp), Same H H' → (b = true ↔ ∃ W, Way (arcsOf (cutN N o q) f) f l W) → Q (.bl b) H'
theorem ok_open {f C : Addr} {fd : FuncData} {k : Nat} (F : Fun K "_law_open" "_law_open" sOpen f fd) (T : Blt mg) (c : NetC K C) : FnOk P w K mg base CX0 (k + 1) f fd ["net", "first", "last", "node", "line"] (spOpen K C) := by
  refine F.ok scOpen (fun vs H Q E h => ?_) (fun cdv A0 outer s0 H vs Q E hr h => ?_)
  · obtain ⟨p, lv, fs, l, N, o, q, rfl, _⟩ := h
    rfl
  · obtain ⟨p, lv, fs, l, N, o, lq, rfl, hN, hbd, hfl, hfo, hlv, hls, hn, q⟩ := h
    have nd := scOpen.nd
    refine ⟨_, pss_cons (ps_set (i := 5) nd rfl (.inl rfl) (pe_lst (pa_cons (pv 1) pa_nil))) <| pss_cons (ps_for PassesOwn.never rfl (pi_range1 (by rfl) T.range (pa_cons (pe_callB call_len_seq (by rfl) T.len PySem.boot_len (pa_cons (pe_fld (pv 0) rfl) pa_nil)) pa_nil)) (pg_name (i := 6) nd rfl (.inl rfl)) (pss_cons (ps_set (i := 7) nd rfl (.inl rfl) (pe_lst pa_nil)) <| pss_cons (ps_for PassesOwn.never rfl (pi_list (pe_fld (pv 0) rfl)) (pg_tup rfl (pgs_cons (pg_name (i := 8) nd rfl (.inl rfl)) (pgs_cons (pg_name (i := 9) nd rfl (.inl rfl)) (pgs_cons (pg_name (i := 10) nd rfl (.inl rfl)) pgs_nil)))) (pss_one (ps_for PassesOwn.never rfl (pi_list (pe_lst (pa_cons (pe_tup (pa_cons (pv 8) (pa_cons (pv 9) pa_nil))) (pa_cons (pe_tup (pa_cons (pv 9) (pa_cons (pv 8) pa_nil))) pa_nil)))) (pg_tup rfl (pgs_cons (pg_name (i := 11) nd rfl (.inl rfl)) (pgs_cons (pg_name (i := 12) nd rfl (.inl rfl)) pgs_nil))) (pss_one (ps_if (PW.pt (pw_and (pt_cmpR op_in_seq (pv 11) (pv 5) rfl) (pw_and (pt_cmpR op_notIn_seq (pv 12) (pv 5) rfl) (pw_and (pt_cmpR op_notIn_seq (pv 12) (pv 7) rfl) (pw_and (pt_cmpR op_ne (pv 12) (pv 3) (nomark _)) (pw_and1 (pt_cmpR (op_neD hr.units) (pe_tup (pa_cons (pv 8) (pa_cons (pv 9) pa_nil))) (pv 4) (nomark _)))))))) (pss_one (ps_if (PW.pt (pw_or (pt_cmpR op_eq (pv 11) (pv 1) (nomark _)) (pw_or1 (pt_cmpR op_eq (pe_ix ix_list (pe_fld (pv 0) rfl) (pv 11) (fun _ _ => rfl)) pe_str (nomark _))))) (pss_one (ps_expr (pe_bm PySem.F.plainAttrs_list PySem.F.slot_list_append PySem.F.type_list_append mt_append (pv 7) (pa_cons (pv 12) pa_nil)))) (pss_nil))) (pss_nil)))))) <| pss_one (ps_set (i := 5) nd rfl (.inl rfl) (pe_op op_cat (pv 5) (pv 7))))) <| pss_one (ps_ret (pe_cmpR op_in_seq (pv 2) (pv 5) rfl)), ?_⟩
    have eN := hN
    obtain ⟨dx, lk, ll, ld, ts, e1, e2, e3, e4, e5⟩ := hN
    have tlen : ts.length = N.ls.length := e4.length
    have en : (N.ks.map kindV).length = N.ks.length := List.length_map ..
    -- found = [first]
    refine ⟨_, rfl, by show 1 ≤ sizeLine; decide, fun pf npf => ?_⟩
    have s1 := same_new (o := .lst [V.int (fs : Int)]) npf
    have hf1 : (upd H pf (.lst [V.int (fs : Int)])) pf = some (.lst (natsV [fs])) := upd_same
    generalize (upd H pf (.lst [V.int (fs : Int)])) = H1 at s1 hf1 ⊢
    refine ⟨_, rfl, p, C, dx, _, _, rfl, s1 _ _ e1, c.cl, c.n1, g1, lk, _, rfl, .inl (SqL.of (s1 _ _ e2)), _, rfl, by omega, by omega, for_range (n := (N.ks.map kindV).length) (fun t σ H' => ∃ (pf : Addr) (found : List Nat) (v6 v7 v8 v9 v10 v11 v12 : Option V), σ = [some (.ref p), some (.int (fs : Int)), some (.int (l : Int)), some (nodeO o), some lv, some (.ref pf), v6, v7, v8, v9, v10, v11, v12] ∧
      Same H H' ∧ H' pf = some (.lst (natsV found)) ∧ found.length ≤ 1 + 200 * t ∧ (∀ v ∈ found, some v ≠ o ∧ ∃ W, Way (arcsOf (cutN N o lq) fs) fs v W) ∧ ∀ W v, Way (arcsOf (cutN N o lq) fs) fs v W → W.length ≤ t + 1 → v ∈ found)
      ⟨pf, [fs], none, none, none, none, none, none, none, rfl, s1, hf1, Nat.le_refl _, fun v hv => by rw [List.mem_singleton.mp hv]; exact ⟨hfo, _, Way.one _ _⟩, fun W v w hl => ?_⟩ ?_ ?_⟩
    · have h1 := w.two
      have h2 := w.fst
      have h3 := w.lst
      unfold lastN at h3
      rw [show W.length - 1 = 0 by omega, h2] at h3
      rw [← h3]
      exact List.mem_singleton.mpr rfl
    · rintro t σ H2 ht ⟨pf, found, v6, v7, v8, v9, v10, v11, v12, rfl, s2, hf2, lf, hway, hall⟩
      rw [en] at ht
      -- more = []
      refine ⟨Nat.zero_le _, fun pm npm => ?_⟩
      have s3 := same_new (o := .lst []) npm
      have hm3 : (upd H2 pm (.lst [])) pm = some (.lst (natsV [])) := upd_same
      have npmH := s2.free npm
      have hf3 := s3 _ _ hf2
      have nfm : pf ≠ pm := ne_of_none hf2 npm
      have S3 := s2.trans s3
      generalize (upd H2 pm (.lst [])) = H3 at s3 hm3 hf3 S3 ⊢
      refine ⟨_, rfl, p, C, dx, _, _, rfl, S3 _ _ e1, c.cl, c.n2, g2, ll, rfl, ⟨_, SqL.of (S3 _ _ e3)⟩, for_list (K := K) (a := ll) (xs := ts.map V.ref) (fun i σ H' => ∃ (more : List Nat) (v8 v9 v10 v11 v12 : Option V), σ = [some (.ref p), some (.int (fs : Int)), some (.int (l : Int)), some (nodeO o), some lv, some (.ref pf), some (.int (0 + (t : Int))), some (.ref pm), v8, v9, v10, v11, v12] ∧
        Same H H' ∧ H' pf = some (.lst (natsV found)) ∧ H' pm = some (.lst (natsV more)) ∧ more.length ≤ 2 * i ∧ (∀ v ∈ more, some v ≠ o ∧ ∃ W, Way (arcsOf (cutN N o lq) fs) fs v W) ∧ ∀ j, j < i → ∀ k, N.ls[j]? = some k → cov N o lq fs found more k k.1 k.2.1 ∧ cov N o lq fs found more k k.2.1 k.1)
        ⟨[], v8, v9, v10, v11, v12, rfl, S3, hf3, hm3, Nat.le_refl _, (fun v hv => by cases hv), fun j hj => absurd hj (Nat.not_lt_zero _)⟩ (fun i σ H' _ ⟨_, _, _, _, _, _, _, sm, _⟩ => SqL.of (sm _ _ e3)) ?_ ?_⟩
      · rintro i x σ H4 hi ⟨more, v8, v9, v10, v11, v12, rfl, s4, hf4, hm4, lm, hmw, hcov⟩
        rw [List.getElem?_map] at hi
        cases ht' : ts[i]? with
        | none => rw [ht'] at hi; cases hi
        | some t0 =>
          rw [ht'] at hi
          cases hi
          obtain ⟨kk, ek, hT⟩ := Paired.at e4 ht'
          have hkm := List.mem_of_getElem? ek
          obtain ⟨b1, b2⟩ := hbd kk hkm
          have hi' : i < N.ls.length := (List.getElem?_eq_some_iff.mp ek).1
          refine ⟨t0, _, rfl, same_tup s4 hT, rfl, _, _, rfl, _, _, rfl, _, _, rfl, rfl, ?_⟩
          -- [(a, b), (b, a)]
          refine ⟨_, rfl, _, rfl, by show 2 ≤ sizeLine; decide, fun u1 nu1 => ?_⟩
          have su1 := same_new (o := .tup [V.int (kk.1 : Int), V.int (kk.2.1 : Int)]) nu1
          have hu1 : (upd H4 u1 (.tup [V.int (kk.1 : Int), V.int (kk.2.1 : Int)])) u1 = some (.tup [V.int (kk.1 : Int), V.int (kk.2.1 : Int)]) := upd_same
          generalize (upd H4 u1 (.tup [V.int (kk.1 : Int), V.int (kk.2.1 : Int)])) = H5 at su1 hu1 ⊢
          refine ⟨_, rfl, _, rfl, by show 2 ≤ sizeLine; decide, fun u2 nu2 => ?_⟩
          have su2 := same_new (o := .tup [V.int (kk.2.1 : Int), V.int (kk.1 : Int)]) nu2
          have hu2 : (upd H5 u2 (.tup [V.int (kk.2.1 : Int), V.int (kk.1 : Int)])) u2 = some (.tup [V.int (kk.2.1 : Int), V.int (kk.1 : Int)]) := upd_same
          have hu1' := su2 _ _ hu1
          generalize (upd H5 u2 (.tup [V.int (kk.2.1 : Int), V.int (kk.1 : Int)])) = H6 at su2 hu2 hu1' ⊢
          refine ⟨by show 2 ≤ sizeLine; decide, fun u3 nu3 => ?_⟩
          have su3 := same_new (o := .lst [V.ref u1, V.ref u2]) nu3
          have s47 := (su1.trans su2).trans su3
          have hu3 : (upd H6 u3 (.lst [V.ref u1, V.ref u2])) u3 = some (.lst [V.ref u1, V.ref u2]) := upd_same
          have hu17 := su3 _ _ hu1'
          have hu27 := su3 _ _ hu2
          generalize (upd H6 u3 (.lst [V.ref u1, V.ref u2])) = H7 at s47 hu3 hu17 hu27 ⊢
          have nu3m : u3 ≠ pm := fun z => by
            rw [z] at nu3
            rw [((su1.trans su2) _ _ hm4)] at nu3
            cases nu3
          refine ⟨u3, rfl, ⟨_, SqL.of hu3⟩, for_list (K := K) (a := u3) (xs := [V.ref u1, V.ref u2]) (fun j σ H' => ∃ (more : List Nat) (v11 v12 : Option V), σ = [some (.ref p), some (.int (fs : Int)), some (.int (l : Int)), some (nodeO o), some lv, some (.ref pf), some (.int (0 + (t : Int))), some (.ref pm), some (.int (kk.1 : Int)), some (.int (kk.2.1 : Int)), some (.int kk.2.2), v11, v12] ∧
            Same H H' ∧ But pm H7 H' ∧ H' pf = some (.lst (natsV found)) ∧ H' pm = some (.lst (natsV more)) ∧ more.length ≤ 2 * i + j ∧ (∀ v ∈ more, some v ≠ o ∧ ∃ W, Way (arcsOf (cutN N o lq) fs) fs v W) ∧ (∀ j, j < i → ∀ k, N.ls[j]? = some k → cov N o lq fs found more k k.1 k.2.1 ∧ cov N o lq fs found more k k.2.1 k.1) ∧ (0 < j → cov N o lq fs found more kk kk.1 kk.2.1) ∧ (1 < j → cov N o lq fs found more kk kk.2.1 kk.1))
            ⟨more, v11, v12, rfl, s4.trans s47, But.refl _ _, s47 _ _ hf4, s47 _ _ hm4, by omega, hmw, hcov, fun z => absurd z (Nat.lt_irrefl _), fun z => absurd z (by omega)⟩ (fun j σ H' _ ⟨_, _, _, _, _, kb, _⟩ => SqL.of (kb _ _ hu3 nu3m)) ?_ ?_⟩
          · rintro j x σ H8 hj ⟨more, v11, v12, rfl, s8, kb8, hf8, hm8, lm8, hmw8, hcov8, c1, c2⟩
            -- the pair
            obtain ⟨ua, x0, y0, rfl, hua, hxy, hj2, hh⟩ : ∃ (ua : Addr) (x0 y0 : Nat), x = .ref ua ∧ H7 ua = some (.tup [V.int (x0 : Int), V.int (y0 : Int)]) ∧ ((j = 0 ∧ x0 = kk.1 ∧ y0 = kk.2.1) ∨ (j = 1 ∧ x0 = kk.2.1 ∧ y0 = kk.1)) ∧ j < 2 ∧ hits x0 y0 kk = true := by
              match j, hj with
              | 0, hj => exact ⟨u1, kk.1, kk.2.1, (Option.some.inj hj).symm, hu17, .inl ⟨rfl, rfl, rfl⟩, by omega, hits_mk (.inl ⟨rfl, rfl⟩)⟩
              | 1, hj => exact ⟨u2, kk.2.1, kk.1, (Option.some.inj hj).symm, hu27, .inr ⟨rfl, rfl, rfl⟩, by omega, hits_mk (.inr ⟨rfl, rfl⟩)⟩
            have nua : ua ≠ pm := ne_of hua (s47 _ _ hm4) (by intro z; cases z)
            have hxn : x0 < N.ks.length := by rcases hxy with ⟨_, e, _⟩ | ⟨_, e, _⟩ <;> rw [e] <;> assumption
            have hyn : y0 < N.ks.length := by rcases hxy with ⟨_, _, e⟩ | ⟨_, _, e⟩ <;> rw [e] <;> assumption
            refine ⟨ua, _, rfl, SqT.of (kb8 _ _ hua nua), rfl, _, _, rfl, _, _, rfl, rfl, ?_⟩
            -- going on, with the pair seen to
            have stay : ∀ (H9 : Hp) (more' : List Nat) , Same H H9 → But pm H7 H9 → H9 pf = some (.lst (natsV found)) → H9 pm = some (.lst (natsV more')) → more'.length ≤ more.length + 1 → (∀ v ∈ more, v ∈ more') → (∀ v ∈ more', v ∈ more ∨ (some v ≠ o ∧ ∃ W, Way (arcsOf (cutN N o lq) fs) fs v W)) → cov N o lq fs found more' kk x0 y0 →
                ∃ (more : List Nat) (v11 v12 : Option V), [some (V.ref p), some (V.int (fs : Int)), some (.int (l : Int)), some (nodeO o), some lv, some (.ref pf), some (.int (0 + (t : Int))), some (.ref pm), some (.int (kk.1 : Int)), some (.int (kk.2.1 : Int)), some (.int kk.2.2), some (.int (x0 : Int)), some (.int (y0 : Int))] = [some (.ref p), some (.int (fs : Int)), some (.int (l : Int)), some (nodeO o), some lv, some (.ref pf), some (.int (0 + (t : Int))), some (.ref pm), some (.int (kk.1 : Int)), some (.int (kk.2.1 : Int)), some (.int kk.2.2), v11, v12] ∧
                Same H H9 ∧ But pm H7 H9 ∧ H9 pf = some (.lst (natsV found)) ∧ H9 pm = some (.lst (natsV more)) ∧ more.length ≤ 2 * i + (j + 1) ∧ (∀ v ∈ more, some v ≠ o ∧ ∃ W, Way (arcsOf (cutN N o lq) fs) fs v W) ∧ (∀ j, j < i → ∀ k, N.ls[j]? = some k → cov N o lq fs found more k k.1 k.2.1 ∧ cov N o lq fs found more k k.2.1 k.1) ∧ (0 < j + 1 → cov N o lq fs found more kk kk.1 kk.2.1) ∧ (1 < j + 1 → cov N o lq fs found more kk kk.2.1 kk.1) := by
              intro H9 more' z1 z2 z3 z4 z5 z6 z7 z8
              have up : ∀ k a b, cov N o lq fs found more k a b → cov N o lq fs found more' k a b := fun k a b h x1 x2 x3 x4 => (h x1 x2 x3 x4).imp id (z6 b)
              refine ⟨more', _, _, rfl, z1, z2, z3, z4, by omega, fun v hv => (z7 v hv).elim (hmw8 v) id, fun j hj k hk => ⟨up _ _ _ (hcov8 j hj k hk).1, up _ _ _ (hcov8 j hj k hk).2⟩, fun _ => ?_, fun h1 => ?_⟩
              · rcases hxy with ⟨e0, ex, ey⟩ | ⟨e0, ex, ey⟩
                · rw [ex, ey] at z8
                  exact z8
                · exact up _ _ _ (c1 (by omega))
              · rcases hxy with ⟨e0, ex, ey⟩ | ⟨e0, ex, ey⟩
                · omega
                · rw [ex, ey] at z8
                  exact z8
            dsimp only [tIfS]
            refine and_read2 (a := found.contains x0) (b := !found.contains y0 && (!more.contains y0 && (!decide (some y0 = o) && !decide (some (kk.1, kk.2.1) = lq)))) (fun Q h => ?_) (fun _ H9 s9 Q h => ?_) (fun H9 s9 => ?_)
            · refine ⟨_, rfl, _, rfl, pf, _, rfl, .inl (SqL.of hf8), rfl, natsV_flat found, _, rfl, ?_⟩
              show Q (inV (V.int (x0 : Int)) (natsV found)) H8
              rw [natsV_in]
              exact h H8 (Same.refl H8)
            · refine and_read2 (fun Q h => ?_) (fun _ HA sA Q h => ?_) h
              · refine ⟨_, rfl, _, rfl, pf, _, rfl, .inl (SqL.of (s9 _ _ hf8)), rfl, natsV_flat found, _, rfl, ?_⟩
                show Q (!inV (V.int (y0 : Int)) (natsV found)) H9
                rw [natsV_in]
                exact h H9 (Same.refl H9)
              · refine and_read2 (fun Q h => ?_) (fun _ HB sB Q h => ?_) h
                · refine ⟨_, rfl, _, rfl, pm, _, rfl, .inl (SqL.of (sA _ _ (s9 _ _ hm8))), rfl, natsV_flat more, _, rfl, ?_⟩
                  show Q (!inV (V.int (y0 : Int)) (natsV more)) HA
                  rw [natsV_in]
                  exact h HA (Same.refl HA)
                · refine and_read2 (fun Q h => ?_) (fun _ HC sC Q h => ?_) h
                  · refine ⟨_, rfl, _, rfl, scal_node y0 o, _, rfl, ?_⟩
                    rw [dec_node]
                    exact h HB (Same.refl HB)
                  · refine ⟨_, rfl, _, rfl, by show 2 ≤ sizeLine; decide, fun u nu => ?_⟩
                    have su := same_new (o := .tup [V.int (kk.1 : Int), V.int (kk.2.1 : Int)]) nu
                    refine ⟨_, rfl, dPort (kk.1, kk.2.1), dLn lq, dp_port (SqT.of upd_same), hlv _ (((((s8.trans s9).trans sA).trans sB).trans sC).trans su), (shp_port _).shaped, shp_ln lq, _, rfl, ?_⟩
                    rw [eqv_ln]
                    exact h _ su
            · have kb9 : But pm H7 H9 := fun b o e n => s9 _ _ (kb8 b o e n)
              have hf9 := s9 _ _ hf8
              have hm9 := s9 _ _ hm8
              have S9 := s8.trans s9
              refine ite2 (fun e => ?_) (fun e => ?_)
              · rw [Bool.and_eq_true, Bool.and_eq_true, Bool.and_eq_true, Bool.and_eq_true, Bool.not_eq_true', Bool.not_eq_true', Bool.not_eq_true', Bool.not_eq_true', decide_eq_false_iff_not, decide_eq_false_iff_not] at e
                obtain ⟨i1, i2, i3, i4, i5⟩ := e
                have i1 := List.contains_iff_mem.mp i1
                have eb : (decide (V.int (x0 : Int) = V.int (fs : Int)) || decide (kindV (N.ks.getD x0 true) = V.str "switch")) = (decide (x0 = fs) || !host N x0) := by
                  rw [dec_nat]
                  congr 1
                  unfold host
                  cases N.ks.getD x0 true <;> decide +kernel
                refine or_read (a := decide (V.int (x0 : Int) = V.int (fs : Int))) (b := decide (kindV (N.ks.getD x0 true) = V.str "switch")) (fun Q q => ⟨_, rfl, _, rfl, rfl, _, rfl, q⟩) (fun Q q => ⟨_, rfl, p, C, dx, _, _, rfl, S9 _ _ e1, c.cl, c.n1, g1, _, rfl, lk, _, _, _, rfl, rfl, SqL.of (S9 _ _ e2), atI_kind rfl hxn, rfl, _, rfl, q⟩) ?_
                rw [eb]
                refine ite2 (fun e => ?_) (fun e => ?_)
                · rw [Bool.or_eq_true, decide_eq_true_eq, Bool.not_eq_true'] at e
                  obtain ⟨nx, W, hW⟩ := hway x0 i1
                  have arc : y0 ∈ arcsOf (cutN N o lq) fs x0 := arcs_mem.mpr ⟨e, hyn, adj_cut.mpr ⟨nx, i4, kk, hkm, hh, i5⟩⟩
                  refine ⟨_, rfl, .inl ⟨rfl, _, SqL.of hm9⟩, _, rfl, pm, _, _, rfl, rfl, hm9, szl (by rw [natsV_len]; omega), ?_⟩
                  refine stay _ (more ++ [y0]) (same_mut S9 npmH) (kb9.trans but_self) (by rw [upd_ne nfm]; exact hf9) (by rw [upd_same, natsV_app]) (by rw [List.length_append]; exact Nat.le_refl _) (fun v hv => List.mem_append.mpr (.inl hv)) (fun v hv => ?_) (fun _ _ _ _ => .inr (List.mem_append.mpr (.inr (List.mem_singleton.mpr rfl))))
                  rcases List.mem_append.mp hv with h | h
                  · exact .inl h
                  · rw [List.mem_singleton.mp h]
                    exact .inr ⟨i4, hW.ext arc⟩
                · refine stay H9 more S9 kb9 hf9 hm9 (by omega) (fun v hv => hv) (fun v hv => .inl hv) (fun _ _ _ x4 => absurd ?_ e)
                  rw [Bool.or_eq_true, decide_eq_true_eq, Bool.not_eq_true']
                  exact x4
              · refine stay H9 more S9 kb9 hf9 hm9 (by omega) (fun v hv => hv) (fun v hv => .inl hv) (fun x1 x2 x3 _ => Classical.byContradiction fun no => e ?_)
                rw [not_or] at no
                rw [Bool.and_eq_true, Bool.and_eq_true, Bool.and_eq_true, Bool.and_eq_true, Bool.not_eq_true', Bool.not_eq_true', Bool.not_eq_true', Bool.not_eq_true', decide_eq_false_iff_not, decide_eq_false_iff_not]
                exact ⟨List.contains_iff_mem.mpr x1, Bool.eq_false_iff.mpr fun z => no.1 (List.contains_iff_mem.mp z), Bool.eq_false_iff.mpr fun z => no.2 (List.contains_iff_mem.mp z), x2, x3⟩
          · rintro σ H8 ⟨more, v11, v12, rfl, s8, kb8, hf8, hm8, lm8, hmw8, hcov8, c1, c2⟩
            have c1 := c1 (by show 0 < 2; omega)
            have c2 := c2 (by show 1 < 2; omega)
            refine ⟨more, _, _, _, _, _, rfl, s8, hf8, hm8, by (have : more.length ≤ 2 * i + 2 := lm8); omega, hmw8, fun j hj k hk => ?_⟩
            by_cases z : j = i
            · subst z
              rw [ek] at hk
              have hk := Option.some.inj hk
              subst hk
              exact ⟨c1, c2⟩
            · exact hcov8 j (by omega) k hk
      · rintro σ H4 ⟨more, v8, v9, v10, v11, v12, rfl, s4, hf4, hm4, lm, hmw, hcov⟩
        rw [List.length_map, tlen] at lm hcov
        -- found = found + more
        refine ⟨_, rfl, _, rfl, pf, pm, _, _, rfl, rfl, hf4, hm4, sz (by rw [natsV_len, natsV_len]; omega), fun z nz => ?_⟩
        have hz : (upd H4 z (.lst (natsV found ++ natsV more))) z = some (.lst (natsV (found ++ more))) := by
          rw [upd_same]
          unfold natsV
          rw [List.map_append]
        refine ⟨z, found ++ more, _, _, _, _, _, _, _, rfl, s4.trans (same_new nz), hz, by rw [List.length_append]; omega, fun v hv => (List.mem_append.mp hv).elim (hway v) (hmw v), fun W v w hl => ?_⟩
        by_cases sh : W.length ≤ t + 1
        · exact List.mem_append.mpr (.inl (hall W v w sh))
        · have two := w.two
          have hlast := w.lst
          unfold lastN at hlast
          have wp := w.pre (k := W.length - 2) (by omega)
          have hx := hall _ _ wp (by rw [List.length_take]; omega)
          have arc := w.ch (W.length - 2) (by omega)
          rw [show W.length - 2 + 1 = W.length - 1 by omega, hlast] at arc
          obtain ⟨a1, _, a3⟩ := arcs_mem.mp arc
          obtain ⟨n1, n2, kk, hkm, hh, n3⟩ := adj_cut.mp a3
          obtain ⟨j, ej⟩ := List.mem_iff_getElem?.mp hkm
          have cc := hcov j (List.getElem?_eq_some_iff.mp ej).1 kk ej
          refine List.mem_append.mpr ?_
          rcases hits_of hh with ⟨h1, h2⟩ | ⟨h1, h2⟩
          · have := cc.1
            rw [h1, h2] at this
            exact this hx n2 (by rw [← h1, ← h2] at *; exact n3) a1
          · have := cc.2
            rw [h1, h2] at this
            exact this hx n2 (by rw [← h1, ← h2] at *; exact n3) a1
    · rintro σ H2 ⟨pf, found, v6, v7, v8, v9, v10, v11, v12, rfl, s2, hf2, lf, hway, hall⟩
      rw [en] at hall
      refine ⟨_, rfl, _, rfl, pf, _, rfl, .inl (SqL.of hf2), rfl, natsV_flat found, ?_⟩
      show Q (.bl (inV (V.int (l : Int)) (natsV found))) H2
      rw [natsV_in]
      refine q _ H2 s2 ⟨fun h => (hway l (List.contains_iff_mem.mp h)).2, fun ⟨W, w⟩ => List.contains_iff_mem.mpr (hall W l w ?_)⟩
      have := nodup_lt N.ks.length W w.nd (w.bd hfl fun a _ b hb => arcs_lt' (N := cutN N o lq) b hb)
      omega
end
end My
namespace My
open PySem PySem.Spec PyProof.Rows L2
abbrev sLB : Stmt := top 24
theorem IsP.of_adj {N M : NetD} {r : List Nat} (h : IsP N r) (e1 : N.ks = M.ks) (e2 : ∀ a b, adj N a b = true → adj M a b = true) : IsP M r := ⟨h.two, h.nd, fun k hk => by
  have := h.hs k hk
  unfold host at this ⊢
  rw [← e1]
  exact this, fun k hk => e2 _ _ (h.ad k hk)⟩
theorem Path.of_adj {N M : NetD} {f l : Nat} {r : List Nat} (h : Path N f l r) (e1 : N.ks = M.ks) (e2 : ∀ a b, adj N a b = true → adj M a b = true) : Path M f l r := ⟨h.is.of_adj e1 e2, h.fst, h.lst, e1 ▸ h.lt⟩
theorem ends_cut {N : NetD} {f l : Nat} (E : Ends N f l) (o : Option Nat) (q : Option (Nat × Nat)) : Ends (cutN N o q) f l := ⟨E.d.filter _, E.hf, E.hl, E.ne, E.fl, E.ll⟩
theorem cut_paths {N M : NetD} {f l : Nat} (E : Ends N f l) {o : Option Nat} {q : Option (Nat × Nat)} (e1 : N.ks = M.ks) (e2 : ∀ a b, adj (cutN N o q) a b = true ↔ adj M a b = true) : (∃ W, Way (arcsOf (cutN N o q) f) f l W) ↔ ∃ r, Path M f l r := by
  constructor
  · rintro ⟨W, w⟩
    exact ⟨W, (way_path (ends_cut E o q) w).of_adj e1 fun a b => (e2 a b).mp⟩
  · rintro ⟨r, p⟩
    exact ⟨r, path_way (p.of_adj (M := cutN N o q) e1.symm fun a b => (e2 a b).mpr)⟩
theorem cut_all {N : NetD} {f l : Nat} (E : Ends N f l) : (∃ W, Way (arcsOf (cutN N none none) f) f l W) ↔ ∃ r, Path N f l r := cut_paths E rfl fun a b => by
  rw [adj_cut, adj_iff]
  exact ⟨fun ⟨_, _, k, h1, h2, _⟩ => ⟨k, h1, h2⟩, fun ⟨k, h1, h2⟩ => ⟨by simp, by simp, k, h1, h2, by simp⟩⟩
theorem cut_node {N : NetD} {f l v : Nat} (E : Ends N f l) : (∃ W, Way (arcsOf (cutN N (some v) none) f) f l W) ↔ openN N f l v := by
  rw [← path_node]
  refine cut_paths (M := noNode N v) E rfl fun a b => ?_
  rw [adj_cut, adj_node, adj_iff]
  constructor
  · rintro ⟨n1, n2, k, h1, h2, _⟩
    exact ⟨⟨k, h1, h2⟩, fun e => n1 (by rw [e]), fun e => n2 (by rw [e])⟩
  · rintro ⟨⟨k, h1, h2⟩, n1, n2⟩
    exact ⟨fun e => n1 (Option.some.inj e), fun e => n2 (Option.some.inj e), k, h1, h2, by simp⟩
theorem cut_line {N : NetD} {f l : Nat} (E : Ends N f l) {k : Nat × Nat × Int} (hk : k ∈ N.ls) : (∃ W, Way (arcsOf (cutN N none (some (k.1, k.2.1))) f) f l W) ↔ openL N f l (mm (k.1, k.2.1)).1 (mm (k.1, k.2.1)).2 := by
  rw [← path_line]
  refine cut_paths (M := noLine N (mm (k.1, k.2.1)).1 (mm (k.1, k.2.1)).2) E rfl fun a b => ?_
  have hm : ((mm (k.1, k.2.1)).1 = k.1 ∧ (mm (k.1, k.2.1)).2 = k.2.1) ∨ ((mm (k.1, k.2.1)).1 = k.2.1 ∧ (mm (k.1, k.2.1)).2 = k.1) := by
    unfold mm
    show (min k.1 k.2.1 = k.1 ∧ max k.1 k.2.1 = k.2.1) ∨ (min k.1 k.2.1 = k.2.1 ∧ max k.1 k.2.1 = k.1)
    omega
  rw [adj_cut, adj_line, adj_iff]
  generalize (mm (k.1, k.2.1)).1 = u at hm ⊢
  generalize (mm (k.1, k.2.1)).2 = w at hm ⊢
  constructor
  · rintro ⟨_, _, x, h1, h2, h3⟩
    have key : ¬ hits a b k = true := fun z => by
      have := nodup_inj norm E.d.nd h1 hk (hits_norm h2 z)
      rw [this] at h3
      exact h3 rfl
    refine ⟨⟨x, h1, h2⟩, fun e => key (hits_mk ?_), fun e => key (hits_mk ?_)⟩
    · rcases hm with ⟨e1, e2⟩ | ⟨e1, e2⟩ <;> omega
    · rcases hm with ⟨e1, e2⟩ | ⟨e1, e2⟩ <;> omega
  · rintro ⟨⟨x, h1, h2⟩, n1, n2⟩
    refine ⟨by simp, by simp, x, h1, h2, fun e => ?_⟩
    have e := Option.some.inj e
    injection e with e3 e4
    rcases hits_of h2 with ⟨e5, e6⟩ | ⟨e5, e6⟩ <;> rcases hm with ⟨e1, e2⟩ | ⟨e1, e2⟩ <;> omega
section
variable {P : Program} {w : World} {K : PySem.W.Frag} {mg : Str → Option Value} {base : Heap}
theorem scLB : FnScope ["net", "first", "last", "node", "a", "b", "ticks", "pair"] ["net", "first", "last"] (defScope sLB) := ⟨rfl, rfl, rfl, by decide +kernel, rfl, by decide +kernel, by decide +kernel⟩
def spLB (K : PySem.W.Frag) (C : Addr) : Sp := fun vs H Q _ => ∃ (p : Addr) (f l : Nat) (N : NetD), vs = [.ref p, .int (f : Int), .int (l : Int)] ∧ NetAt K C H p N ∧ Ends N f l ∧ (∀ k ∈ N.ls, k.1 < N.ks.length ∧ k.2.1 < N.ks.length) ∧ N.ls.length ≤ 100 ∧ N.ks.length ≤ 20 ∧
  ∀ (H' : Hp) (o : Option (Nat ⊕ Nat × Nat)) (v : V), Same H H' → Bott N f l o → BottV H' o v → Q v H'
theorem ok_lb {f C fO : Addr} {fd fdO : FuncData} {k : Nat} (F : Fun K "_law_bottleneck" "_law_bottleneck" sLB f fd) (T : Blt mg) (hsorted : mg "sorted" = none) (hmin : mg "min" = none) (hmax : mg "max" = none) (c : NetC K C)
    (GO : Callee P w K mg base 1 "_law_open" ["net", "first", "last", "node", "line"] (spOpen K C) fO fdO) : FnOk P w K mg base CX0 (k + 2) f fd ["net", "first", "last"] (spLB K C) := by
  refine F.ok scLB (fun vs H Q E h => ?_) (fun cdv A0 outer s0 H vs Q E hr h => ?_)
  · obtain ⟨p, fs, l, N, rfl, _⟩ := h
    rfl
  · obtain ⟨p, fs, l, N, rfl, hN, En, hbd, hls, hn, qs⟩ := h
    have nd := scLB.nd
    have hr1 : Room 1 _ := hr.mono (by omega)
    have hu64 := hr.units
    refine ⟨_, pss_cons (ps_for PassesOwn.never rfl (pi_range1 (by rfl) T.range (pa_cons (pe_callB call_len_seq (by rfl) T.len PySem.boot_len (pa_cons (pe_fld (pv 0) rfl) pa_nil)) pa_nil)) (pg_name (i := 3) nd rfl (.inl rfl)) (pss_one (ps_if (PW.pt (pw_and (pt_cmpR op_eq (pe_ix ix_list (pe_fld (pv 0) rfl) (pv 3) (fun _ _ => rfl)) pe_str (nomark _)) (pw_and1 (pt_not (pt_val (pe_call GO.ok hr1 (by rfl) GO.mg GO.kp GO.b .nil pass0 (pa_cons (pv 0) (pa_cons (pv 1) (pa_cons (pv 2) (pa_cons (pv 3) (pa_cons pe_non pa_nil))))))))))) (pss_one (ps_ret (pe_tup (pa_cons pe_str (pa_cons (pv 3) pa_nil))))) (pss_nil)))) <| pss_cons (ps_for PassesOwn.never rfl (pi_list (pe_callB cr_sortedPO (by rfl) hsorted (by decide +kernel) (pa_cons (pe_lc (own := [("a", 4), ("b", 5), ("ticks", 6)]) (g := (gTup K 3 (gCons (gName 4) (gCons (gName 5) (gCons (gName 6) gNil))))) (tt := tYes) rfl nd (pi_list (pe_fld (pv 0) rfl)) (blkOk_by (own := [("a", 4), ("b", 5), ("ticks", 6)]) (N := ["net", "first", "last", "node", "a", "b", "ticks", "pair"]) (sc := defScope sLB) (by decide +kernel)) (fun _ _ _ _ _ => pg_tupK (K := K) rfl (pgs_cons (pg_name (i := 4) nd rfl (Or.inl rfl)) (pgs_cons (pg_name (i := 5) nd rfl (Or.inl rfl)) (pgs_cons (pg_name (i := 6) nd rfl (Or.inl rfl)) pgs_nil)))) (fun _ _ _ _ _ => pts_nil) (fun _ _ _ _ _ => (pe_tup (pa_cons (pe_callB (call_min2 rfl) (by rfl) hmin (by decide +kernel) (pa_cons (pv 4) (pa_cons (pv 5) pa_nil))) (pa_cons (pe_callB (call_max2 rfl) (by rfl) hmax (by decide +kernel) (pa_cons (pv 4) (pa_cons (pv 5) pa_nil))) pa_nil))))) pa_nil))) (pg_name (i := 7) nd rfl (.inl rfl)) (pss_one (ps_for PassesOwn.never rfl (pi_list (pe_fld (pv 0) rfl)) (pg_tup rfl (pgs_cons (pg_name (i := 4) nd rfl (.inl rfl)) (pgs_cons (pg_name (i := 5) nd rfl (.inl rfl)) (pgs_cons (pg_name (i := 6) nd rfl (.inl rfl)) pgs_nil)))) (pss_one (ps_if (PW.pt (pw_and (pt_cmpR (op_eqD hr.units) (pe_tup (pa_cons (pe_callB (call_min2 rfl) (by rfl) hmin (by decide +kernel) (pa_cons (pv 4) (pa_cons (pv 5) pa_nil))) (pa_cons (pe_callB (call_max2 rfl) (by rfl) hmax (by decide +kernel) (pa_cons (pv 4) (pa_cons (pv 5) pa_nil))) pa_nil))) (pv 7) (nomark _)) (pw_and1 (pt_not (pt_val (pe_call GO.ok hr1 (by rfl) GO.mg GO.kp GO.b .nil pass0 (pa_cons (pv 0) (pa_cons (pv 1) (pa_cons (pv 2) (pa_cons pe_non (pa_cons (pe_tup (pa_cons (pv 4) (pa_cons (pv 5) pa_nil))) pa_nil))))))))))) (pss_one (ps_ret (pe_tup (pa_cons pe_str (pa_cons (pe_ix ix_tup (pv 7) pe_int (fun _ _ => rfl)) (pa_cons (pe_ix ix_tup (pv 7) pe_int (fun _ _ => rfl)) pa_nil)))))) (pss_nil)))))) <| pss_one (ps_ret pe_non), ?_⟩
    have eN := hN
    obtain ⟨dx, lk, ll, ld, ts, e1, e2, e3, e4, e5⟩ := hN
    have tlen : ts.length = N.ls.length := e4.length
    have en : (N.ks.map kindV).length = N.ks.length := List.length_map ..
    refine ⟨_, rfl, p, C, dx, _, _, rfl, e1, c.cl, c.n1, g1, lk, _, rfl, .inl (SqL.of e2), _, rfl, by omega, by omega, for_range (n := (N.ks.map kindV).length) (fun i σ H' => ∃ v3 : Option V, σ = [some (.ref p), some (.int (fs : Int)), some (.int (l : Int)), v3, none, none, none, none] ∧ Same H H' ∧ ∀ u, u < i → host N u = false → openN N fs l u) ⟨none, rfl, Same.refl H, fun u hu => absurd hu (Nat.not_lt_zero _)⟩ ?_ ?_⟩
    · rintro i σ H1 hi ⟨v3, rfl, s1, hop⟩
      rw [en] at hi
      rw [Int.zero_add]
      have eb : decide (kindV (N.ks.getD i true) = V.str "switch") = !host N i := by
        unfold host
        cases N.ks.getD i true <;> decide +kernel
      by_cases op : openN N fs l i
      · have dop : ∀ b : Bool, (b = true ↔ ∃ W, Way (arcsOf (cutN N (some i) none) fs) fs l W) → b = true := fun b hb => hb.mpr ((cut_node En).mpr op)
        refine and_read2 (a := !host N i) (b := false) (fun Q h => ?_) (fun hsw H2 s2 Q h => ?_) (fun H2 s2 => ?_)
        · refine ⟨_, rfl, p, C, dx, _, _, rfl, s1 _ _ e1, c.cl, c.n1, g1, _, rfl, lk, _, _, _, rfl, rfl, SqL.of (s1 _ _ e2), atI_kind rfl hi, rfl, _, rfl, ?_⟩
          rw [eb]
          exact h H1 (Same.refl H1)
        · refine ⟨_, rfl, _, rfl, _, rfl, _, rfl, p, .non, fs, l, N, some i, none, rfl, eN.same (s1.trans s2), hbd, En.fl, fun e => ?_, fun H' _ => .non, hls, hn, fun b H3 s3 hb => ⟨_, rfl, ?_⟩⟩
          · have e := Option.some.inj e
            rw [← e, En.hf] at hsw
            cases hsw
          · rw [dop b hb]
            exact h H3 s3
        · rw [Bool.and_false]
          refine ite2 (fun e => by cases e) (fun _ => ?_)
          refine ⟨_, rfl, s1.trans s2, fun u hu hsu => ?_⟩
          by_cases z : u = i
          · rw [z]; exact op
          · exact hop u (by omega) hsu
      · have dop : ∀ b : Bool, (b = true ↔ ∃ W, Way (arcsOf (cutN N (some i) none) fs) fs l W) → b = false := fun b hb => Bool.eq_false_iff.mpr fun z => op ((cut_node En).mp (hb.mp z))
        refine and_read2 (a := !host N i) (b := true) (fun Q h => ?_) (fun hsw H2 s2 Q h => ?_) (fun H2 s2 => ?_)
        · refine ⟨_, rfl, p, C, dx, _, _, rfl, s1 _ _ e1, c.cl, c.n1, g1, _, rfl, lk, _, _, _, rfl, rfl, SqL.of (s1 _ _ e2), atI_kind rfl hi, rfl, _, rfl, ?_⟩
          rw [eb]
          exact h H1 (Same.refl H1)
        · refine ⟨_, rfl, _, rfl, _, rfl, _, rfl, p, .non, fs, l, N, some i, none, rfl, eN.same (s1.trans s2), hbd, En.fl, fun e => ?_, fun H' _ => .non, hls, hn, fun b H3 s3 hb => ⟨_, rfl, ?_⟩⟩
          · have e := Option.some.inj e
            rw [← e, En.hf] at hsw
            cases hsw
          · rw [dop b hb]
            exact h H3 s3
        · rw [Bool.and_true]
          refine ite2 (fun e => ?_) (fun e => ?_)
          · refine ⟨_, rfl, by show 2 ≤ sizeLine; decide, fun t nt => ?_⟩
            exact qs _ (some (.inl i)) _ ((s1.trans s2).trans (same_new nt)) (.sw hi (by simpa using e) op fun u hu hsu => hop u hu hsu) ⟨t, rfl, upd_same⟩
          · refine ⟨_, rfl, s1.trans s2, fun u hu hsu => ?_⟩
            by_cases z : u = i
            · rw [z] at hsu
              rw [hsu] at e
              exact absurd rfl e
            · exact hop u (by omega) hsu
    rintro σ H1 ⟨v3, rfl, s1, hop⟩
    rw [en] at hop
    have S0 := s1
    have E3 := s1 _ _ e3
    refine ⟨_, rfl, p, C, dx, _, _, rfl, s1 _ _ e1, c.cl, c.n2, g2, ll, rfl, ⟨_, SqL.of E3⟩, fun D nD => ?_⟩
    refine lc_list (K := K) (a := ll) (xs := ts.map V.ref) (fun j H' => Same H1 H' ∧ ∃ us : List Addr, H' D = some (.lst (us.map V.ref)) ∧ Tups H' us ((N.ls.take j).map fun k => mm (k.1, k.2.1))) ⟨same_new nD, [], upd_same, .nil⟩ (fun j H' _ z => SqL.of (z.1 _ _ E3)) ?_ ?_
    · rintro j x H6 hj ⟨s6, us, hD6, hU⟩
      rw [List.getElem?_map] at hj
      cases ht : ts[j]? with
      | none => rw [ht] at hj; cases hj
      | some t =>
        rw [ht] at hj
        cases hj
        obtain ⟨z, ez, hz⟩ := Paired.at e4 ht
        have lu : us.length = ((N.ls.take j).map fun k => mm (k.1, k.2.1)).length := hU.length
        rw [List.length_map, List.length_take] at lu
        refine ⟨t, _, rfl, same_tup (s1.trans s6) hz, rfl, _, _, rfl, _, _, rfl, _, _, rfl, rfl, rfl, ?_⟩
        refine ⟨_, rfl, _, rfl, _, _, rfl, _, rfl, _, rfl, _, _, rfl, by show 2 ≤ sizeLine; decide, fun u nu => ?_⟩
        have e1' : (if (z.2.1 : Int) < (z.1 : Int) then (z.2.1 : Int) else (z.1 : Int)) = (((mm (z.1, z.2.1)).1 : Nat) : Int) := by
          unfold mm
          show _ = ((min z.1 z.2.1 : Nat) : Int)
          split <;> omega
        have e2' : (if (z.2.1 : Int) > (z.1 : Int) then (z.2.1 : Int) else (z.1 : Int)) = (((mm (z.1, z.2.1)).2 : Nat) : Int) := by
          unfold mm
          show _ = ((max z.1 z.2.1 : Nat) : Int)
          split <;> omega
        rw [e1', e2'] at *
        have su := same_new (o := .tup [V.int (((mm (z.1, z.2.1)).1 : Nat) : Int), V.int (((mm (z.1, z.2.1)).2 : Nat) : Int)]) nu
        have hD' := su _ _ hD6
        refine ⟨_, hD', szl (by rw [List.length_map]; omega), same_but (s6.trans su) nD but_self, us ++ [u], ?_, ?_⟩
        · rw [upd_same, List.map_append]
          rfl
        · rw [take_snoc ez, List.map_append]
          have kt : ∀ a xs, (upd H6 u (.tup [V.int (((mm (z.1, z.2.1)).1 : Nat) : Int), V.int (((mm (z.1, z.2.1)).2 : Nat) : Int)])) a = some (.tup xs) → (upd (upd H6 u (.tup [V.int (((mm (z.1, z.2.1)).1 : Nat) : Int), V.int (((mm (z.1, z.2.1)).2 : Nat) : Int)])) D (.lst (us.map V.ref ++ [V.ref u]))) a = some (.tup xs) := fun a xs e => by
            rw [upd_ne (ne_of e hD' (by intro z; cases z))]
            exact e
          exact Tups.snoc ((hU.mono fun a xs e => su _ _ e).mono kt) (kt _ _ upd_same)
    rintro H6 ⟨s6, us, hD6, hU⟩
    rw [List.length_map, tlen, List.take_length] at hU
    have lus : us.length = (N.ls.map fun k => mm (k.1, k.2.1)).length := hU.length
    have S6 := s1.trans s6
    have item : ∀ x, x ∈ us.map V.ref → ∃ (t : Addr) (k : Nat × Nat × Int), x = .ref t ∧ k ∈ N.ls ∧ H6 t = some (.tup [.int (((mm (k.1, k.2.1)).1 : Nat) : Int), .int (((mm (k.1, k.2.1)).2 : Nat) : Int)]) := fun x hx => by
      obtain ⟨t, ht, rfl⟩ := List.mem_map.mp hx
      obtain ⟨j, ej⟩ := List.mem_iff_getElem?.mp ht
      obtain ⟨m, em, hm⟩ := Paired.at hU ej
      obtain ⟨z, hz, rfl⟩ := List.mem_map.mp (List.mem_of_getElem? em)
      exact ⟨t, z, rfl, hz, hm⟩
    have back : ∀ k, k ∈ N.ls → ∃ t : Addr, V.ref t ∈ us.map V.ref ∧ H6 t = some (.tup [.int (((mm (k.1, k.2.1)).1 : Nat) : Int), .int (((mm (k.1, k.2.1)).2 : Nat) : Int)]) := fun k hk => by
      obtain ⟨j, ej⟩ := List.mem_iff_getElem?.mp (List.mem_map.mpr ⟨k, hk, rfl⟩ : mm (k.1, k.2.1) ∈ N.ls.map fun k => mm (k.1, k.2.1))
      obtain ⟨hj, _⟩ := List.getElem?_eq_some_iff.mp ej
      obtain ⟨m, em, hm⟩ := Paired.at hU (List.getElem?_eq_getElem (by omega : j < us.length))
      rw [ej] at em
      have em := Option.some.inj em
      subst em
      exact ⟨us[j], List.mem_map.mpr ⟨_, List.getElem_mem _, rfl⟩, hm⟩
    have mmL : ∀ k, k ∈ N.ls → isLine N (mm (k.1, k.2.1)) := fun k hk => by
      have h1 := En.d.ne k hk
      have h2 : adj N k.1 k.2.1 = true := adj_iff.mpr ⟨k, hk, hits_mk (.inl ⟨rfl, rfl⟩)⟩
      have h3 : adj N k.2.1 k.1 = true := adj_iff.mpr ⟨k, hk, hits_mk (.inr ⟨rfl, rfl⟩)⟩
      unfold isLine mm
      show min k.1 k.2.1 < max k.1 k.2.1 ∧ adj N (min k.1 k.2.1) (max k.1 k.2.1) = true
      rcases Nat.lt_or_ge k.1 k.2.1 with y | y
      · rw [Nat.min_eq_left (by omega), Nat.max_eq_right (by omega)]
        exact ⟨y, h2⟩
      · rw [Nat.min_eq_right (by omega), Nat.max_eq_left (by omega)]
        exact ⟨by omega, h3⟩
    have lineOf : ∀ m : Nat × Nat, isLine N m → ∃ k, k ∈ N.ls ∧ mm (k.1, k.2.1) = m := fun m hm => by
      obtain ⟨k, hk, hh⟩ := adj_iff.mp hm.2
      refine ⟨k, hk, ?_⟩
      have hlt := hm.1
      unfold mm
      show (min k.1 k.2.1, max k.1 k.2.1) = m
      rcases hits_of hh with ⟨h1, h2⟩ | ⟨h1, h2⟩
      · rw [Nat.min_eq_left (by omega), Nat.max_eq_right (by omega), h1, h2]
      · rw [Nat.min_eq_right (by omega), Nat.max_eq_left (by omega), h1, h2]
    refine ⟨D, us.map V.ref, keyOf H6, rfl, SqL.of hD6, fun x hx => ?_, fun ys q srt stb nq => ?_⟩
    · obtain ⟨t, z, rfl, _, hm⟩ := item x hx
      exact ⟨t, rfl, by rw [keyOf_eq hm]; exact hm⟩
    have sq := same_new (o := .lst ys) nq
    have hq : (upd H6 q (.lst ys)) q = some (.lst ys) := upd_same
    have S7 := S6.trans sq
    generalize (upd H6 q (.lst ys)) = H7 at sq hq S7 ⊢
    refine ⟨q, rfl, ⟨_, SqL.of hq⟩, for_list (K := K) (a := q) (xs := ys) (fun i σ H' => ∃ v4 v5 v6 v7 : Option V, σ = [some (.ref p), some (.int (fs : Int)), some (.int (l : Int)), v3, v4, v5, v6, v7] ∧ Same H7 H' ∧ ∀ k, k < i → ∀ m : Nat × Nat, ys[k]?.map (keyOf H6) = some ((m.1 : Int), (m.2 : Int)) → openL N fs l m.1 m.2)
      ⟨none, none, none, none, rfl, Same.refl H7, fun k hk => absurd hk (Nat.not_lt_zero _)⟩ (fun i σ H' _ ⟨_, _, _, _, _, sm, _⟩ => SqL.of (sm _ _ hq)) ?_ ?_⟩
    · rintro i x σ H8 hi ⟨v4, v5, v6, v7, rfl, s8, hop8⟩
      obtain ⟨t, k0, rfl, hk0, hm⟩ := item x (stb.perm.mem_iff.mp (List.mem_of_getElem? hi))
      obtain ⟨mlt, mad⟩ := mmL k0 hk0
      generalize mm (k0.1, k0.2.1) = m at hm mlt mad
      have S8 := S7.trans s8
      refine ⟨_, rfl, p, C, dx, _, _, rfl, S8 _ _ e1, c.cl, c.n2, g2, ll, rfl, ⟨_, SqL.of (S8 _ _ e3)⟩, for_list (K := K) (a := ll) (xs := ts.map V.ref) (fun j σ H' => ∃ v4 v5 v6 : Option V, σ = [some (.ref p), some (.int (fs : Int)), some (.int (l : Int)), v3, v4, v5, v6, some (.ref t)] ∧ Same H7 H' ∧ ∀ j', j' < j → ∀ k, N.ls[j']? = some k → mm (k.1, k.2.1) = m → openL N fs l m.1 m.2)
        ⟨v4, v5, v6, rfl, s8, fun j' hj' => absurd hj' (Nat.not_lt_zero _)⟩ (fun j σ H' _ ⟨_, _, _, _, sm, _⟩ => SqL.of (sm _ _ (S7 _ _ e3))) ?_ ?_⟩
      · rintro j x σ H9 hj ⟨v4, v5, v6, rfl, s9, hop9⟩
        rw [List.getElem?_map] at hj
        cases ht : ts[j]? with
        | none => rw [ht] at hj; cases hj
        | some tt =>
          rw [ht] at hj
          cases hj
          obtain ⟨z, ez, hz⟩ := Paired.at e4 ht
          have hzm := List.mem_of_getElem? ez
          have S9 := S7.trans s9
          refine ⟨tt, _, rfl, same_tup S9 hz, rfl, _, _, rfl, _, _, rfl, _, _, rfl, rfl, ?_⟩
          have e1' : (if (z.2.1 : Int) < (z.1 : Int) then (z.2.1 : Int) else (z.1 : Int)) = (((mm (z.1, z.2.1)).1 : Nat) : Int) := by
            unfold mm
            show _ = ((min z.1 z.2.1 : Nat) : Int)
            split <;> omega
          have e2' : (if (z.2.1 : Int) > (z.1 : Int) then (z.2.1 : Int) else (z.1 : Int)) = (((mm (z.1, z.2.1)).2 : Nat) : Int) := by
            unfold mm
            show _ = ((max z.1 z.2.1 : Nat) : Int)
            split <;> omega
          have hcase : openL N fs l m.1 m.2 ∨ ¬ openL N fs l m.1 m.2 := Classical.em _
          have bb : ∃ bo : Bool, (bo = true ↔ openL N fs l m.1 m.2) := by
            rcases hcase with h | h
            · exact ⟨true, fun _ => h, fun _ => rfl⟩
            · exact ⟨false, (fun z => by cases z), fun z => absurd z h⟩
          obtain ⟨bo, hbo⟩ := bb
          dsimp only [tIfS]
          refine and_read2 (a := decide (mm (z.1, z.2.1) = m)) (b := !bo) (fun Q h => ?_) (fun hmz HA sA Q h => ?_) (fun HA sA => ?_)
          · refine ⟨_, rfl, _, rfl, _, _, rfl, _, rfl, _, rfl, _, _, rfl, by show 2 ≤ sizeLine; decide, fun u nu => ?_⟩
            rw [e1', e2'] at *
            have su := same_new (o := .tup [V.int (((mm (z.1, z.2.1)).1 : Nat) : Int), V.int (((mm (z.1, z.2.1)).2 : Nat) : Int)]) nu
            refine ⟨_, rfl, dPort (mm (z.1, z.2.1)), dPort m, dp_port (SqT.of upd_same), dp_port (SqT.of (su _ _ (s9 _ _ (sq _ _ hm)))), (shp_port _).shaped, (shp_port _).shaped, _, rfl, ?_⟩
            rw [eqv_port]
            exact h _ su
          · have hmz := of_decide_eq_true hmz
            refine ⟨_, rfl, _, rfl, _, rfl, _, rfl, _, rfl, by show 2 ≤ sizeLine; decide, fun u nu => ?_⟩
            have su := same_new (o := .tup [V.int (z.1 : Int), V.int (z.2.1 : Int)]) nu
            refine ⟨p, .ref u, fs, l, N, none, some (z.1, z.2.1), rfl, eN.same ((S9.trans sA).trans su), hbd, En.fl, by simp, fun H' s' => dp_port (SqT.of (s' _ _ upd_same)), hls, hn, fun b H3 s3 hb => ⟨_, rfl, ?_⟩⟩
            rw [cut_line En hzm, hmz] at hb
            have : b = bo := by rw [Bool.eq_iff_iff, hb, hbo]
            rw [this]
            exact h H3 (su.trans s3)
          · refine ite2 (fun e => ?_) (fun e => ?_)
            · rw [Bool.and_eq_true, decide_eq_true_eq, Bool.not_eq_true'] at e
              obtain ⟨em, eo⟩ := e
              have no : ¬ openL N fs l m.1 m.2 := fun y => by
                have := hbo.mpr y
                rw [eo] at this
                cases this
              have hmA := sA _ _ (s9 _ _ (sq _ _ hm))
              refine ⟨_, rfl, t, _, _, _, rfl, rfl, SqT.of hmA, rfl, _, rfl, t, _, _, _, rfl, rfl, SqT.of hmA, rfl, by show 3 ≤ sizeLine; decide, fun u nu => ?_⟩
              refine qs _ (some (.inr m)) _ ((S9.trans sA).trans (same_new nu)) (.line (fun u hu hsu => hop u hu hsu) ⟨mlt, mad⟩ no fun m' hm' hlx => ?_) ⟨u, rfl, upd_same⟩
              obtain ⟨k', hk', ek'⟩ := lineOf m' hm'
              obtain ⟨t', ht', hm2⟩ := back k' hk'
              rw [ek'] at hm2
              obtain ⟨j2, ej⟩ := List.mem_iff_getElem?.mp (stb.perm.mem_iff.mpr ht')
              refine hop8 j2 ?_ m' (by rw [ej]; show some (keyOf H6 (V.ref t')) = _; rw [keyOf_eq hm2])
              rcases Nat.lt_or_ge j2 i with y | y
              · exact y
              · obtain ⟨hj', ej'⟩ := List.getElem?_eq_some_iff.mp ej
                obtain ⟨hi', ei'⟩ := List.getElem?_eq_some_iff.mp hi
                rcases Nat.lt_or_ge i j2 with w1 | w1
                · have := List.pairwise_iff_getElem.mp srt i j2 hi' hj' w1
                  rw [ej', ei'] at this
                  have this := SrtO.lexB_no.mp this
                  rw [keyOf_eq hm2, keyOf_eq hm] at this
                  refine absurd ?_ this
                  show (m'.1 : Int) < (m.1 : Int) ∨ ((m'.1 : Int) = (m.1 : Int) ∧ (m'.2 : Int) < (m.2 : Int))
                  unfold lexP at hlx
                  omega
                · have : i = j2 := by omega
                  subst this
                  rw [ei'] at ej'
                  have e := congrArg (keyOf H6) ej'
                  rw [keyOf_eq hm2, keyOf_eq hm] at e
                  injection e with e1 e2
                  unfold lexP at hlx
                  omega
            · refine ⟨_, _, _, rfl, s9.trans sA, fun j' hj' k hk hmk => ?_⟩
              by_cases y : j' = j
              · subst y
                rw [ez] at hk
                have hk := Option.some.inj hk
                subst hk
                refine hbo.mp (Classical.byContradiction fun nb => e ?_)
                rw [Bool.and_eq_true, decide_eq_true_eq, Bool.not_eq_true']
                exact ⟨hmk, Bool.eq_false_iff.mpr nb⟩
              · exact hop9 j' (by omega) k hk hmk
      · rintro σ H9 ⟨v4, v5, v6, rfl, s9, hop9⟩
        rw [List.length_map, tlen] at hop9
        refine ⟨_, _, _, _, rfl, s9, fun k hk m' hm' => ?_⟩
        by_cases y : k = i
        · subst y
          rw [hi] at hm'
          have hm' : some (keyOf H6 (V.ref t)) = some ((m'.1 : Int), (m'.2 : Int)) := hm'
          rw [keyOf_eq hm] at hm'
          have hm' := Option.some.inj hm'
          injection hm' with y1 y2
          have e3 : m.1 = m'.1 := by omega
          have e4 : m.2 = m'.2 := by omega
          rw [← e3, ← e4]
          obtain ⟨kk, hkk, ekk⟩ := lineOf m ⟨mlt, mad⟩
          obtain ⟨j, ej⟩ := List.mem_iff_getElem?.mp hkk
          exact hop9 j (List.getElem?_eq_some_iff.mp ej).1 kk ej ekk
        · exact hop8 k (by omega) m' hm'
    · rintro σ H8 ⟨v4, v5, v6, v7, rfl, s8, hop8⟩
      refine qs H8 none _ (S7.trans s8) (.none (fun u hu hsu => hop u hu hsu) fun m hm' => ?_) rfl
      obtain ⟨k', hk', ek'⟩ := lineOf m hm'
      obtain ⟨t', ht', hm2⟩ := back k' hk'
      rw [ek'] at hm2
      obtain ⟨j2, ej⟩ := List.mem_iff_getElem?.mp (stb.perm.mem_iff.mpr ht')
      exact hop8 j2 (List.getElem?_eq_some_iff.mp ej).1 m (by rw [ej]; show some (keyOf H6 (V.ref t')) = _; rw [keyOf_eq hm2])
end
end My
namespace My
open PySem PySem.Spec PyProof.Rows L2
abbrev sRight : Stmt := top 25
theorem dec_non (o : Option Int) : decide (optV o = .non) = !o.isSome := by
  cases o with
  | none => rfl
  | some d => rfl
theorem cut_to (r : List Nat) {k : Nat} (h : k ≤ r.length) : cutV (natsV r) none (some (k : Int)) = natsV (r.take k) := by
  unfold cutV
  rw [HT.sIx_none, HT.sIx_nat, natsV_len, Nat.min_eq_left h, List.drop_zero, Nat.sub_zero, natsV_take']
theorem at_nat {r : List Nat} (j : Nat) (h : j < r.length) {z : Int} (e : z = (j : Int)) : atI (natsV r) z = some (.int ((r.getD j 0 : Nat) : Int)) := by
  rw [e]
  exact atI_nat (natsV_at (getD_at 0 h))
section
variable {P : Program} {w : World} {K : PySem.W.Frag} {mg : Str → Option Value} {base : Heap}
theorem scRight : FnScope ["net", "path", "first", "last", "k"] ["net", "path", "first", "last"] (defScope sRight) := ⟨rfl, rfl, rfl, by decide +kernel, rfl, by decide +kernel, by decide +kernel⟩
def spRight (K : PySem.W.Frag) (C : Addr) : Sp := fun vs H Q _ => ∃ (p a : Addr) (f l : Nat) (N : NetD) (r : List Nat), vs = [.ref p, .ref a, .int (f : Int), .int (l : Int)] ∧ NetAt K C H p N ∧ H a = some (.lst (natsV r)) ∧ Path N f l r ∧ r.length ≤ 100 ∧ ∀ H', Same H H' → Q (.bl true) H'
theorem ok_right {f C fJ : Addr} {fd fdJ : FuncData} {k : Nat} (F : Fun K "_law_right" "_law_right" sRight f fd) (T : Blt mg) (hisi : mg "isinstance" = none) (c : NetC K C) (J : Callee P w K mg base 1 "_law_joined" ["net", "a", "b"] (spJoined K C) fJ fdJ) :
    FnOk P w K mg base CX0 (k + 2) f fd ["net", "path", "first", "last"] (spRight K C) := by
  refine F.ok scRight (fun vs H Q E h => ?_) (fun cdv A0 outer s0 H vs Q E hr h => ?_)
  · obtain ⟨p, a, fs, l, N, r, rfl, _⟩ := h
    rfl
  · obtain ⟨p, a, fs, l, N, r, rfl, hN, ha, hP, hlr, q⟩ := h
    have nd := scRight.nd
    have hr1 : Room 1 _ := hr.mono (by omega)
    refine ⟨_, pss_cons (ps_if (PW.pt (pw_or (pt_not (pt_val (pe_callB call_isi (by rfl) hisi PyProof.Rows.boot_isinstance (pa_cons (pv 1) (pa_cons (pe_bltn (v := .ty "list") (by rfl) T.list PyProof.Rows.boot_list rfl) pa_nil))))) (pw_or (pt_cmpR op_lt (pe_callB call_len_seq (by rfl) T.len PySem.boot_len (pa_cons (pv 1) pa_nil)) pe_int (nomark _)) (pw_or (pt_cmpR op_ne (pe_ix ix_list (pv 1) pe_int (fun _ _ => rfl)) (pv 2) (nomark _)) (pw_or1 (pt_cmpR op_ne (pe_ix ix_list (pv 1) (pe_op op_sub (pe_callB call_len_seq (by rfl) T.len PySem.boot_len (pa_cons (pv 1) pa_nil)) pe_int) (fun _ _ => rfl)) (pv 3) (nomark _))))))) (pss_one (ps_ret pe_bl)) (pss_nil)) <| pss_cons (ps_for PassesOwn.never rfl (pi_range2 (by rfl) T.range (pa_cons pe_int (pa_cons (pe_callB call_len_seq (by rfl) T.len PySem.boot_len (pa_cons (pv 1) pa_nil)) pa_nil))) (pg_name (i := 4) nd rfl (.inl rfl)) (pss_cons (ps_if (PW.pt (pw_or (pt_cmpR op_in_seq (pe_ix ix_list (pv 1) (pv 4) (fun _ _ => rfl)) (pe_slice sl_list (pv 1) po_none (po_some (pv 4))) rfl) (pw_or1 (pt_cmpR op_isN (pe_call J.ok hr1 (by rfl) J.mg J.kp J.b .nil pass0 (pa_cons (pv 0) (pa_cons (pe_ix ix_list (pv 1) (pe_op op_sub (pv 4) pe_int) (fun _ _ => rfl)) (pa_cons (pe_ix ix_list (pv 1) (pv 4) (fun _ _ => rfl)) pa_nil)))) pe_non (nomark _))))) (pss_one (ps_ret pe_bl)) (pss_nil)) <| pss_one (ps_if (PW.pt (pw_and (pt_cmpR op_lt (pv 4) (pe_op op_sub (pe_callB call_len_seq (by rfl) T.len PySem.boot_len (pa_cons (pv 1) pa_nil)) pe_int) (nomark _)) (pw_and1 (pt_cmpR op_ne (pe_ix ix_list (pe_fld (pv 0) rfl) (pe_ix ix_list (pv 1) (pv 4) (fun _ _ => rfl)) (fun _ _ => rfl)) pe_str (nomark _))))) (pss_one (ps_ret pe_bl)) (pss_nil)))) <| pss_one (ps_ret pe_bl), ?_⟩
    have eN := hN
    obtain ⟨dx, lk, ll, ld, ts, e1, e2, e3, e4, e5⟩ := hN
    have two := hP.is.two
    have hl' := hP.lst
    unfold lastN at hl'
    have ln := natsV_len r
    have at_last : atI (natsV r) (((natsV r).length : Int) - 1) = some (.int (l : Int)) := by
      rw [← hl']
      exact at_nat (r.length - 1) (by omega) (by rw [ln]; omega)
    have at_0 : atI (natsV r) 0 = some (.int (fs : Int)) := by
      rw [← hP.fst]
      exact at_nat 0 (by omega) rfl
    dsimp only [tIfS]
    refine or_read (a := false) (b := false) (fun Q h => ?_) (fun Q h => or_read (a := false) (b := false) (fun Q h => ?_) (fun Q h => or_read (a := false) (b := false) (fun Q h => ?_) (fun Q h => ?_) h) h) ?_
    · exact ⟨_, rfl, .ref a, .ty "list", .type "list", .type "list", true, rfl, .ty "list", .base (.lst ha), kit_ty (by decide +kernel), _, rfl, h⟩
    · refine ⟨_, rfl, a, _, rfl, .inl (SqL.of ha), _, _, rfl, rfl, _, rfl, ?_⟩
      rw [decide_eq_false (by rw [ln]; omega)]
      exact h
    · refine ⟨_, rfl, a, _, _, _, rfl, rfl, SqL.of ha, at_0, _, rfl, rfl, _, rfl, ?_⟩
      rw [decide_eq_true rfl]
      exact h
    · refine ⟨_, rfl, _, rfl, a, _, rfl, .inl (SqL.of ha), _, _, rfl, rfl, a, _, _, _, rfl, rfl, SqL.of ha, at_last, _, rfl, rfl, _, rfl, ?_⟩
      rw [decide_eq_true rfl]
      exact h
    refine ite2 (fun e => by cases e) (fun _ => ?_)
    refine ⟨_, rfl, a, _, rfl, .inl (SqL.of ha), _, _, rfl, ⟨by omega, by omega, by omega, by rw [ln]; omega⟩, for_range (lo := 1) (n := (((natsV r).length : Int) - 1).toNat) (fun i σ H' => ∃ v4 : Option V, σ = [some (.ref p), some (.ref a), some (.int (fs : Int)), some (.int (l : Int)), v4] ∧ Same H H') ⟨none, rfl, Same.refl H⟩ ?_ ?_⟩
    · rintro i σ H1 hi ⟨v4, rfl, s1⟩
      have hi : i + 1 < r.length := by rw [ln] at hi; omega
      have ei : (1 : Int) + (i : Int) = ((i + 1 : Nat) : Int) := by omega
      rw [ei]
      have at1 : atI (natsV r) ((i + 1 : Nat) : Int) = some (.int ((r.getD (i + 1) 0 : Nat) : Int)) := at_nat (i + 1) hi rfl
      have at0 : atI (natsV r) (((i + 1 : Nat) : Int) - 1) = some (.int ((r.getD i 0 : Nat) : Int)) := at_nat i (by omega) (by omega)
      dsimp only [gName, tSeq, tIfS]
      refine or_read2 (a := false) (b := false) (fun Q h => ?_) (fun H2 s2 Q h => ?_) (fun H2 s2 => ?_)
      · refine ⟨_, rfl, _, rfl, a, _, _, _, rfl, rfl, SqL.of (s1 _ _ ha), at1, _, rfl, _, rfl, _, rfl, a, _, rfl, SqL.of (s1 _ _ ha), fun y ny => ?_⟩
        have sy := same_new (o := .lst (cutV (natsV r) none (some ((i + 1 : Nat) : Int)))) ny
        rw [cut_to r (by omega)] at sy ⊢
        refine ⟨y, _, rfl, .inl (SqL.of upd_same), rfl, natsV_flat _, _, rfl, ?_⟩
        show Q (inV (V.int ((r.getD (i + 1) 0 : Nat) : Int)) (natsV (r.take (i + 1)))) _
        have nc : (r.take (i + 1)).contains (r.getD (i + 1) 0) = false := Bool.eq_false_iff.mpr fun z => by
          have z := List.contains_iff_mem.mp z
          obtain ⟨j, ej⟩ := List.mem_iff_getElem?.mp z
          rw [List.getElem?_take] at ej
          split at ej
          · rename_i hj
            have := nd_getD hP.is.nd (by omega : j < r.length) hi (by rw [List.getD_eq_getElem?_getD, ej]; rfl)
            omega
          · cases ej
        rw [natsV_in, nc]
        exact h _ sy
      · refine ⟨_, rfl, _, rfl, _, rfl, _, _, rfl, rfl, a, _, _, _, rfl, rfl, SqL.of (s2 _ _ (s1 _ _ ha)), at0, _, rfl, _, rfl, a, _, _, _, rfl, rfl, SqL.of (s2 _ _ (s1 _ _ ha)), at1, p, r.getD i 0, r.getD (i + 1) 0, N, rfl, eN.same (s1.trans s2), ?_⟩
        refine ⟨rfl, _, rfl, ?_⟩
        rw [dec_non, joined_some, hP.is.ad i hi]
        exact h H2 (Same.refl H2)
      refine ite2 (fun e => by cases e) (fun _ => ?_)
      have S2 := s1.trans s2
      dsimp only [tNext, tIfS]
      refine and_read (a := decide (i + 1 < r.length - 1)) (b := false) (fun Q h => ?_) (fun hlt Q h => ?_) ?_
      · refine ⟨_, rfl, _, rfl, a, _, rfl, .inl (SqL.of (S2 _ _ ha)), _, _, rfl, rfl, _, _, rfl, rfl, _, rfl, ?_⟩
        rw [show decide (((i + 1 : Nat) : Int) < ((natsV r).length : Int) - 1) = decide (i + 1 < r.length - 1) by rw [Bool.eq_iff_iff, decide_eq_true_eq, decide_eq_true_eq, ln]; omega]
        exact h
      · have hlt := of_decide_eq_true hlt
        have hh := hP.is.hs (i + 1) hi
        rw [decide_eq_false (by omega), decide_eq_false (by omega)] at hh
        have ek : kindV (N.ks.getD (r.getD (i + 1) 0) true) = V.str "switch" := by
          unfold host at hh
          rw [hh]
          rfl
        refine ⟨_, rfl, p, C, dx, _, _, rfl, S2 _ _ e1, c.cl, c.n1, g1, _, rfl, _, rfl, a, _, _, _, rfl, rfl, SqL.of (S2 _ _ ha), at1, lk, _, _, _, rfl, rfl, SqL.of (S2 _ _ e2), atI_kind rfl (hP.lt _ (getD_in hi)), ?_⟩
        rw [ek]
        refine ⟨rfl, _, rfl, ?_⟩
        rw [decide_eq_true rfl]
        exact h
      · rw [Bool.and_false]
        exact ite2 (fun e => by cases e) (fun _ => ⟨_, rfl, S2⟩)
    · rintro σ H1 ⟨v4, rfl, s1⟩
      exact q H1 s1
end
end My
namespace My
open PySem PySem.Spec PyProof.Rows L2
abbrev sPair : Stmt := top 26
theorem cut_in (r : List Nat) (h : 1 ≤ r.length) : cutV (natsV r) (some 1) (some (((natsV r).length : Int) - 1)) = natsV (inner r) := by
  unfold cutV inner
  have e1 : HT.sIx (natsV r).length 0 (some 1) = min 1 (natsV r).length := HT.sIx_nat _ _ 1
  rw [e1, natsV_len, show ((r.length : Int) - 1) = ((r.length - 1 : Nat) : Int) by omega, HT.sIx_nat, Nat.min_eq_left h, Nat.min_eq_left (by omega), natsV_drop', natsV_take']
def dB : Option (Nat ⊕ Nat × Nat) → PyData
  | none => .none
  | some (.inl u) => .tuple [.str "switch", .int (u : Int)]
  | some (.inr p) => .tuple [.str "line", .int (p.1 : Int), .int (p.2 : Int)]
theorem shp_ws (b : Bool) : Shp 0 (.str (if b then "switch" else "line")) := ⟨by rw [PyData.canLay0]; cases b <;> decide +kernel, by rw [PyData.depth]; exact Nat.le_refl _⟩
theorem shp_B (o : Option (Nat ⊕ Nat × Nat)) : SeqAt.shaped (dB o) = true := by
  match o with
  | none => exact shaped_none
  | some (.inl u) =>
    refine (shp_tuple (n := 0) fun d hd => ?_).shaped
    rcases List.mem_cons.mp hd with e | hd
    · rw [e]; exact shp_ws true
    · rw [List.mem_singleton.mp hd]; exact shp_int _
  | some (.inr p) =>
    refine (shp_tuple (n := 0) fun d hd => ?_).shaped
    rcases List.mem_cons.mp hd with e | hd
    · rw [e]; exact shp_ws false
    · rcases List.mem_cons.mp hd with e | hd
      · rw [e]; exact shp_int _
      · rw [List.mem_singleton.mp hd]; exact shp_int _
theorem eqv_B (o : Option (Nat ⊕ Nat × Nat)) : PyData.eqv (dB o) (dB o) = true := by
  match o with
  | none => exact eqv_none
  | some (.inl u) => exact SeqAt.eqv_refl _ (SeqAt.canLay_of_shaped (shp_B (some (.inl u))))
  | some (.inr p) => exact SeqAt.eqv_refl _ (SeqAt.canLay_of_shaped (shp_B (some (.inr p))))
theorem dp_B {K : PySem.W.Frag} {H : Hp} {o : Option (Nat ⊕ Nat × Nat)} {v : V} (h : BottV H o v) : Dp K H v (dB o) := by
  match o, h with
  | none, h =>
    cases (show v = .non from h)
    exact .non
  | some (.inl u), h =>
    obtain ⟨t, rfl, ht⟩ := h
    exact .tup (SqT.of ht) (.cons (.str _) (.cons (.int _) .nil))
  | some (.inr p), h =>
    obtain ⟨t, rfl, ht⟩ := h
    exact .tup (SqT.of ht) (.cons (.str _) (.cons (.int _) (.cons (.int _) .nil)))
theorem BottV.same {H H' : Hp} {o : Option (Nat ⊕ Nat × Nat)} {v : V} (h : BottV H o v) (e : Same H H') : BottV H' o v := by
  match o, h with
  | none, h => exact h
  | some (.inl u), h =>
    obtain ⟨t, r, ht⟩ := h
    exact ⟨t, r, e _ _ ht⟩
  | some (.inr p), h =>
    obtain ⟨t, r, ht⟩ := h
    exact ⟨t, r, e _ _ ht⟩
theorem bott_non {H : Hp} {o : Option (Nat ⊕ Nat × Nat)} {v : V} (h : BottV H o v) : (v = .non) ↔ o = none := by
  match o, h with
  | none, h => exact ⟨fun _ => rfl, fun _ => h⟩
  | some (.inl u), h =>
    obtain ⟨t, rfl, _⟩ := h
    exact ⟨(fun z => by cases z), (fun z => by cases z)⟩
  | some (.inr p), h =>
    obtain ⟨t, rfl, _⟩ := h
    exact ⟨(fun z => by cases z), (fun z => by cases z)⟩
section
variable {P : Program} {w : World} {K : PySem.W.Frag} {mg : Str → Option Value} {base : Heap}
theorem scPair : FnScope ["net", "first", "last", "told", "narrow", "due", "inner", "node"] ["net", "first", "last"] (defScope sPair) := ⟨rfl, rfl, rfl, by decide +kernel, rfl, by decide +kernel, by decide +kernel⟩
def spPair (K : PySem.W.Frag) (C : Addr) : Sp := fun vs H Q _ => ∃ (p : Addr) (f l : Nat) (N : NetD), vs = [.ref p, .int (f : Int), .int (l : Int)] ∧ NetAt K C H p N ∧ Ends N f l ∧ (∀ k ∈ N.ls, k.1 < N.ks.length ∧ k.2.1 < N.ks.length) ∧ N.ls.length ≤ 100 ∧ N.ks.length ≤ 20 ∧ ∀ H', Same H H' → Q (.bl true) H'
theorem ok_pair {f C fSe fB fO fLB fR : Addr} {fd fdSe fdB fdO fdLB fdR : FuncData} {k : Nat} (F : Fun K "_law_pair_holds" "_law_pair_holds" sPair f fd) (T : Blt mg) (hisi : mg "isinstance" = none) (htup : mg "tuple" = none)
    (GSe : Callee P w K mg base 4 "separate_paths" ["net", "first", "last"] (spSepa K C) fSe fdSe) (GB : Callee P w K mg base 4 "bottleneck" ["net", "first", "last"] (spBott K C) fB fdB) (GO : Callee P w K mg base 1 "_law_open" ["net", "first", "last", "node", "line"] (spOpen K C) fO fdO)
    (GLB : Callee P w K mg base 2 "_law_bottleneck" ["net", "first", "last"] (spLB K C) fLB fdLB) (GR : Callee P w K mg base 2 "_law_right" ["net", "path", "first", "last"] (spRight K C) fR fdR) : FnOk P w K mg base CX0 (k + 5) f fd ["net", "first", "last"] (spPair K C) := by
  refine F.ok scPair (fun vs H Q E h => ?_) (fun cdv A0 outer s0 H vs Q E hr h => ?_)
  · obtain ⟨p, fs, l, N, rfl, _⟩ := h
    rfl
  · obtain ⟨p, fs, l, N, rfl, hN, En, hbd, hls, hn, q⟩ := h
    have nd := scPair.nd
    have hr1 : Room 1 _ := hr.mono (by omega)
    have hr2 : Room 2 _ := hr.mono (by omega)
    have hr4 : Room 4 _ := hr.mono (by omega)
    refine ⟨_, pss_cons (ps_set (i := 3) nd rfl (.inl rfl) (pe_call GSe.ok hr4 (by rfl) GSe.mg GSe.kp GSe.b .nil pass0 (pa_cons (pv 0) (pa_cons (pv 1) (pa_cons (pv 2) pa_nil))))) <| pss_cons (ps_set (i := 4) nd rfl (.inl rfl) (pe_call GB.ok hr4 (by rfl) GB.mg GB.kp GB.b .nil pass0 (pa_cons (pv 0) (pa_cons (pv 1) (pa_cons (pv 2) pa_nil))))) <| pss_cons (ps_if (pt_not (pt_val (pe_call GO.ok hr1 (by rfl) GO.mg GO.kp GO.b .nil pass0 (pa_cons (pv 0) (pa_cons (pv 1) (pa_cons (pv 2) (pa_cons pe_non (pa_cons pe_non pa_nil)))))))) (pss_one (ps_ret (pe_and (pe_cmpR op_isN (pv 3) pe_non (nomark _)) (pe_one (pe_cmpR op_isN (pv 4) pe_non (nomark _)))))) (pss_nil)) <| pss_cons (ps_set (i := 5) nd rfl (.inl rfl) (pe_call GLB.ok hr2 (by rfl) GLB.mg GLB.kp GLB.b .nil pass0 (pa_cons (pv 0) (pa_cons (pv 1) (pa_cons (pv 2) pa_nil))))) <| pss_cons (ps_if (PW.pt (pw_or (pt_cmpR (op_neD hr.units) (pv 4) (pv 5) (nomark _)) (pw_or1 (pt_cmpR op_ne (pe_cmpR op_isN (pv 3) pe_non (nomark _)) (pe_cmpR op_notN (pv 5) pe_non (nomark _)) (nomark _))))) (pss_one (ps_ret pe_bl)) (pss_nil)) <| pss_cons (ps_if (pt_cmpR op_isN (pv 3) pe_non (nomark _)) (pss_one (ps_ret pe_bl)) (pss_nil)) <| pss_cons (ps_if (PW.pt (pw_or (pt_not (pt_val (pe_callB call_isi (by rfl) hisi PyProof.Rows.boot_isinstance (pa_cons (pv 3) (pa_cons (pe_bltn (v := .ty "tuple") (by rfl) htup PyProof.Rows.boot_tuple rfl) pa_nil))))) (pw_or1 (pt_cmpR op_ne (pe_callB call_len_seq (by rfl) T.len PySem.boot_len (pa_cons (pv 3) pa_nil)) pe_int (nomark _))))) (pss_one (ps_ret pe_bl)) (pss_nil)) <| pss_cons (ps_if (PW.pt (pw_or (pt_not (pt_val (pe_call GR.ok hr2 (by rfl) GR.mg GR.kp GR.b .nil pass0 (pa_cons (pv 0) (pa_cons (pe_ix ix_tup (pv 3) pe_int (fun _ _ => rfl)) (pa_cons (pv 1) (pa_cons (pv 2) pa_nil))))))) (pw_or1 (pt_not (pt_val (pe_call GR.ok hr2 (by rfl) GR.mg GR.kp GR.b .nil pass0 (pa_cons (pv 0) (pa_cons (pe_ix ix_tup (pv 3) pe_int (fun _ _ => rfl)) (pa_cons (pv 1) (pa_cons (pv 2) pa_nil)))))))))) (pss_one (ps_ret pe_bl)) (pss_nil)) <| pss_cons (ps_set (i := 6) nd rfl (.inl rfl) (pe_slice sl_list (pe_ix ix_tup (pv 3) pe_int (fun _ _ => rfl)) (po_some pe_int) (po_some (pe_op op_sub (pe_callB call_len_seq (by rfl) T.len PySem.boot_len (pa_cons (pe_ix ix_tup (pv 3) pe_int (fun _ _ => rfl)) pa_nil)) pe_int)))) <| pss_cons (ps_for PassesOwn.never rfl (pi_list (pe_slice sl_list (pe_ix ix_tup (pv 3) pe_int (fun _ _ => rfl)) (po_some pe_int) (po_some (pe_op op_sub (pe_callB call_len_seq (by rfl) T.len PySem.boot_len (pa_cons (pe_ix ix_tup (pv 3) pe_int (fun _ _ => rfl)) pa_nil)) pe_int)))) (pg_name (i := 7) nd rfl (.inl rfl)) (pss_one (ps_if (pt_cmpR op_in_seq (pv 7) (pv 6) rfl) (pss_one (ps_ret pe_bl)) (pss_nil)))) <| pss_one (ps_ret (pe_cmpR op_gt (pe_op op_add (pe_callB call_len_seq (by rfl) T.len PySem.boot_len (pa_cons (pe_ix ix_tup (pv 3) pe_int (fun _ _ => rfl)) pa_nil)) (pe_callB call_len_seq (by rfl) T.len PySem.boot_len (pa_cons (pe_ix ix_tup (pv 3) pe_int (fun _ _ => rfl)) pa_nil))) pe_int (nomark _))), ?_⟩
    refine ⟨_, rfl, _, rfl, _, rfl, p, fs, l, N, rfl, hN, En, hn, fun H1 s1 hno => ?_, fun H1 t a b r s s1 ht ha hb hPr hPs hin h3 => ?_⟩
    · -- told is None
      refine ⟨_, rfl, _, rfl, _, rfl, p, fs, l, N, rfl, hN.same s1, En, hn, by omega, fun H2 s2 hnp => ?_, fun H2 o v s2 hp hB hv => ?_⟩
      · refine ⟨_, rfl, _, rfl, _, rfl, p, .non, fs, l, N, none, none, rfl, hN.same (s1.trans s2), hbd, En.fl, by simp, fun _ _ => .non, hls, hn, fun bo H3 s3 hbo => ⟨_, rfl, ?_⟩⟩
        have : bo = false := Bool.eq_false_iff.mpr fun z => hnp ((cut_all En).mp (hbo.mp z))
        rw [this]
        refine ite2 (fun _ => ?_) (fun e => absurd rfl e)
        refine ⟨_, rfl, rfl, _, rfl, ?_⟩
        rw [decide_eq_true rfl]
        refine ⟨_, rfl, rfl, ?_⟩
        rw [decide_eq_true rfl]
        exact q H3 ((s1.trans s2).trans s3)
      · obtain ⟨r0, hr0⟩ := hp
        refine ⟨_, rfl, _, rfl, _, rfl, p, .non, fs, l, N, none, none, rfl, hN.same (s1.trans s2), hbd, En.fl, by simp, fun _ _ => .non, hls, hn, fun bo H3 s3 hbo => ⟨_, rfl, ?_⟩⟩
        have : bo = true := hbo.mpr ((cut_all En).mpr ⟨r0, hr0⟩)
        rw [this]
        refine ite2 (fun e => by cases e) (fun _ => ?_)
        have S3 := (s1.trans s2).trans s3
        refine ⟨_, rfl, _, rfl, _, rfl, p, fs, l, N, rfl, hN.same S3, En, hbd, hls, hn, fun H4 o' v' s4 hB' hv' => ?_⟩
        have eo := hB.one hB'
        subst eo
        have one : o ≠ none := by
          obtain ⟨W, hW⟩ := split_of (path_way hr0) (fun e => En.ne e.symm)
          rcases hno with hno | ⟨W2, w2, hno⟩
          · exact absurd hW (hno W)
          · exact cut_some En hr0 (cut_of En w2 hno) hB
        have hv4 := hv.same (s3.trans s4)
        dsimp only [gName, tSeq, tIfS]
        refine or_read (a := false) (b := false) (fun Q h => ?_) (fun Q h => ?_) ?_
        · refine ⟨_, rfl, _, rfl, dB o, dB o, dp_B hv4, dp_B hv', shp_B o, shp_B o, _, rfl, ?_⟩
          rw [eqv_B]
          exact h
        · refine ⟨_, rfl, rfl, _, rfl, rfl, ?_⟩
          rw [decide_eq_true rfl, decide_eq_false (fun z => one ((bott_non hv').mp z))]
          exact ⟨rfl, _, rfl, h⟩
        refine ite2 (fun e => by cases e) (fun _ => ?_)
        refine ⟨_, rfl, rfl, _, rfl, ?_⟩
        rw [decide_eq_true rfl]
        exact ite2 (fun _ => q H4 (S3.trans s4)) (fun e => absurd rfl e)
    · -- two paths
      have hex : ∃ r, Path N fs l r := ⟨r, hPr⟩
      have hBn : Bott N fs l none := two_none hPr hPs hin h3
      refine ⟨_, rfl, _, rfl, _, rfl, p, fs, l, N, rfl, hN.same s1, En, hn, by omega, fun H2 s2 hnp => absurd hex hnp, fun H2 o v s2 hp hB hv => ?_⟩
      have eo := hB.one hBn
      subst eo
      have hv : v = .non := hv
      subst hv
      refine ⟨_, rfl, _, rfl, _, rfl, p, .non, fs, l, N, none, none, rfl, hN.same (s1.trans s2), hbd, En.fl, by simp, fun _ _ => .non, hls, hn, fun bo H3 s3 hbo => ⟨_, rfl, ?_⟩⟩
      have : bo = true := hbo.mpr ((cut_all En).mpr hex)
      rw [this]
      refine ite2 (fun e => by cases e) (fun _ => ?_)
      have S3 := (s1.trans s2).trans s3
      refine ⟨_, rfl, _, rfl, _, rfl, p, fs, l, N, rfl, hN.same S3, En, hbd, hls, hn, fun H4 o' v' s4 hB' hv' => ?_⟩
      have eo := hB'.one hBn
      subst eo
      have hv' : v' = .non := hv'
      subst hv'
      have z4 := (s2.trans s3).trans s4
      have ht4 := z4 _ _ ht
      have ha4 := z4 _ _ ha
      have hb4 := z4 _ _ hb
      have S4 := S3.trans s4
      have lr : r.length ≤ 20 := Nat.le_trans (nodup_lt _ r hPr.is.nd hPr.lt) hn
      have ls' : s.length ≤ 20 := Nat.le_trans (nodup_lt _ s hPs.is.nd hPs.lt) hn
      have two := hPr.is.two
      have two' := hPs.is.two
      have lnr := natsV_len r
      have lns := natsV_len s
      dsimp only [gName, tSeq, tIfS]
      refine or_read (a := false) (b := false) (fun Q h => ?_) (fun Q h => ?_) ?_
      · refine ⟨_, rfl, _, rfl, .none, .none, .non, .non, shaped_none, shaped_none, _, rfl, ?_⟩
        rw [eqv_none]
        exact h
      · refine ⟨_, rfl, rfl, _, rfl, rfl, ?_⟩
        rw [decide_eq_false (by intro z; cases z), decide_eq_true rfl]
        exact ⟨rfl, _, rfl, h⟩
      refine ite2 (fun e => by cases e) (fun _ => ?_)
      refine ⟨_, rfl, rfl, _, rfl, ?_⟩
      rw [decide_eq_false (by intro z; cases z)]
      refine ite2 (fun e => by cases e) (fun _ => ?_)
      dsimp only [tNext, tSeq, tIfS]
      refine or_read (a := false) (b := false) (fun Q h => ?_) (fun Q h => ?_) ?_
      · exact ⟨_, rfl, .ref t, .ty "tuple", .type "tuple", .type "tuple", true, rfl, .ty "tuple", .base (.tup ht4), kit_ty (by decide +kernel), _, rfl, h⟩
      · refine ⟨_, rfl, t, _, rfl, .inr (SqT.of ht4), rfl, _, rfl, ?_⟩
        exact h
      refine ite2 (fun e => by cases e) (fun _ => ?_)
      refine or_read2 (a := false) (b := false) (fun Q h => ?_) (fun H5 s5 Q h => ?_) (fun H5 s5 => ?_)
      · exact ⟨_, rfl, _, rfl, t, _, _, _, rfl, rfl, SqT.of ht4, rfl, _, rfl, _, rfl, p, a, fs, l, N, r, rfl, hN.same S4, ha4, hPr, by omega, fun H5 s5 => ⟨_, rfl, h H5 s5⟩⟩
      · exact ⟨_, rfl, _, rfl, t, _, _, _, rfl, rfl, SqT.of (s5 _ _ ht4), rfl, _, rfl, _, rfl, p, b, fs, l, N, s, rfl, hN.same (S4.trans s5), s5 _ _ hb4, hPs, by omega, fun H6 s6 => ⟨_, rfl, h H6 s6⟩⟩
      refine ite2 (fun e => by cases e) (fun _ => ?_)
      have ht5 := s5 _ _ ht4
      have ha5 := s5 _ _ ha4
      have hb5 := s5 _ _ hb4
      have S5 := S4.trans s5
      -- inner
      refine ⟨_, rfl, t, _, _, _, rfl, rfl, SqT.of ht5, rfl, _, rfl, _, rfl, t, _, _, _, rfl, rfl, SqT.of ht5, rfl, a, _, rfl, .inl (SqL.of ha5), _, _, rfl, rfl, _, rfl, a, _, rfl, SqL.of ha5, fun y ny => ?_⟩
      have sy := same_new (o := .lst (cutV (natsV r) (some 1) (some (((natsV r).length : Int) - 1)))) ny
      have hy : (upd H5 y (.lst (cutV (natsV r) (some 1) (some (((natsV r).length : Int) - 1))))) y = some (.lst (natsV (inner r))) := by rw [upd_same, cut_in r (by omega)]
      generalize (upd H5 y (.lst (cutV (natsV r) (some 1) (some (((natsV r).length : Int) - 1))))) = H6 at sy hy ⊢
      have ht6 := sy _ _ ht5
      have ha6 := sy _ _ ha5
      have hb6 := sy _ _ hb5
      refine ⟨_, rfl, t, _, _, _, rfl, rfl, SqT.of ht6, rfl, _, rfl, _, rfl, t, _, _, _, rfl, rfl, SqT.of ht6, rfl, b, _, rfl, .inl (SqL.of hb6), _, _, rfl, rfl, _, rfl, b, _, rfl, SqL.of hb6, fun z nz => ?_⟩
      have sz' := same_new (o := .lst (cutV (natsV s) (some 1) (some (((natsV s).length : Int) - 1)))) nz
      have hz : (upd H6 z (.lst (cutV (natsV s) (some 1) (some (((natsV s).length : Int) - 1))))) z = some (.lst (natsV (inner s))) := by rw [upd_same, cut_in s (by omega)]
      generalize (upd H6 z (.lst (cutV (natsV s) (some 1) (some (((natsV s).length : Int) - 1))))) = H7 at sz' hz ⊢
      have S7 := (S5.trans sy).trans sz'
      refine ⟨z, rfl, ⟨_, SqL.of hz⟩, for_list (K := K) (a := z) (xs := natsV (inner s)) (fun i σ H' => ∃ v7 : Option V, σ = [some (.ref p), some (.int (fs : Int)), some (.int (l : Int)), some (.ref t), some .non, some .non, some (.ref y), v7] ∧ Same H7 H') ⟨none, rfl, Same.refl H7⟩ (fun i σ H' _ ⟨_, _, sm⟩ => SqL.of (sm _ _ hz)) ?_ ?_⟩
      · rintro i x σ H8 hi ⟨v7, rfl, s8⟩
        obtain ⟨m, em, rfl⟩ := nats_at' hi
        refine ⟨_, rfl, _, rfl, y, _, rfl, .inl (SqL.of (s8 _ _ (sz' _ _ hy))), rfl, natsV_flat _, _, rfl, ?_⟩
        show (if inV (V.int (m : Int)) (natsV (inner r)) = true then _ else _)
        rw [natsV_in]
        refine ite2 (fun e => absurd (List.mem_of_getElem? em) (hin m (List.contains_iff_mem.mp e))) (fun _ => ⟨_, rfl, s8⟩)
      · rintro σ H8 ⟨v7, rfl, s8⟩
        have ht8 := s8 _ _ (sz' _ _ ht6)
        refine ⟨_, rfl, t, _, _, _, rfl, rfl, SqT.of ht8, rfl, a, _, rfl, .inl (SqL.of (s8 _ _ (sz' _ _ ha6))), _, rfl, t, _, _, _, rfl, rfl, SqT.of ht8, rfl, b, _, rfl, .inl (SqL.of (s8 _ _ (sz' _ _ hb6))), _, _, rfl, rfl, _, _, rfl, rfl, ?_⟩
        have := q H8 (S7.trans s8)
        rw [show (true : Bool) = decide ((((natsV r).length : Nat) : Int) + (((natsV s).length : Nat) : Int) > 4) by rw [decide_eq_true]; rw [lnr, lns]; omega] at this
        exact this
end
end My
namespace My
open PySem PySem.Spec PyProof.Rows L2
abbrev sWide : Stmt := top 22
def wideK (n : Nat) : List Bool := (true :: List.replicate n false) ++ [true]
theorem wide_len (n : Nat) : (wideK n).length = n + 2 := by
  unfold wideK
  rw [List.length_append, List.length_cons, List.length_replicate, List.length_singleton]
structure PW (ps : List (Nat × Nat)) (n a b : Nat) : Prop where
  nd : ps.Nodup
  ok : ∀ p ∈ ps, p.2 < p.1 ∧ p.1 < n ∧ (p.1 < a ∨ (p.1 = a ∧ p.2 < b))
  few : ps.length ≤ 10 * a + b
theorem PW.skip {ps : List (Nat × Nat)} {n a b : Nat} (h : PW ps n a b) : PW ps n a (b + 1) := ⟨h.nd, fun p hp => by have := h.ok p hp; omega, by have := h.few; omega⟩
theorem PW.next {ps : List (Nat × Nat)} {n a b : Nat} (h : PW ps n a b) (hb : b ≤ 10) : PW ps n (a + 1) 0 := ⟨h.nd, fun p hp => by have := h.ok p hp; omega, by have := h.few; omega⟩
theorem PW.snoc {ps : List (Nat × Nat)} {n a b : Nat} (h : PW ps n a b) (ha : a < n) (hb : b < a) : PW (ps ++ [(a, b)]) n a (b + 1) := by
  refine ⟨nd_snoc' h.nd fun m => ?_, fun p hp => ?_, by have := h.few; rw [List.length_append, List.length_singleton]; omega⟩
  · have := (h.ok _ m).2.2
    have : a < a ∨ (a = a ∧ b < b) := this
    omega
  · rcases List.mem_append.mp hp with q | q
    · have := h.ok p q
      omega
    · rw [List.mem_singleton.mp q]
      exact ⟨hb, ha, .inr ⟨rfl, Nat.lt_succ_self _⟩⟩
section
variable {P : Program} {w : World} {K : PySem.W.Frag} {mg : Str → Option Value} {base : Heap}
theorem scWide : FnScope ["cell", "more", "numbers", "switches", "kinds", "pairs", "a", "b", "draws", "lines", "k"] ["cell", "more"] (defScope sWide) := ⟨rfl, rfl, rfl, by decide +kernel, rfl, by decide +kernel, by decide +kernel⟩
def spWide (K : PySem.W.Frag) (C : Addr) : Sp := fun vs H Q _ => ∃ (c m : Int), vs = [.int c, .int m] ∧ ∀ (H' : Hp) (x : Addr) (N : NetD), Same H H' → NetAt K C H' x N → Ends N 0 (N.ks.length - 1) → (∀ k ∈ N.ls, k.1 < N.ks.length ∧ k.2.1 < N.ks.length) → N.ls.length ≤ 100 → N.ks.length ≤ 20 → Q (.ref x) H'
theorem ok_wide {f C fD fI : Addr} {fd fdD fdI : FuncData} {k : Nat} (F : Fun K "_law_wide" "_law_wide" sWide f fd) (T : Blt mg) (D : Callee P w K mg base 1 "_law_draw" ["cell", "many", "bound"] spDraw fD fdD) (GI : NetMk P w K mg base C fI fdI)
    (hB : ∃ ds, Vals [V.int 0, V.int 0] ds ∧ Binds K fdI ["self", "kinds", "lines", "processing", "error"] ds) : FnOk P w K mg base CX0 (k + 3) f fd ["cell", "more"] (spWide K C) := by
  refine F.ok scWide (fun vs H Q E h => ?_) (fun cdv A outer s H vs Q E hr h => ?_)
  · obtain ⟨c, m, rfl, _⟩ := h
    rfl
  · obtain ⟨c, m, rfl, q⟩ := h
    have nd := scWide.nd
    have hr1 : Room 1 _ := hr.mono (by omega)
    have hr2 : Room 2 _ := hr.mono (by omega)
    obtain ⟨ds0, hds, hbd⟩ := hB
    refine ⟨_, pss_cons (ps_set (i := 2) nd rfl (.inr rfl) (pe_call D.ok hr1 (by rfl) D.mg D.kp D.b .nil pass0 (pa_cons (pv 0) (pa_cons pe_int (pa_cons (pe_op op_shl pe_int pe_int) pa_nil))))) <| pss_cons (ps_set (i := 3) nd rfl (.inl rfl) (pe_op op_add pe_int (pe_op op_mod (pe_ix ix_list (pv 2) pe_int (fun _ _ => rfl)) pe_int))) <| pss_cons (ps_set (i := 4) nd rfl (.inl rfl) (pe_op op_cat (pe_op op_cat (pe_lst (pa_cons pe_str pa_nil)) (pe_op op_rep (pe_lst (pa_cons pe_str pa_nil)) (pv 3))) (pe_lst (pa_cons pe_str pa_nil)))) <| pss_cons (ps_set (i := 5) nd rfl (.inr rfl) (pe_lst pa_nil)) <| pss_cons (ps_for PassesOwn.never rfl (pi_range1 (by rfl) T.range (pa_cons (pe_callB call_len_seq (by rfl) T.len PySem.boot_len (pa_cons (pv 4) pa_nil)) pa_nil)) (pg_name (i := 6) nd rfl (.inl rfl)) (pss_one (ps_for PassesOwn.never rfl (pi_range1 (by rfl) T.range (pa_cons (pv 6) pa_nil)) (pg_name (i := 7) nd rfl (.inl rfl)) (pss_one (ps_if (PW.pt (pw_or (pt_cmpR op_gt (pv 7) pe_int (nomark _)) (pw_or1 (pt_cmpR op_lt (pv 6) (pe_op op_sub (pe_callB call_len_seq (by rfl) T.len PySem.boot_len (pa_cons (pv 4) pa_nil)) pe_int) (nomark _))))) (pss_one (ps_expr (pe_bm PySem.F.plainAttrs_list PySem.F.slot_list_append PySem.F.type_list_append mt_append (pv 5) (pa_cons (pe_tup (pa_cons (pv 6) (pa_cons (pv 7) pa_nil))) pa_nil)))) (pss_nil)))))) <| pss_cons (ps_set (i := 8) nd rfl (.inr rfl) (pe_call D.ok hr1 (by rfl) D.mg D.kp D.b .nil pass0 (pa_cons (pv 1) (pa_cons (pe_callB call_len_seq (by rfl) T.len PySem.boot_len (pa_cons (pv 5) pa_nil)) (pa_cons (pe_op op_shl pe_int pe_int) pa_nil))))) <| pss_cons (ps_setLc (i := 9) (own := [("k", 10)]) (g := gName 10) rfl nd rfl rfl (sw_true rfl rfl rfl (by decide +kernel)) (pi_range1 (by rfl) T.range (pa_cons (pe_callB call_len_seq (by rfl) T.len PySem.boot_len (pa_cons (pv 5) pa_nil)) pa_nil)) (blkOk_by (own := [("k", 10)]) (N := ["cell", "more", "numbers", "switches", "kinds", "pairs", "a", "b", "draws", "lines", "k"]) (sc := defScope sWide) (by decide +kernel)) (fun _ _ _ _ _ => pg_name (i := 10) nd rfl (Or.inl rfl)) (fun _ _ _ _ _ => pts_one (pt_cmpR op_lt (pe_op op_mod (pe_ix (ix_listK (K := K)) (pv 8) (pv 10) (fun _ _ => rfl)) pe_int) (pe_op op_add pe_int (pe_op op_mod (pe_ix (ix_listK (K := K)) (pv 2) pe_int (fun _ _ => rfl)) pe_int)) (nomark _))) (fun _ _ _ _ _ => (pe_tup (pa_cons (pe_ix (ix_tupK (K := K)) (pe_ix (ix_listK (K := K)) (pv 5) (pv 10) (fun _ _ => rfl)) pe_int (fun _ _ => rfl)) (pa_cons (pe_ix (ix_tupK (K := K)) (pe_ix (ix_listK (K := K)) (pv 5) (pv 10) (fun _ _ => rfl)) pe_int (fun _ _ => rfl)) (pa_cons pe_int pa_nil)))))) <| pss_one (ps_ret (pe_make GI.mkC GI.ok hr2 (by rfl) GI.mg hbd hds pass0 (pa_cons (pv 4) (pa_cons (pv 9) pa_nil)))), ?_⟩
    refine ⟨_, rfl, _, _, rfl, rfl, ⟨by decide, by decide, by decide⟩, c, _, 3, rfl, by decide, by decide, by decide, fun H1 pn ns s1 npn hn ln bn => ?_⟩
    have x0 : 0 ≤ ns.getD 0 0 % 4 := Int.emod_nonneg _ (by decide)
    have x1 : ns.getD 0 0 % 4 < 4 := Int.emod_lt_of_pos _ (by decide)
    refine ⟨_, rfl, pn, _, _, _, rfl, rfl, SqL.of hn, atI_ints (j := 0) rfl (by omega), _, _, rfl, rfl, (by show (0 : Int) < 4; decide), _, _, rfl, rfl, ?_⟩
    obtain ⟨sw, esw⟩ : ∃ sw : Nat, (4 + ns.getD 0 0 % 4).toNat = sw := ⟨_, rfl⟩
    have sw7 : 4 ≤ sw ∧ sw ≤ 7 := by omega
    -- kinds
    refine ⟨by show 1 ≤ sizeLine; decide, fun u nu => ?_⟩
    have s2 := same_new (o := .lst [V.str "host"]) nu
    have hu2 : (upd H1 u (.lst [V.str "host"])) u = some (.lst [V.str "host"]) := upd_same
    generalize (upd H1 u (.lst [V.str "host"])) = H2 at s2 hu2 ⊢
    refine ⟨by show 1 ≤ sizeLine; decide, fun u2 nu2 => ?_⟩
    have s3 := same_new (o := .lst [V.str "switch"]) nu2
    have hu3 : (upd H2 u2 (.lst [V.str "switch"])) u2 = some (.lst [V.str "switch"]) := upd_same
    have hu23 := s3 _ _ hu2
    generalize (upd H2 u2 (.lst [V.str "switch"])) = H3 at s3 hu3 hu23 ⊢
    refine ⟨_, rfl, u2, _, _, rfl, rfl, hu3, by omega, by omega, sz (by rw [List.length_singleton]; omega), fun u3 nu3 => ?_⟩
    have s4 := same_new (o := .lst (List.replicate (4 + ns.getD 0 0 % 4).toNat [V.str "switch"]).flatten) nu3
    have hu4 : (upd H3 u3 (.lst (List.replicate (4 + ns.getD 0 0 % 4).toNat [V.str "switch"]).flatten)) u3 = some (.lst (List.replicate sw (V.str "switch"))) := by rw [upd_same, rep_flat, esw]
    have hu24 := s4 _ _ hu23
    generalize (upd H3 u3 (.lst (List.replicate (4 + ns.getD 0 0 % 4).toNat [V.str "switch"]).flatten)) = H4 at s4 hu4 hu24 ⊢
    refine ⟨u, u3, _, _, rfl, rfl, hu24, hu4, sz (by rw [List.length_replicate, List.length_singleton]; omega), fun u4 nu4 => ?_⟩
    have s5 := same_new (o := .lst ([V.str "host"] ++ List.replicate sw (V.str "switch"))) nu4
    have hu5 : (upd H4 u4 (.lst ([V.str "host"] ++ List.replicate sw (V.str "switch")))) u4 = some (.lst ([V.str "host"] ++ List.replicate sw (V.str "switch"))) := upd_same
    generalize (upd H4 u4 (.lst ([V.str "host"] ++ List.replicate sw (V.str "switch")))) = H5 at s5 hu5 ⊢
    refine ⟨by show 1 ≤ sizeLine; decide, fun u5 nu5 => ?_⟩
    have s6 := same_new (o := .lst [V.str "host"]) nu5
    have hu6 : (upd H5 u5 (.lst [V.str "host"])) u5 = some (.lst [V.str "host"]) := upd_same
    have hu56 := s6 _ _ hu5
    generalize (upd H5 u5 (.lst [V.str "host"])) = H6 at s6 hu6 hu56 ⊢
    refine ⟨u4, u5, _, _, rfl, rfl, hu56, hu6, sz (by rw [List.length_append, List.length_replicate, List.length_singleton]; omega), fun pk npk => ?_⟩
    have s7 := same_new (o := .lst (([V.str "host"] ++ List.replicate sw (V.str "switch")) ++ [V.str "host"])) npk
    have hk7 : (upd H6 pk (.lst (([V.str "host"] ++ List.replicate sw (V.str "switch")) ++ [V.str "host"]))) pk = some (.lst ((wideK sw).map kindV)) := by
      rw [upd_same]
      unfold wideK
      rw [List.map_append, List.map_cons, List.map_replicate]
      rfl
    have S7 := (((((s1.trans s2).trans s3).trans s4).trans s5).trans s6).trans s7
    have hn7 := s7 _ _ (s6 _ _ (s5 _ _ (s4 _ _ (s3 _ _ (s2 _ _ hn)))))
    generalize (upd H6 pk (.lst (([V.str "host"] ++ List.replicate sw (V.str "switch")) ++ [V.str "host"]))) = H7 at s7 hk7 S7 hn7 ⊢
    have lk : ((wideK sw).map kindV).length = sw + 2 := by rw [List.length_map, wide_len]
    -- pairs
    refine ⟨Nat.zero_le _, fun pp npp => ?_⟩
    have s8 := same_new (o := .lst []) npp
    have hp8 : (upd H7 pp (.lst [])) pp = some (.lst (([] : List Addr).map V.ref)) := upd_same
    have S8 := S7.trans s8
    have hk8 := s8 _ _ hk7
    have hn8 := s8 _ _ hn7
    have nppH := S7.free npp
    have nkp : pk ≠ pp := ne_of_none hk7 npp
    have nnp : pn ≠ pp := ne_of_none hn7 npp
    generalize (upd H7 pp (.lst [])) = H8 at s8 hp8 S8 hk8 hn8 ⊢
    refine ⟨_, rfl, pk, _, rfl, .inl (SqL.of hk8), _, rfl, by omega, by omega, for_range (n := ((wideK sw).map kindV).length) (fun a σ H' => ∃ (v6 v7 : Option V) (ts : List Addr) (ps : List (Nat × Nat)), σ = [some (.int c), some (.int m), some (.ref pn), some (.int (4 + ns.getD 0 0 % 4)), some (.ref pk), some (.ref pp), v6, v7, none, none, none] ∧
      But pp H8 H' ∧ H' pp = some (.lst (ts.map V.ref)) ∧ PairsAt K H' ts ps ∧ PW ps (sw + 2) a 0) ⟨none, none, [], [], rfl, But.refl _ _, hp8, .nil, ⟨List.nodup_nil, (fun p h => by cases h), Nat.zero_le _⟩⟩ ?_ ?_⟩
    · rintro a σ H9 ha ⟨v6, v7, ts, ps, rfl, kb, hp, ht, hI⟩
      rw [lk] at ha
      rw [Int.zero_add]
      refine ⟨_, rfl, (a : Int), rfl, by omega, by omega, for_range (n := a) (fun b σ H' => ∃ (v7 : Option V) (ts : List Addr) (ps : List (Nat × Nat)), σ = [some (.int c), some (.int m), some (.ref pn), some (.int (4 + ns.getD 0 0 % 4)), some (.ref pk), some (.ref pp), some (.int (a : Int)), v7, none, none, none] ∧
        But pp H8 H' ∧ H' pp = some (.lst (ts.map V.ref)) ∧ PairsAt K H' ts ps ∧ PW ps (sw + 2) a b) ⟨_, ts, ps, rfl, kb, hp, ht, hI⟩ ?_ ?_⟩
      · rintro b σ H9 hb ⟨v7, ts, ps, rfl, kb, hp, ht, hI⟩
        rw [Int.zero_add]
        have hk9 := kb _ _ hk8 nkp
        have ltp : ts.length = ps.length := ht.length
        have few := hI.few
        refine or_read (a := decide ((b : Int) > 0)) (b := decide ((a : Int) < (((wideK sw).map kindV).length : Int) - 1)) (fun Q h => ?_) (fun Q h => ?_) ?_
        · exact ⟨_, rfl, _, _, rfl, rfl, _, rfl, h⟩
        · exact ⟨_, rfl, _, rfl, pk, _, rfl, .inl (SqL.of hk9), _, _, rfl, rfl, _, _, rfl, rfl, _, rfl, h⟩
        · refine ite2 (fun e => ?_) (fun e => ⟨_, ts, ps, rfl, kb, hp, ht, hI.skip⟩)
          refine ⟨_, rfl, .inl ⟨rfl, _, SqL.of hp⟩, _, rfl, _, rfl, by show 2 ≤ sizeLine; decide, fun t nt => ?_⟩
          have st := same_new (o := .tup [V.int (a : Int), V.int (b : Int)]) nt
          have hp' := st _ _ hp
          refine ⟨pp, _, _, rfl, rfl, hp', szl (by rw [List.length_map]; omega), ?_⟩
          refine ⟨_, ts ++ [t], ps ++ [(a, b)], rfl, kb.trans (but_app nt), ?_, ?_, hI.snoc ha hb⟩
          · rw [upd_same, List.map_append]
            rfl
          · have kb2 : But pp (upd H9 t (.tup [V.int (a : Int), V.int (b : Int)])) (upd (upd H9 t (.tup [V.int (a : Int), V.int (b : Int)])) pp (.lst (ts.map V.ref ++ [V.ref t]))) := but_self
            exact PairsAt.snoc (PairsAt.mono ht fun a b z => kb2.tupL hp' (same_tup st z)) (kb2.tupL hp' (SqT.of upd_same))
      · rintro σ H9 ⟨v7, ts, ps, rfl, kb, hp, ht, hI⟩
        exact ⟨_, v7, ts, ps, rfl, kb, hp, ht, hI.next (by omega)⟩
    rintro σ H9 ⟨v6, v7, ts, ps, rfl, kb, hp, ht, hI⟩
    rw [lk] at hI
    have S9 := same_but S8 nppH kb
    have hk9 := kb _ _ hk8 nkp
    have hn9 := kb _ _ hn8 nnp
    have ltp : ts.length = ps.length := ht.length
    have lpm : (ts.map V.ref).length = ps.length := by rw [List.length_map]; exact ltp
    have few := hI.few
    -- draws
    refine ⟨_, rfl, _, rfl, pp, _, rfl, .inl (SqL.of hp), _, _, rfl, rfl, ⟨by decide, by decide, by decide⟩, m, 1048576, ps.length, ?_, by omega, by decide, by decide, fun HA pd ds sA npd hd ld bdd => ?_⟩
    · rw [lpm]
      rfl
    have hkA := sA _ _ hk9
    have hnA := sA _ _ hn9
    have hpA := sA _ _ hp
    have htA : PairsAt K HA ts ps := PairsAt.mono ht fun _ _ z => same_tup sA z
    have SA := S9.trans sA
    -- lines
    refine ⟨_, rfl, pp, _, rfl, .inl (SqL.of hpA), _, rfl, by omega, by omega, fun DL nDL => ?_⟩
    refine lc_range (lo := 0) (n := (ts.map V.ref).length) (fun i H' => Same HA H' ∧ ∃ (us : List Addr) (ls : List (Nat × Nat × Int)), H' DL = some (.lst (us.map V.ref)) ∧ LinesAt K H' us ls ∧ LInv ps ls i) ⟨same_new nDL, [], [], upd_same, .nil, LInv.nil⟩ ?_ ?_
    · rintro i HB hi ⟨sB, us, ls, hDL, hU, hL⟩
      rw [lpm] at hi
      rw [Int.zero_add]
      have eti : ts[i]? = some ts[i] := List.getElem?_eq_getElem (by omega)
      obtain ⟨pr, epr, hT⟩ := Paired.at htA eti
      obtain ⟨pa, pb⟩ := pr
      have o1 := hI.ok _ (List.mem_of_getElem? epr)
      have o1 : pb < pa := o1.1
      have eix : atI (ts.map V.ref) (i : Int) = some (V.ref ts[i]) := atI_nat (by rw [List.getElem?_map, eti]; rfl)
      have ix0 : atI (ds.map V.int) (i : Int) = some (.int (ds.getD i 0)) := atI_ints rfl (by omega)
      have lu : us.length = ls.length := hU.length
      have fewl := hL.few
      refine ⟨rfl, _, rfl, _, rfl, pd, _, _, _, rfl, rfl, SqL.of (sB _ _ hd), ix0, _, _, rfl, rfl, (by show (0 : Int) < 7; decide), _, rfl, pn, _, _, _, rfl, rfl, SqL.of (sB _ _ hnA), atI_ints (j := 1) rfl (by omega), _, _, rfl, rfl, (by show (0 : Int) < 2; decide), _, _, rfl, rfl, _, _, rfl, rfl, _, rfl, ite2 (fun _ => ?_) (fun _ => ⟨sB, us, ls, hDL, hU, hL.skip⟩)⟩
      refine ⟨_, rfl, _, rfl, pp, _, _, _, rfl, rfl, SqL.of (sB _ _ hpA), eix, ts[i], _, _, _, rfl, rfl, same_tup sB hT, rfl, _, rfl, _, rfl, pp, _, _, _, rfl, rfl, SqL.of (sB _ _ hpA), eix, ts[i], _, _, _, rfl, rfl, same_tup sB hT, rfl, by show 3 ≤ sizeLine; decide, fun t nt => ?_⟩
      have st := same_new (o := .tup [V.int (pa : Int), V.int (pb : Int), V.int 0]) nt
      have hD' := st _ _ hDL
      refine ⟨_, hD', szl (by rw [List.length_map]; omega), same_but (sB.trans st) nDL but_self, us ++ [t], ls ++ [(pa, pb, 0)], ?_, ?_, hL.snoc hI.nd (by rw [norm_gt o1]; exact epr) ⟨Int.le_refl _, by show (0 : Int) ≤ 4; decide⟩⟩
      · rw [upd_same, List.map_append]
        rfl
      · have kb2 : But DL (upd HB t (.tup [V.int (pa : Int), V.int (pb : Int), V.int 0])) (upd (upd HB t (.tup [V.int (pa : Int), V.int (pb : Int), V.int 0])) DL (.lst (us.map V.ref ++ [V.ref t]))) := but_self
        exact LinesAt.snoc (LinesAt.mono hU fun a b z => kb2.tupL hD' (same_tup st z)) (kb2.tupL hD' (SqT.of upd_same))
    rintro HB ⟨sB, us, ls, hDL, hU, hL⟩
    rw [lpm] at hL
    have fewl := hL.few
    refine ⟨_, rfl, _, rfl, fun x dy nx ndx ne => ?_⟩
    refine mk_net (N := ⟨wideK sw, ls, 0, 0⟩) (ts := us) nx ndx ne (SqL.of (sB _ _ hkA)) (SqL.of hDL) hU (by show ls.length ≤ 1000; omega) fun HC sC hM => ⟨rfl, ?_⟩
    have wl := wide_len sw
    have lno : ∀ k ∈ ls, (norm k).2 < (norm k).1 ∧ (norm k).1 < sw + 2 := fun k hk => by
      obtain ⟨j, _, y⟩ := hL.from_ k hk
      have := hI.ok _ (List.mem_of_getElem? y)
      exact ⟨this.1, this.2.1⟩
    have both : ∀ k ∈ ls, k.1 ≠ k.2.1 ∧ k.1 < sw + 2 ∧ k.2.1 < sw + 2 := fun k hk => by
      have := lno k hk
      unfold norm at this
      by_cases y : k.2.1 < k.1
      · rw [if_pos y] at this
        have this : k.2.1 < k.1 ∧ k.1 < sw + 2 := this
        omega
      · rw [if_neg y] at this
        have this : k.1 < k.2.1 ∧ k.2.1 < sw + 2 := this
        omega
    have hlast : (wideK sw).getD (sw + 1) true = true := by
      have e : (true :: List.replicate sw false).length = sw + 1 := by rw [List.length_cons, List.length_replicate]
      unfold wideK
      rw [List.getD_eq_getElem?_getD, List.getElem?_append_right (by omega), e, Nat.sub_self]
      rfl
    refine q HC x ⟨wideK sw, ls, 0, 0⟩ ((SA.trans sB).trans sC) hM ⟨⟨hL.nd, fun k hk => (both k hk).1⟩, rfl, ?_, ?_, ?_, ?_⟩ (fun k hk => ?_) ?_ ?_
    · show (wideK sw).getD ((wideK sw).length - 1) true = true
      rw [wl]
      exact hlast
    · show 0 ≠ (wideK sw).length - 1
      omega
    · show 0 < (wideK sw).length
      omega
    · show (wideK sw).length - 1 < (wideK sw).length
      omega
    · show k.1 < (wideK sw).length ∧ k.2.1 < (wideK sw).length
      rw [wl]
      exact ⟨(both k hk).2.1, (both k hk).2.2⟩
    · show ls.length ≤ 100
      omega
    · show (wideK sw).length ≤ 20
      omega
end
end My
namespace My
open PySem PySem.Spec PyProof.Rows L2
abbrev sLaw : Stmt := top 27
section
variable {P : Program} {w : World} {K : PySem.W.Frag} {mg : Str → Option Value} {base : Heap}
theorem scLaw : FnScope ["script", "net", "hosts", "first", "last", "wide", "a"] ["script"] (defScope sLaw) := ⟨rfl, rfl, rfl, by decide +kernel, rfl, by decide +kernel, by decide +kernel⟩
def spLaw (K : PySem.W.Frag) : Sp := fun vs H Q _ => ∃ (a : Addr) (ns : List Int), vs = [.ref a] ∧ SqL K H a (ns.map V.int) ∧ ns.length ≤ 63 ∧ ∀ H', Q (.bl true) H'
theorem ok_law {f C fC fN fW fP : Addr} {fd fdC fdN fdW fdP : FuncData} {k : Nat} (F : Fun K "law" "law" sLaw f fd) (T : Blt mg) (c : NetC K C) (GC : Callee P w K mg base 1 "_law_cell" ["script", "k"] (spCell K) fC fdC) (GN : Callee P w K mg base 3 "_law_net" ["cell", "more"] (spLNet K C) fN fdN)
    (GW : Callee P w K mg base 3 "_law_wide" ["cell", "more"] (spWide K C) fW fdW) (GP : Callee P w K mg base 5 "_law_pair_holds" ["net", "first", "last"] (spPair K C) fP fdP) : FnOk P w K mg base CX0 (k + 6) f fd ["script"] (spLaw K) := by
  refine F.ok scLaw (fun vs H Q E h => ?_) (fun cdv A outer s H vs Q E hr h => ?_)
  · obtain ⟨a, ns, rfl, _⟩ := h
    rfl
  · obtain ⟨a, ns, rfl, hS, hlen, q⟩ := h
    have nd := scLaw.nd
    have hr1 : Room 1 _ := hr.mono (by omega)
    have hr3 : Room 3 _ := hr.mono (by omega)
    have hr5 : Room 5 _ := hr.mono (by omega)
    refine ⟨_, pss_cons (ps_set (i := 1) nd rfl (.inr rfl) (pe_call GN.ok hr3 (by rfl) GN.mg GN.kp GN.b .nil pass0 (pa_cons (pe_call GC.ok hr1 (by rfl) GC.mg GC.kp GC.b .nil pass0 (pa_cons (pv 0) (pa_cons pe_int pa_nil))) (pa_cons (pe_call GC.ok hr1 (by rfl) GC.mg GC.kp GC.b .nil pass0 (pa_cons (pv 0) (pa_cons pe_int pa_nil))) pa_nil)))) <| pss_cons (ps_setLc (i := 2) (own := [("a", 6)]) (g := gName 6) rfl nd rfl rfl (sw_true rfl rfl rfl (by decide +kernel)) (pi_range1 (by rfl) T.range (pa_cons (pe_callB call_len_seq (by rfl) T.len PySem.boot_len (pa_cons (pe_fld (pv 1) rfl) pa_nil)) pa_nil)) (blkOk_by (own := [("a", 6)]) (N := ["script", "net", "hosts", "first", "last", "wide", "a"]) (sc := defScope sLaw) (by decide +kernel)) (fun _ _ _ _ _ => pg_name (i := 6) nd rfl (Or.inl rfl)) (fun _ _ _ _ _ => pts_one (pt_cmpR op_eq (pe_ix (ix_listK (K := K)) (pe_fldK (K := K) (pv 1)) (pv 6) (fun _ _ => rfl)) pe_str (nomark _))) (fun _ _ _ _ _ => (pv 6))) <| pss_cons (ps_for PassesOwn.never rfl (pi_list (pv 2)) (pg_name (i := 3) nd rfl (.inl rfl)) (pss_one (ps_for PassesOwn.never rfl (pi_list (pv 2)) (pg_name (i := 4) nd rfl (.inl rfl)) (pss_one (ps_if (PW.pt (pw_and (pt_cmpR op_ne (pv 3) (pv 4) (nomark _)) (pw_and1 (pt_not (pt_val (pe_call GP.ok hr5 (by rfl) GP.mg GP.kp GP.b .nil pass0 (pa_cons (pv 1) (pa_cons (pv 3) (pa_cons (pv 4) pa_nil))))))))) (pss_one (ps_ret pe_bl)) (pss_nil)))))) <| pss_cons (ps_set (i := 5) nd rfl (.inl rfl) (pe_call GW.ok hr3 (by rfl) GW.mg GW.kp GW.b .nil pass0 (pa_cons (pe_call GC.ok hr1 (by rfl) GC.mg GC.kp GC.b .nil pass0 (pa_cons (pv 0) (pa_cons pe_int pa_nil))) (pa_cons (pe_call GC.ok hr1 (by rfl) GC.mg GC.kp GC.b .nil pass0 (pa_cons (pv 0) (pa_cons pe_int pa_nil))) pa_nil)))) <| pss_one (ps_ret (pe_call GP.ok hr5 (by rfl) GP.mg GP.kp GP.b .nil pass0 (pa_cons (pv 5) (pa_cons pe_int (pa_cons (pe_op op_sub (pe_callB call_len_seq (by rfl) T.len PySem.boot_len (pa_cons (pe_fld (pv 5) rfl) pa_nil)) pe_int) pa_nil))))), ?_⟩
    refine ⟨_, rfl, a, ns, 0, rfl, hS, _, rfl, a, ns, 1, rfl, hS, _, _, rfl, fun H1 p N s1 np hN wf => ?_⟩
    have lk0 := len_count N.ks
    have n7 : N.ks.length ≤ 7 := by have := wf.h1; have := wf.s1; omega
    have few := wf.ls.few
    have hbd : ∀ k ∈ N.ls, k.1 < N.ks.length ∧ k.2.1 < N.ks.length := fun k hk => by
      have := wf.ls.bd k hk
      unfold norm at this
      by_cases y : k.2.1 < k.1
      · rw [if_pos y] at this
        have this : k.2.1 < k.1 ∧ k.1 < N.ks.length := this
        omega
      · rw [if_neg y] at this
        have this : k.1 < k.2.1 ∧ k.2.1 < N.ks.length := this
        omega
    have eN := hN
    obtain ⟨dx, lk, ll, ld, ts, e1, e2, e3, e4, e5⟩ := hN
    have en : (N.ks.map kindV).length = N.ks.length := List.length_map ..
    -- hosts
    refine ⟨_, rfl, p, C, dx, _, _, rfl, e1, c.cl, c.n1, g1, lk, _, rfl, .inl (SqL.of e2), _, rfl, by omega, by omega, fun D nD => ?_⟩
    refine lc_range (lo := 0) (n := (N.ks.map kindV).length) (fun i H' => Same H1 H' ∧ H' D = some (.lst (natsV ((List.range i).filter (host N))))) ⟨same_new nD, upd_same⟩ ?_ ?_
    · rintro i H2 hi ⟨s2, hD⟩
      rw [en] at hi
      rw [Int.zero_add]
      have eb : decide (kindV (N.ks.getD i true) = V.str "host") = host N i := by
        unfold host
        cases N.ks.getD i true <;> decide +kernel
      refine ⟨rfl, ?_⟩
      refine ⟨_, rfl, p, C, dx, _, _, rfl, s2 _ _ e1, c.cl, c.n1, g1, _, rfl, lk, _, _, _, rfl, rfl, SqL.of (s2 _ _ e2), atI_kind rfl hi, rfl, _, rfl, ?_⟩
      rw [eb]
      have lf := List.length_filter_le (host N) (List.range i)
      rw [List.length_range] at lf
      refine ite2 (fun e => ?_) (fun e => ?_)
      · refine ⟨_, rfl, _, hD, szl (by rw [natsV_len]; omega), same_but s2 nD but_self, ?_⟩
        rw [upd_same, natsV_app, List.range_succ, List.filter_append, List.filter_cons, if_pos e]
        rfl
      · refine ⟨s2, ?_⟩
        rw [List.range_succ, List.filter_append, List.filter_cons, if_neg e]
        simpa using hD
    rintro H2 ⟨s2, hD⟩
    rw [en] at hD
    have hmem : ∀ {i n : Nat}, ((List.range N.ks.length).filter (host N))[i]? = some n → n < N.ks.length ∧ host N n = true := fun h => by
      have := List.mem_filter.mp (List.mem_of_getElem? h)
      exact ⟨List.mem_range.mp this.1, this.2⟩
    refine ⟨_, rfl, D, rfl, ⟨_, SqL.of hD⟩, for_list (K := K) (a := D) (xs := natsV ((List.range N.ks.length).filter (host N))) (fun i σ H' => ∃ v3 v4 : Option V, σ = [some (.ref a), some (.ref p), some (.ref D), v3, v4, none, none] ∧ Same H2 H') ⟨none, none, rfl, Same.refl H2⟩ (fun i σ H' _ ⟨_, _, _, sm⟩ => SqL.of (sm _ _ hD)) ?_ ?_⟩
    · rintro i x σ H3 hi ⟨v3, v4, rfl, s3⟩
      obtain ⟨f0, ef, rfl⟩ := nats_at' hi
      obtain ⟨f1, f2⟩ := hmem ef
      refine ⟨_, rfl, D, rfl, ⟨_, SqL.of (s3 _ _ hD)⟩, for_list (K := K) (a := D) (xs := natsV ((List.range N.ks.length).filter (host N))) (fun j σ H' => ∃ v4 : Option V, σ = [some (.ref a), some (.ref p), some (.ref D), some (.int (f0 : Int)), v4, none, none] ∧ Same H2 H') ⟨_, rfl, s3⟩ (fun i σ H' _ ⟨_, _, sm⟩ => SqL.of (sm _ _ hD)) ?_ ?_⟩
      · rintro j x σ H4 hj ⟨v4, rfl, s4⟩
        obtain ⟨l0, el, rfl⟩ := nats_at' hj
        obtain ⟨l1, l2⟩ := hmem el
        refine and_read2 (a := !decide (f0 = l0)) (b := false) (fun Q h => ?_) (fun hne H5 s5 Q h => ?_) (fun H5 s5 => ?_)
        · refine ⟨_, rfl, _, rfl, rfl, _, rfl, ?_⟩
          rw [dec_nat]
          exact h H4 (Same.refl H4)
        · have hne : f0 ≠ l0 := by simpa using hne
          exact ⟨_, rfl, _, rfl, _, rfl, p, f0, l0, N, rfl, eN.same ((s2.trans s4).trans s5), ⟨wf.ls.dist, f2, l2, hne, f1, l1⟩, hbd, few, by omega, fun H6 s6 => ⟨_, rfl, h H6 s6⟩⟩
        · rw [Bool.and_false]
          exact ite2 (fun e => by cases e) (fun _ => ⟨_, rfl, s4.trans s5⟩)
      · rintro σ H4 ⟨v4, rfl, s4⟩
        exact ⟨_, _, rfl, s4⟩
    · rintro σ H3 ⟨v3, v4, rfl, s3⟩
      have SS := (s1.trans s2).trans s3
      refine ⟨_, rfl, a, ns, 2, rfl, same_lst SS hS, _, rfl, a, ns, 3, rfl, same_lst SS hS, _, _, rfl, fun H4 x M s4 hM hE hb hl hk => ?_⟩
      have hM2 := hM
      obtain ⟨dx', lk', ll', ld', ts', d1, d2, d3, d4, d5⟩ := hM2
      have hlast : (((M.ks.map kindV).length : Int) - 1) = ((M.ks.length - 1 : Nat) : Int) := by
        have := hE.fl
        rw [List.length_map]
        omega
      refine ⟨_, rfl, _, rfl, x, C, dx', _, _, rfl, d1, c.cl, c.n1, g1, lk', _, rfl, .inl (SqL.of d2), _, _, rfl, rfl, x, 0, M.ks.length - 1, M, ?_, hM, hE, hb, hl, hk, fun H5 s5 => q H5⟩
      rw [← hlast]
      rfl
end
end My
namespace My
open PySem PySem.Spec PyProof.Rows L2
/-! ### what the top has written, the head -/
theorem all_mk {l : PySem.W.OpenLaw} {w : World} {K : PySem.W.Frag} {h : Heap} {mg : Str → Option Value} {fa C fI fM fPo fS fSe fBo fA fW fSp fTu fU fFo fWN fWL fD fC' fN fJ fWi fO fLB fR fP fL : Addr} (X : K.In h) (G : h.Ns mainGlobals mg) (hfa : mg "law" = some (.ref fa))
    {DK : Addr}
    {odI anI : Option Addr} {slI : Array (Option Value)} {ocI dcI pmI cdI ctI : Value}
    {tk0 : Tok}
    {tk1 : Tok}
    {odM anM : Option Addr} {slM : Array (Option Value)} {ocM kVM dcM pmM cdM ctM : Value}
    {odPo anPo : Option Addr} {slPo : Array (Option Value)} {ocPo kVPo dcPo pmPo cdPo ctPo : Value}
    {odS anS : Option Addr} {slS : Array (Option Value)} {ocS kVS dcS pmS cdS ctS : Value}
    {odSe anSe : Option Addr} {slSe : Array (Option Value)} {ocSe kVSe dcSe pmSe cdSe ctSe : Value}
    {odBo anBo : Option Addr} {slBo : Array (Option Value)} {ocBo kVBo dcBo pmBo cdBo ctBo : Value}
    {odA anA : Option Addr} {slA : Array (Option Value)} {ocA kVA dcA pmA cdA ctA : Value}
    {odW anW : Option Addr} {slW : Array (Option Value)} {ocW kVW dcW pmW cdW ctW : Value}
    {odSp anSp : Option Addr} {slSp : Array (Option Value)} {ocSp kVSp dcSp pmSp cdSp ctSp : Value}
    {odTu anTu : Option Addr} {slTu : Array (Option Value)} {ocTu kVTu dcTu pmTu cdTu ctTu : Value}
    {odU anU : Option Addr} {slU : Array (Option Value)} {ocU kVU dcU pmU cdU ctU : Value}
    {odFo anFo : Option Addr} {slFo : Array (Option Value)} {ocFo kVFo dcFo pmFo cdFo ctFo : Value}
    {odWN anWN : Option Addr} {slWN : Array (Option Value)} {ocWN kVWN dcWN pmWN cdWN ctWN : Value}
    {odWL anWL : Option Addr} {slWL : Array (Option Value)} {ocWL kVWL dcWL pmWL cdWL ctWL : Value}
    {odD anD : Option Addr} {slD : Array (Option Value)} {ocD kVD dcD pmD cdD ctD : Value}
    {odC' anC' : Option Addr} {slC' : Array (Option Value)} {ocC' kVC' dcC' pmC' cdC' ctC' : Value}
    {odN anN : Option Addr} {slN : Array (Option Value)} {ocN kVN dcN pmN cdN ctN : Value}
    {odJ anJ : Option Addr} {slJ : Array (Option Value)} {ocJ kVJ dcJ pmJ cdJ ctJ : Value}
    {odWi anWi : Option Addr} {slWi : Array (Option Value)} {ocWi kVWi dcWi pmWi cdWi ctWi : Value}
    {odO anO : Option Addr} {slO : Array (Option Value)} {ocO kVO dcO pmO cdO ctO : Value}
    {odLB anLB : Option Addr} {slLB : Array (Option Value)} {ocLB kVLB dcLB pmLB cdLB ctLB : Value}
    {odR anR : Option Addr} {slR : Array (Option Value)} {ocR kVR dcR pmR cdR ctR : Value}
    {odP anP : Option Addr} {slP : Array (Option Value)} {ocP kVP dcP pmP cdP ctP : Value}
    {odL anL : Option Addr} {slL : Array (Option Value)} {ocL kVL dcL pmL cdL ctL : Value}
    (aC : PySem.W.nsIn K mainGlobals "Net" = some (some (.ref C)))
    (aI : PySem.W.findIn K (.ref C) "__init__" = some (some (.ref fI))) (iI : PySem.W.isFn K (.ref fI) = true) (lI : K.lookup fI = some ⟨ocI, odI, .func (PySem.W.fnOf "__init__" "Net.__init__" (defArgs sInit) (defBody sInit) (defScope sInit) .none (.ref DK) dcI pmI anI cdI ctI), slI⟩) (cI : PySem.W.codeIn K cdI "Net.__init__" = true) (kI : PySem.W.keepIn K (.ref fI) = true)
    (kw0 : PySem.W.nsIn K DK "processing" = some (some (.int 0 tk0)))
    (kw1 : PySem.W.nsIn K DK "error" = some (some (.int 0 tk1)))
    (aM : PySem.W.findIn K (.ref C) "neighbours" = some (some (.ref fM))) (iM : PySem.W.isFn K (.ref fM) = true) (lM : K.lookup fM = some ⟨ocM, odM, .func (PySem.W.fnOf "neighbours" "Net.neighbours" (defArgs sNb) (defBody sNb) (defScope sNb) .none kVM dcM pmM anM cdM ctM), slM⟩) (cM : PySem.W.codeIn K cdM "Net.neighbours" = true) (kM : PySem.W.keepIn K (.ref fM) = true)
    (pg : PySem.W.plainGet K C Str.empty = true) (hd : PySem.W.hasDictIn K C = true) (po : PySem.W.plainOver K C = true) (sa : PySem.W.findIn K (.ref C) "__setattr__" = some (some (.builtin "object.__setattr__"))) (mk : PySem.W.makesIn K C = true) (kc : PySem.W.keepIn K (.ref C) = true)
    (n1 : PySem.W.findIn K (.ref C) "kinds" = some none)
    (n2 : PySem.W.findIn K (.ref C) "lines" = some none)
    (n3 : PySem.W.findIn K (.ref C) "processing" = some none)
    (n4 : PySem.W.findIn K (.ref C) "error" = some none)
    (n5 : PySem.W.findIn K (.ref C) "_delays" = some none)
    (aPo : PySem.W.nsIn K mainGlobals "ports_of" = some (some (.ref fPo))) (lPo : K.lookup fPo = some ⟨ocPo, odPo, .func (PySem.W.fnOf "ports_of" "ports_of" (defArgs sPorts) (defBody sPorts) (defScope sPorts) .none kVPo dcPo pmPo anPo cdPo ctPo), slPo⟩) (cPo : PySem.W.codeIn K cdPo "ports_of" = true) (kPo : PySem.W.keepIn K (.ref fPo) = true)
    (aS : PySem.W.nsIn K mainGlobals "shortest_path" = some (some (.ref fS))) (lS : K.lookup fS = some ⟨ocS, odS, .func (PySem.W.fnOf "shortest_path" "shortest_path" (defArgs sShort) (defBody sShort) (defScope sShort) .none kVS dcS pmS anS cdS ctS), slS⟩) (cS : PySem.W.codeIn K cdS "shortest_path" = true) (kS : PySem.W.keepIn K (.ref fS) = true)
    (aSe : PySem.W.nsIn K mainGlobals "separate_paths" = some (some (.ref fSe))) (lSe : K.lookup fSe = some ⟨ocSe, odSe, .func (PySem.W.fnOf "separate_paths" "separate_paths" (defArgs sSepa) (defBody sSepa) (defScope sSepa) .none kVSe dcSe pmSe anSe cdSe ctSe), slSe⟩) (cSe : PySem.W.codeIn K cdSe "separate_paths" = true) (kSe : PySem.W.keepIn K (.ref fSe) = true)
    (aBo : PySem.W.nsIn K mainGlobals "bottleneck" = some (some (.ref fBo))) (lBo : K.lookup fBo = some ⟨ocBo, odBo, .func (PySem.W.fnOf "bottleneck" "bottleneck" (defArgs sBott) (defBody sBott) (defScope sBott) .none kVBo dcBo pmBo anBo cdBo ctBo), slBo⟩) (cBo : PySem.W.codeIn K cdBo "bottleneck" = true) (kBo : PySem.W.keepIn K (.ref fBo) = true)
    (aA : PySem.W.nsIn K mainGlobals "next_nodes" = some (some (.ref fA))) (lA : K.lookup fA = some ⟨ocA, odA, .func (PySem.W.fnOf "next_nodes" "next_nodes" (defArgs sNext) (defBody sNext) (defScope sNext) .none kVA dcA pmA anA cdA ctA), slA⟩) (cA : PySem.W.codeIn K cdA "next_nodes" = true) (kA : PySem.W.keepIn K (.ref fA) = true)
    (aW : PySem.W.nsIn K mainGlobals "find_way" = some (some (.ref fW))) (lW : K.lookup fW = some ⟨ocW, odW, .func (PySem.W.fnOf "find_way" "find_way" (defArgs sWay) (defBody sWay) (defScope sWay) .none kVW dcW pmW anW cdW ctW), slW⟩) (cW : PySem.W.codeIn K cdW "find_way" = true) (kW : PySem.W.keepIn K (.ref fW) = true)
    (aSp : PySem.W.nsIn K mainGlobals "split_nodes" = some (some (.ref fSp))) (lSp : K.lookup fSp = some ⟨ocSp, odSp, .func (PySem.W.fnOf "split_nodes" "split_nodes" (defArgs sSplit) (defBody sSplit) (defScope sSplit) .none kVSp dcSp pmSp anSp cdSp ctSp), slSp⟩) (cSp : PySem.W.codeIn K cdSp "split_nodes" = true) (kSp : PySem.W.keepIn K (.ref fSp) = true)
    (aTu : PySem.W.nsIn K mainGlobals "turn_around" = some (some (.ref fTu))) (lTu : K.lookup fTu = some ⟨ocTu, odTu, .func (PySem.W.fnOf "turn_around" "turn_around" (defArgs sTurn) (defBody sTurn) (defScope sTurn) .none kVTu dcTu pmTu anTu cdTu ctTu), slTu⟩) (cTu : PySem.W.codeIn K cdTu "turn_around" = true) (kTu : PySem.W.keepIn K (.ref fTu) = true)
    (aU : PySem.W.nsIn K mainGlobals "used_nodes" = some (some (.ref fU))) (lU : K.lookup fU = some ⟨ocU, odU, .func (PySem.W.fnOf "used_nodes" "used_nodes" (defArgs sUsed) (defBody sUsed) (defScope sUsed) .none kVU dcU pmU anU cdU ctU), slU⟩) (cU : PySem.W.codeIn K cdU "used_nodes" = true) (kU : PySem.W.keepIn K (.ref fU) = true)
    (aFo : PySem.W.nsIn K mainGlobals "follow" = some (some (.ref fFo))) (lFo : K.lookup fFo = some ⟨ocFo, odFo, .func (PySem.W.fnOf "follow" "follow" (defArgs sFollow) (defBody sFollow) (defScope sFollow) .none kVFo dcFo pmFo anFo cdFo ctFo), slFo⟩) (cFo : PySem.W.codeIn K cdFo "follow" = true) (kFo : PySem.W.keepIn K (.ref fFo) = true)
    (aWN : PySem.W.nsIn K mainGlobals "without_node" = some (some (.ref fWN))) (lWN : K.lookup fWN = some ⟨ocWN, odWN, .func (PySem.W.fnOf "without_node" "without_node" (defArgs sWoN) (defBody sWoN) (defScope sWoN) .none kVWN dcWN pmWN anWN cdWN ctWN), slWN⟩) (cWN : PySem.W.codeIn K cdWN "without_node" = true) (kWN : PySem.W.keepIn K (.ref fWN) = true)
    (aWL : PySem.W.nsIn K mainGlobals "without_line" = some (some (.ref fWL))) (lWL : K.lookup fWL = some ⟨ocWL, odWL, .func (PySem.W.fnOf "without_line" "without_line" (defArgs sWoL) (defBody sWoL) (defScope sWoL) .none kVWL dcWL pmWL anWL cdWL ctWL), slWL⟩) (cWL : PySem.W.codeIn K cdWL "without_line" = true) (kWL : PySem.W.keepIn K (.ref fWL) = true)
    (aD : PySem.W.nsIn K mainGlobals "_law_draw" = some (some (.ref fD))) (lD : K.lookup fD = some ⟨ocD, odD, .func (PySem.W.fnOf "_law_draw" "_law_draw" (defArgs sDraw) (defBody sDraw) (defScope sDraw) .none kVD dcD pmD anD cdD ctD), slD⟩) (cD : PySem.W.codeIn K cdD "_law_draw" = true) (kD : PySem.W.keepIn K (.ref fD) = true)
    (aC' : PySem.W.nsIn K mainGlobals "_law_cell" = some (some (.ref fC'))) (lC' : K.lookup fC' = some ⟨ocC', odC', .func (PySem.W.fnOf "_law_cell" "_law_cell" (defArgs sCell) (defBody sCell) (defScope sCell) .none kVC' dcC' pmC' anC' cdC' ctC'), slC'⟩) (cC' : PySem.W.codeIn K cdC' "_law_cell" = true) (kC' : PySem.W.keepIn K (.ref fC') = true)
    (aN : PySem.W.nsIn K mainGlobals "_law_net" = some (some (.ref fN))) (lN : K.lookup fN = some ⟨ocN, odN, .func (PySem.W.fnOf "_law_net" "_law_net" (defArgs sLNet) (defBody sLNet) (defScope sLNet) .none kVN dcN pmN anN cdN ctN), slN⟩) (cN : PySem.W.codeIn K cdN "_law_net" = true) (kN : PySem.W.keepIn K (.ref fN) = true)
    (aJ : PySem.W.nsIn K mainGlobals "_law_joined" = some (some (.ref fJ))) (lJ : K.lookup fJ = some ⟨ocJ, odJ, .func (PySem.W.fnOf "_law_joined" "_law_joined" (defArgs sJoined) (defBody sJoined) (defScope sJoined) .none kVJ dcJ pmJ anJ cdJ ctJ), slJ⟩) (cJ : PySem.W.codeIn K cdJ "_law_joined" = true) (kJ : PySem.W.keepIn K (.ref fJ) = true)
    (aWi : PySem.W.nsIn K mainGlobals "_law_wide" = some (some (.ref fWi))) (lWi : K.lookup fWi = some ⟨ocWi, odWi, .func (PySem.W.fnOf "_law_wide" "_law_wide" (defArgs sWide) (defBody sWide) (defScope sWide) .none kVWi dcWi pmWi anWi cdWi ctWi), slWi⟩) (cWi : PySem.W.codeIn K cdWi "_law_wide" = true) (kWi : PySem.W.keepIn K (.ref fWi) = true)
    (aO : PySem.W.nsIn K mainGlobals "_law_open" = some (some (.ref fO))) (lO : K.lookup fO = some ⟨ocO, odO, .func (PySem.W.fnOf "_law_open" "_law_open" (defArgs sOpen) (defBody sOpen) (defScope sOpen) .none kVO dcO pmO anO cdO ctO), slO⟩) (cO : PySem.W.codeIn K cdO "_law_open" = true) (kO : PySem.W.keepIn K (.ref fO) = true)
    (aLB : PySem.W.nsIn K mainGlobals "_law_bottleneck" = some (some (.ref fLB))) (lLB : K.lookup fLB = some ⟨ocLB, odLB, .func (PySem.W.fnOf "_law_bottleneck" "_law_bottleneck" (defArgs sLB) (defBody sLB) (defScope sLB) .none kVLB dcLB pmLB anLB cdLB ctLB), slLB⟩) (cLB : PySem.W.codeIn K cdLB "_law_bottleneck" = true) (kLB : PySem.W.keepIn K (.ref fLB) = true)
    (aR : PySem.W.nsIn K mainGlobals "_law_right" = some (some (.ref fR))) (lR : K.lookup fR = some ⟨ocR, odR, .func (PySem.W.fnOf "_law_right" "_law_right" (defArgs sRight) (defBody sRight) (defScope sRight) .none kVR dcR pmR anR cdR ctR), slR⟩) (cR : PySem.W.codeIn K cdR "_law_right" = true) (kR : PySem.W.keepIn K (.ref fR) = true)
    (aP : PySem.W.nsIn K mainGlobals "_law_pair_holds" = some (some (.ref fP))) (lP : K.lookup fP = some ⟨ocP, odP, .func (PySem.W.fnOf "_law_pair_holds" "_law_pair_holds" (defArgs sPair) (defBody sPair) (defScope sPair) .none kVP dcP pmP anP cdP ctP), slP⟩) (cP : PySem.W.codeIn K cdP "_law_pair_holds" = true) (kP : PySem.W.keepIn K (.ref fP) = true)
    (aL : PySem.W.nsIn K mainGlobals "law" = some (some (.ref fL))) (lL : K.lookup fL = some ⟨ocL, odL, .func (PySem.W.fnOf "law" "law" (defArgs sLaw) (defBody sLaw) (defScope sLaw) .none kVL dcL pmL anL cdL ctL), slL⟩) (cL : PySem.W.codeIn K cdL "law" = true) (kL : PySem.W.keepIn K (.ref fL) = true)
    (z_range : PySem.W.nsIn K mainGlobals "range" = some none)
    (z_len : PySem.W.nsIn K mainGlobals "len" = some none)
    (z_int : PySem.W.nsIn K mainGlobals "int" = some none)
    (z_list : PySem.W.nsIn K mainGlobals "list" = some none)
    (z_enum : PySem.W.nsIn K mainGlobals "enumerate" = some none)
    (y_zz : PySem.W.nsIn K mainGlobals "zip" = some none)
    (y_zs : PySem.W.nsIn K mainGlobals "sorted" = some none)
    (y_zmi : PySem.W.nsIn K mainGlobals "min" = some none)
    (y_zma : PySem.W.nsIn K mainGlobals "max" = some none)
    (y_zi : PySem.W.nsIn K mainGlobals "isinstance" = some none)
    (y_zt : PySem.W.nsIn K mainGlobals "tuple" = some none) :
    ∃ fd : FuncData, (∀ (s : Shared) (v : Value), BindsTo s fd ⟨[v], []⟩ [("script", v)]) ∧ ∀ base : Heap, K.In base → base.Ns mainGlobals mg → FnOk l.prog w K mg base CX0 6 fa fd ["script"] (spLaw K) := by
  have e := hfa.symm.trans (PySem.W.mg_of X G aL)
  cases e
  have T : Blt mg := ⟨PySem.W.mg_none_of X G z_range, PySem.W.mg_none_of X G z_len, PySem.W.mg_none_of X G z_int, PySem.W.mg_none_of X G z_list, PySem.W.mg_none_of X G z_enum⟩
  have c : NetC K C := ⟨⟨pg, hd, po, sa⟩, n1, n2, n3, n4, n5⟩
  have FI : FunInit K fI _ := ⟨⟨_, _, _, _, _, _, _, _, _, _, rfl, lI, cI, .inl ⟨rfl, rfl⟩, .inr ⟨DK, rfl, fun q hq => by
    rcases List.mem_cons.mp hq with rfl | hq
    · exact ⟨_, kw0, ⟨_, rfl⟩⟩
    · rw [List.mem_singleton.mp hq]
      exact ⟨_, kw1, ⟨_, rfl⟩⟩⟩⟩, kI⟩
  have MI : Mk K C fI := ⟨mk, aI, iI, kc⟩
  have gC := PySem.W.mg_of X G aC
  have FM := fun_mk (st := sNb) lM cM kM
  have mM : Meth K C "neighbours" fM := ⟨aM, iM, kM⟩
  have FPo := fun_mk (st := sPorts) lPo cPo kPo
  have gPo := PySem.W.mg_of X G aPo
  have FS := fun_mk (st := sShort) lS cS kS
  have gS := PySem.W.mg_of X G aS
  have FSe := fun_mk (st := sSepa) lSe cSe kSe
  have gSe := PySem.W.mg_of X G aSe
  have FBo := fun_mk (st := sBott) lBo cBo kBo
  have gBo := PySem.W.mg_of X G aBo
  have FA := fun_mk (st := sNext) lA cA kA
  have gA := PySem.W.mg_of X G aA
  have FW := fun_mk (st := sWay) lW cW kW
  have gW := PySem.W.mg_of X G aW
  have FSp := fun_mk (st := sSplit) lSp cSp kSp
  have gSp := PySem.W.mg_of X G aSp
  have FTu := fun_mk (st := sTurn) lTu cTu kTu
  have gTu := PySem.W.mg_of X G aTu
  have FU := fun_mk (st := sUsed) lU cU kU
  have gU := PySem.W.mg_of X G aU
  have FFo := fun_mk (st := sFollow) lFo cFo kFo
  have gFo := PySem.W.mg_of X G aFo
  have FWN := fun_mk (st := sWoN) lWN cWN kWN
  have gWN := PySem.W.mg_of X G aWN
  have FWL := fun_mk (st := sWoL) lWL cWL kWL
  have gWL := PySem.W.mg_of X G aWL
  have FD := fun_mk (st := sDraw) lD cD kD
  have gD := PySem.W.mg_of X G aD
  have FC' := fun_mk (st := sCell) lC' cC' kC'
  have gC' := PySem.W.mg_of X G aC'
  have FN := fun_mk (st := sLNet) lN cN kN
  have gN := PySem.W.mg_of X G aN
  have FJ := fun_mk (st := sJoined) lJ cJ kJ
  have gJ := PySem.W.mg_of X G aJ
  have FWi := fun_mk (st := sWide) lWi cWi kWi
  have gWi := PySem.W.mg_of X G aWi
  have FO := fun_mk (st := sOpen) lO cO kO
  have gO := PySem.W.mg_of X G aO
  have FLB := fun_mk (st := sLB) lLB cLB kLB
  have gLB := PySem.W.mg_of X G aLB
  have FR := fun_mk (st := sRight) lR cR kR
  have gR := PySem.W.mg_of X G aR
  have FP := fun_mk (st := sPair) lP cP kP
  have gP := PySem.W.mg_of X G aP
  have FL := fun_mk (st := sLaw) lL cL kL
  refine ⟨PySem.W.fnOf "law" "law" (defArgs sLaw) (defBody sLaw) (defScope sLaw) .none kVL dcL pmL anL cdL ctL, fun s v => .of_eq rfl, fun base _ _ => ?_⟩
  have zz := PySem.W.mg_none_of X G y_zz
  have zs := PySem.W.mg_none_of X G y_zs
  have zmi := PySem.W.mg_none_of X G y_zmi
  have zma := PySem.W.mg_none_of X G y_zma
  have zi := PySem.W.mg_none_of X G y_zi
  have zt := PySem.W.mg_none_of X G y_zt
  have BD : Binds K _ ["cell", "many", "bound"] [] := FD.binds (ps := ["cell", "many", "bound"]) fun _ _ _ _ _ _ us hl => match us, hl with | [_, _, _], _ => rfl
  have BC' : Binds K _ ["script", "k"] [] := FC'.binds (ps := ["script", "k"]) fun _ _ _ _ _ _ us hl => match us, hl with | [_, _], _ => rfl
  have BN : Binds K _ ["cell", "more"] [] := FN.binds (ps := ["cell", "more"]) fun _ _ _ _ _ _ us hl => match us, hl with | [_, _], _ => rfl
  have BJ : Binds K _ ["net", "a", "b"] [] := FJ.binds (ps := ["net", "a", "b"]) fun _ _ _ _ _ _ us hl => match us, hl with | [_, _, _], _ => rfl
  have BM : Binds K _ ["self", "a"] [] := FM.binds (ps := ["self", "a"]) fun _ _ _ _ _ _ us hl => match us, hl with | [_, _], _ => rfl
  have BPo : Binds K _ ["path"] [] := FPo.binds (ps := ["path"]) fun _ _ _ _ _ _ us hl => match us, hl with | [_], _ => rfl
  have BS : Binds K _ ["net", "first", "last"] [] := FS.binds (ps := ["net", "first", "last"]) fun _ _ _ _ _ _ us hl => match us, hl with | [_, _, _], _ => rfl
  have BSe : Binds K _ ["net", "first", "last"] [] := FSe.binds (ps := ["net", "first", "last"]) fun _ _ _ _ _ _ us hl => match us, hl with | [_, _, _], _ => rfl
  have BBo : Binds K _ ["net", "first", "last"] [] := FBo.binds (ps := ["net", "first", "last"]) fun _ _ _ _ _ _ us hl => match us, hl with | [_, _, _], _ => rfl
  have BA : Binds K _ ["net", "first"] [] := FA.binds (ps := ["net", "first"]) fun _ _ _ _ _ _ us hl => match us, hl with | [_, _], _ => rfl
  have BW : Binds K _ ["arcs", "start", "goal"] [] := FW.binds (ps := ["arcs", "start", "goal"]) fun _ _ _ _ _ _ us hl => match us, hl with | [_, _, _], _ => rfl
  have BSp : Binds K _ ["net", "first"] [] := FSp.binds (ps := ["net", "first"]) fun _ _ _ _ _ _ us hl => match us, hl with | [_, _], _ => rfl
  have BTu : Binds K _ ["arcs", "way"] [] := FTu.binds (ps := ["arcs", "way"]) fun _ _ _ _ _ _ us hl => match us, hl with | [_, _], _ => rfl
  have BU : Binds K _ ["net", "arcs", "node"] [] := FU.binds (ps := ["net", "arcs", "node"]) fun _ _ _ _ _ _ us hl => match us, hl with | [_, _, _], _ => rfl
  have BFo : Binds K _ ["net", "arcs", "start", "last"] [] := FFo.binds (ps := ["net", "arcs", "start", "last"]) fun _ _ _ _ _ _ us hl => match us, hl with | [_, _, _, _], _ => rfl
  have BWN : Binds K _ ["net", "node"] [] := FWN.binds (ps := ["net", "node"]) fun _ _ _ _ _ _ us hl => match us, hl with | [_, _], _ => rfl
  have BWL : Binds K _ ["net", "a", "b"] [] := FWL.binds (ps := ["net", "a", "b"]) fun _ _ _ _ _ _ us hl => match us, hl with | [_, _, _], _ => rfl
  have BWi : Binds K _ ["cell", "more"] [] := FWi.binds (ps := ["cell", "more"]) fun _ _ _ _ _ _ us hl => match us, hl with | [_, _], _ => rfl
  have BO : Binds K _ ["net", "first", "last", "node", "line"] [] := FO.binds (ps := ["net", "first", "last", "node", "line"]) fun _ _ _ _ _ _ us hl => match us, hl with | [_, _, _, _, _], _ => rfl
  have BLB : Binds K _ ["net", "first", "last"] [] := FLB.binds (ps := ["net", "first", "last"]) fun _ _ _ _ _ _ us hl => match us, hl with | [_, _, _], _ => rfl
  have BR : Binds K _ ["net", "path", "first", "last"] [] := FR.binds (ps := ["net", "path", "first", "last"]) fun _ _ _ _ _ _ us hl => match us, hl with | [_, _, _, _], _ => rfl
  have BP : Binds K _ ["net", "first", "last"] [] := FP.binds (ps := ["net", "first", "last"]) fun _ _ _ _ _ _ us hl => match us, hl with | [_, _, _], _ => rfl
  have GI : NetMk l.prog w K mg base C fI _ := ⟨ok_init FI T c, gC, MI, kb_net FI⟩
  have hB := net0 FI
  have GM : MethOf l.prog w K mg base 1 ["self", "a"] (spNb K C) fM _ := ⟨ok_nb FM T c, BM⟩
  have GD : Callee l.prog w K mg base 1 "_law_draw" ["cell", "many", "bound"] spDraw fD _ := ⟨ok_draw FD T, gD, FD.kp, BD⟩
  have GC' : Callee l.prog w K mg base 1 "_law_cell" ["script", "k"] (spCell K) fC' _ := ⟨ok_cell FC' T, gC', FC'.kp, BC'⟩
  have GN : Callee l.prog w K mg base 3 "_law_net" ["cell", "more"] (spLNet K C) fN _ := ⟨ok_lnet FN T GD GI, gN, FN.kp, BN⟩
  have GJ : Callee l.prog w K mg base 1 "_law_joined" ["net", "a", "b"] (spJoined K C) fJ _ := ⟨ok_joined FJ c, gJ, FJ.kp, BJ⟩
  have GA : Callee l.prog w K mg base 2 "next_nodes" ["net", "first"] (spNext K C) fA _ := ⟨ok_next FA T c mM GM, gA, FA.kp, BA⟩
  have GX : Callee l.prog w K mg base 2 "next_nodes" ["net", "first"] (spNextL K C) fA _ := ⟨ok_nextL FA T c mM GM, gA, FA.kp, BA⟩
  have GW : Callee l.prog w K mg base 1 "find_way" ["arcs", "start", "goal"] spWay fW _ := ⟨ok_way FW, gW, FW.kp, BW⟩
  have GWt : Callee l.prog w K mg base 1 "find_way" ["arcs", "start", "goal"] spWayT fW _ := ⟨ok_wayT FW, gW, FW.kp, BW⟩
  have GS : Callee l.prog w K mg base 3 "shortest_path" ["net", "first", "last"] (spShort K C) fS _ := ⟨ok_short FS GW GA, gS, FS.kp, BS⟩
  have GSp : Callee l.prog w K mg base 3 "split_nodes" ["net", "first"] (spSplit K C) fSp _ := ⟨ok_split FSp GX, gSp, FSp.kp, BSp⟩
  have GPo : Callee l.prog w K mg base 1 "ports_of" ["path"] (spPoV K) fPo _ := ⟨ok_portsV FPo T zz, gPo, FPo.kp, BPo⟩
  have GTu : Callee l.prog w K mg base 2 "turn_around" ["arcs", "way"] spTurn fTu _ := ⟨ok_turn FTu GPo, gTu, FTu.kp, BTu⟩
  have GU : Callee l.prog w K mg base 2 "used_nodes" ["net", "arcs", "node"] (spUsed K C) fU _ := ⟨ok_used FU c mM GM, gU, FU.kp, BU⟩
  have GFo : Callee l.prog w K mg base 3 "follow" ["net", "arcs", "start", "last"] (spFollow K C) fFo _ := ⟨ok_follow FFo T GU, gFo, FFo.kp, BFo⟩
  have GSe : Callee l.prog w K mg base 4 "separate_paths" ["net", "first", "last"] (spSepa K C) fSe _ := ⟨ok_sepa FSe T GSp GWt GTu GU GFo, gSe, FSe.kp, BSe⟩
  have GWN : Callee l.prog w K mg base 3 "without_node" ["net", "node"] (spWoN K C) fWN _ := ⟨ok_woN FWN c GI hB, gWN, FWN.kp, BWN⟩
  have GWL : Callee l.prog w K mg base 3 "without_line" ["net", "a", "b"] (spWoL K C) fWL _ := ⟨ok_woL FWL c GI hB, gWL, FWL.kp, BWL⟩
  have GBo : Callee l.prog w K mg base 4 "bottleneck" ["net", "first", "last"] (spBott K C) fBo _ := ⟨ok_bott FBo T zs zmi zma GS GWN GWL GPo, gBo, FBo.kp, BBo⟩
  have GO : Callee l.prog w K mg base 1 "_law_open" ["net", "first", "last", "node", "line"] (spOpen K C) fO _ := ⟨ok_open FO T c, gO, FO.kp, BO⟩
  have GLB : Callee l.prog w K mg base 2 "_law_bottleneck" ["net", "first", "last"] (spLB K C) fLB _ := ⟨ok_lb FLB T zs zmi zma c GO, gLB, FLB.kp, BLB⟩
  have GR : Callee l.prog w K mg base 2 "_law_right" ["net", "path", "first", "last"] (spRight K C) fR _ := ⟨ok_right FR T zi c GJ, gR, FR.kp, BR⟩
  have GP : Callee l.prog w K mg base 5 "_law_pair_holds" ["net", "first", "last"] (spPair K C) fP _ := ⟨ok_pair FP T zi zt GSe GBo GO GLB GR, gP, FP.kp, BP⟩
  have GWi : Callee l.prog w K mg base 3 "_law_wide" ["cell", "more"] (spWide K C) fWi _ := ⟨ok_wide FWi T GD GI hB, gWi, FWi.kp, BWi⟩
  exact ok_law FL T c GC' GN GWi GP
end My
open PySem PySem.W PyProof.Rows in
set_option maxHeartbeats 0 in
theorem PySem.Challenge.cw_metronet_k03_whole_two_ways_or_a_bottlen_holds : PySem.Challenge.rw_metronet_k03_whole_two_ways_or_a_bottlen.Holds := by
  w_on; o_law; k_head; (case hw => w_witness2)
  k_fill
  refine L2.walk_of (l := PySem.Challenge.rw_metronet_k03_whole_two_ways_or_a_bottlen) (n := 63) (k := 6) (x := "script") (CX := fun _ => L2.CX0) (sp := fun w => My.spLaw _) rfl (by decide) rfl ⟨rfl, by decide, by decide⟩ (fun w h Y => PySem.W.kIn_of Y) ?F (fun _ _ a ns hl _ hS => ⟨a, ns, rfl, hS, hl, fun _ => rfl⟩) (fun _ _ _ _ _ h => h)
  case F =>
    intro w mg fa h KX G hmg
    refine' My.all_mk KX G hmg ?aC ?aI ?iI ?lI ?cI ?kI ?kw0 ?kw1 ?aM ?iM ?lM ?cM ?kM ?pg ?hd ?po ?sa ?mk ?kc ?n1 ?n2 ?n3 ?n4 ?n5 ?aPo ?lPo ?cPo ?kPo ?aS ?lS ?cS ?kS ?aSe ?lSe ?cSe ?kSe ?aBo ?lBo ?cBo ?kBo ?aA ?lA ?cA ?kA ?aW ?lW ?cW ?kW ?aSp ?lSp ?cSp ?kSp ?aTu ?lTu ?cTu ?kTu ?aU ?lU ?cU ?kU ?aFo ?lFo ?cFo ?kFo ?aWN ?lWN ?cWN ?kWN ?aWL ?lWL ?cWL ?kWL ?aD ?lD ?cD ?kD ?aC' ?lC' ?cC' ?kC' ?aN ?lN ?cN ?kN ?aJ ?lJ ?cJ ?kJ ?aWi ?lWi ?cWi ?kWi ?aO ?lO ?cO ?kO ?aLB ?lLB ?cLB ?kLB ?aR ?lR ?cR ?kR ?aP ?lP ?cP ?kP ?aL ?lL ?cL ?kL ?z_range ?z_len ?z_int ?z_list ?z_enum ?y_zz ?y_zs ?y_zmi ?y_zma ?y_zi ?y_zt
    (case aC => k_is)
    (case aI => k_is)
    (case iI => k_is)
    (case lI => k_is)
    (case cI => k_is)
    (case kI => k_is)
    (case kw0 => k_is)
    (case kw1 => k_is)
    (case aM => k_is)
    (case iM => k_is)
    (case lM => k_is)
    (case cM => k_is)
    (case kM => k_is)
    (case pg => k_is)
    (case hd => k_is)
    (case po => k_is)
    (case sa => k_is)
    (case mk => k_is)
    (case kc => k_is)
    (case n1 => k_is)
    (case n2 => k_is)
    (case n3 => k_is)
    (case n4 => k_is)
    (case n5 => k_is)
    (case aPo => k_is)
    (case lPo => k_is)
    (case cPo => k_is)
    (case kPo => k_is)
    (case aS => k_is)
    (case lS => k_is)
    (case cS => k_is)
    (case kS => k_is)
    (case aSe => k_is)
    (case lSe => k_is)
    (case cSe => k_is)
    (case kSe => k_is)
    (case aBo => k_is)
    (case lBo => k_is)
    (case cBo => k_is)
    (case kBo => k_is)
    (case aA => k_is)
    (case lA => k_is)
    (case cA => k_is)
    (case kA => k_is)
    (case aW => k_is)
    (case lW => k_is)
    (case cW => k_is)
    (case kW => k_is)
    (case aSp => k_is)
    (case lSp => k_is)
    (case cSp => k_is)
    (case kSp => k_is)
    (case aTu => k_is)
    (case lTu => k_is)
    (case cTu => k_is)
    (case kTu => k_is)
    (case aU => k_is)
    (case lU => k_is)
    (case cU => k_is)
    (case kU => k_is)
    (case aFo => k_is)
    (case lFo => k_is)
    (case cFo => k_is)
    (case kFo => k_is)
    (case aWN => k_is)
    (case lWN => k_is)
    (case cWN => k_is)
    (case kWN => k_is)
    (case aWL => k_is)
    (case lWL => k_is)
    (case cWL => k_is)
    (case kWL => k_is)
    (case aD => k_is)
    (case lD => k_is)
    (case cD => k_is)
    (case kD => k_is)
    (case aC' => k_is)
    (case lC' => k_is)
    (case cC' => k_is)
    (case kC' => k_is)
    (case aN => k_is)
    (case lN => k_is)
    (case cN => k_is)
    (case kN => k_is)
    (case aJ => k_is)
    (case lJ => k_is)
    (case cJ => k_is)
    (case kJ => k_is)
    (case aWi => k_is)
    (case lWi => k_is)
    (case cWi => k_is)
    (case kWi => k_is)
    (case aO => k_is)
    (case lO => k_is)
    (case cO => k_is)
    (case kO => k_is)
    (case aLB => k_is)
    (case lLB => k_is)
    (case cLB => k_is)
    (case kLB => k_is)
    (case aR => k_is)
    (case lR => k_is)
    (case cR => k_is)
    (case kR => k_is)
    (case aP => k_is)
    (case lP => k_is)
    (case cP => k_is)
    (case kP => k_is)
    (case aL => k_is)
    (case lL => k_is)
    (case cL => k_is)
    (case kL => k_is)
    (case z_range => k_is)
    (case z_len => k_is)
    (case z_int => k_is)
    (case z_list => k_is)
    (case z_enum => k_is)
    (case y_zz => k_is)
    (case y_zs => k_is)
    (case y_zmi => k_is)
    (case y_zma => k_is)
    (case y_zi => k_is)
    (case y_zt => k_is)
