import PyProof.Rows.All
import Wide.All
import OpenK.AllK
import Wide.FinOn
import HandS.ForMost
import HandS.Wide
import HandS.Defaults
import HandS.MakeKwOnly
import HandS.Flow
import HandS.More
import HandS.Walk
import KE.LtData
import HandS.TupSets
import HandS.SortKw
import HandS.SetKeys
import KE.DataMinMax
import HandS.DictTup
import PyProof.DictMoreH
import HandS.SortRule
import HandS.Gcd
import HandS.IsInst
import KE.KMathGC
import HandS.Strs
import HandS.SetBool
import HandS.Conv
import HandS.Iter
import HandS.WordsDict
import HandS.Codes
import PySem.Challenge.RW_metronet_k13_gaps_and_waits
set_option Elab.async false
set_option linter.all false
set_option maxRecDepth 100000
set_option maxHeartbeats 4000000
/-! What any law wants, without the row: heaps, loops, order of data. -/
namespace My
open PySem PySem.Spec PyProof.Rows L2

theorem same_new {H : Hp} {p : Addr} {o : HO} (h : H p = none) : Same H (upd H p o) := fun b x e => by
  rw [upd_ne (ne_of_none e h)]
  exact e
/-- an object that H does not know may change -/
theorem same_mut {H H' : Hp} {p : Addr} {o : HO} (e : Same H H') (h : H p = none) : Same H (upd H' p o) := fun a u ha => by
  rw [upd_ne (ne_of_none ha h)]
  exact e a u ha
theorem ne_new {H H' : Hp} {a p : Addr} (n : H p = none) (h : H' p ≠ none) (e : H' a = none) : p ≠ a := fun q => h (q ▸ e)
/-- a list of ints by place -/
theorem ints_at {ns : List Int} {i : Nat} {y : V} (h : (ns.map V.int)[i]? = some y) : ∃ n, ns[i]? = some n ∧ y = .int n := by
  rw [List.getElem?_map] at h
  cases e : ns[i]? with
  | none => rw [e] at h; cases h
  | some n => rw [e] at h; exact ⟨n, rfl, (Option.some.inj h).symm⟩
theorem int_at {ns : List Int} {i : Nat} {n : Int} (h : ns[i]? = some n) : (ns.map V.int)[i]? = some (.int n) := by
  rw [List.getElem?_map, h]; rfl
theorem atI_int {ns : List Int} {i : Nat} (h : i < ns.length) : atI (ns.map V.int) (i : Int) = some (.int ns[i]) := atI_nat (int_at (List.getElem?_eq_getElem h))
theorem sz {n : Nat} (h : n ≤ 100000) : n ≤ sizeLine := Nat.le_trans h (by decide)
theorem szl {n : Nat} (h : n < 100000) : n < sizeLine := Nat.lt_of_lt_of_le h (by decide)

theorem getD_lt {α : Type} {xs : List α} {j : Nat} (d : α) (h : j < xs.length) : xs.getD j d = xs[j] := by
  rw [List.getD_eq_getElem?_getD, List.getElem?_eq_getElem h]; rfl
theorem getD_at {α : Type} {xs : List α} {j : Nat} (d : α) (h : j < xs.length) : xs[j]? = some (xs.getD j d) := by
  rw [getD_lt d h, List.getElem?_eq_getElem h]
theorem atI_ints {ns : List Int} {z : Int} {j : Nat} (e : z = (j : Int)) (h : j < ns.length) : atI (ns.map V.int) z = some (.int (ns.getD j 0)) := by
  rw [e]
  exact atI_nat (int_at (getD_at 0 h))
theorem getD_mem {ns : List Int} {j : Nat} (h : j < ns.length) : ns.getD j 0 ∈ ns := by
  rw [getD_lt 0 h]; exact List.getElem_mem h
/-! ### tests that change nothing -/
theorem or_read {t u : TT} {σ : L2.St} {H : Hp} {Q : Bool → Hp → Prop} {a b : Bool} (ht : ∀ Q : Bool → Hp → Prop, Q a H → t σ H Q) (hu : ∀ Q : Bool → Hp → Prop, Q b H → u σ H Q) (h : Q (a || b) H) : tOr t u σ H Q := by
  refine ht _ ?_
  cases a with
  | true => exact iteT h
  | false => exact iteF (hu _ h)
theorem and_read {t u : TT} {σ : L2.St} {H : Hp} {Q : Bool → Hp → Prop} {a b : Bool} (ht : ∀ Q : Bool → Hp → Prop, Q a H → t σ H Q) (hu : a = true → ∀ Q : Bool → Hp → Prop, Q b H → u σ H Q) (h : Q (a && b) H) : tAnd t u σ H Q := by
  refine ht _ ?_
  cases a with
  | true => exact iteT (hu rfl _ h)
  | false => exact iteF h
/-! ### < of data -/
section
variable {X : Cx}
def rLtD (K : PySem.W.Frag) : R2 := fun x y H Q => ∃ d e, Dp K H x d ∧ Dp K H y e ∧ PySem.W.alike d e = true ∧ d ≠ .none ∧ min d.depth e.depth ≤ 64 ∧ Q (.bl (PySem.W.dataLt d e)) H
theorem op_ltD (hu : X.A.units + 64 < cLine) : OpR X (compareOp .Lt) (rLtD X.K) := by
  intro pins s σ H x y v u Q I rx ry h
  obtain ⟨d, e, hd, he, al, nn, dp, q⟩ := h
  obtain ⟨as, r1⟩ := Dp.reads I d x v hd rx
  obtain ⟨bs, r2⟩ := Dp.reads I e y u he ry
  have z : wpAny (model X.prog X.w) X.A (compareOp .Lt v u) (EP X pins σ Q) X.xe s := PySem.W.rcLt_alike d e X.A s v u as bs r1 r2 al nn (by omega) X.prog X.w X.xe (EP X pins σ Q) ⟨.bl _, H, I, rfl, q⟩
  exact z
end
/-! ### rules that name the written part, for a comprehension's block -/
section
variable {X : Cx} {K : PySem.W.Frag}
theorem pe_fldK {e : Expr} {f : Str} {pos : Pos} {ta : TE} (he : PE X e ta) (hK : X.K = K := by rfl) (hb : attributeBase e f X.env (eval e X.env) = eval e X.env := by rfl) : PE X (.Attribute e f pos) (tFld K ta f) := by
  subst hK
  exact pe_fld he hb
theorem ix_listK (hK : X.K = K := by rfl) : IxR X (rIxL K) := by
  subst hK
  exact ix_list
theorem ix_tupK (hK : X.K = K := by rfl) : IxR X (rIxT K) := by
  subst hK
  exact ix_tup
def rLenK (K : PySem.W.Frag) : List V → Hp → VK → Prop := fun xs H Q => ∃ p ys, xs = [.ref p] ∧ (SqL K H p ys ∨ SqT K H p ys) ∧ Q (.int ys.length) H
theorem call_lenK (hK : X.K = K := by rfl) : CallR X (.builtin "len") (rLenK K) := by
  subst hK
  exact call_len_seq
theorem pg_tupK {es : List Expr} {k : Nat} {t : TGs} {n : Nat} {pos : Pos} (hc : X.calm = true) (h : PGs X es t) (hK : X.K = K := by rfl)
    (hn : (assignEach es X.env).length = n := by rfl) (hst : (assignEach es X.env).findIdx? (·.1) = none := by rfl) : PG X (.Tuple es k pos) (gTup K n t) := by
  subst hK
  exact pg_tup hc h hn hst
end
end My
/-! Nets as data, how the heap bears them. No row. -/
namespace My
open PySem PySem.Spec PyProof.Rows L2
/-- a net as data: host or not, the lines, processing, clock bound -/
structure NetD where
  ks : List Bool
  ls : List (Nat × Nat × Int)
  pr : Int
  er : Int
def kindV (b : Bool) : V := .str (if b then "host" else "switch")
def lineV (l : Nat × Nat × Int) : List V := [.int (l.1 : Int), .int (l.2.1 : Int), .int l.2.2]
def key2 (a b : Nat) : List Key := [Sum.inl (a : Int), Sum.inl (b : Int)]
def put2 (acc : List (List Key × V)) (l : Nat × Nat × Int) : List (List Key × V) := putK (putK acc (key2 l.1 l.2.1) (.int l.2.2)) (key2 l.2.1 l.1) (.int l.2.2)
def delaysOf (ls : List (Nat × Nat × Int)) : List (List Key × V) := ls.foldl put2 []
theorem put2_len (acc : List (List Key × V)) (l : Nat × Nat × Int) : (put2 acc l).length ≤ acc.length + 2 := by
  have h1 := length_putK (putK acc (key2 l.1 l.2.1) (.int l.2.2)) (key2 l.2.1 l.1) (.int l.2.2)
  have h2 := length_putK acc (key2 l.1 l.2.1) (.int l.2.2)
  unfold put2
  omega
theorem foldl_len : ∀ (ls : List (Nat × Nat × Int)) (acc : List (List Key × V)), (ls.foldl put2 acc).length ≤ acc.length + 2 * ls.length
  | [], acc => by simp
  | l :: r, acc => by
    have := foldl_len r (put2 acc l)
    have := put2_len acc l
    rw [List.foldl_cons, List.length_cons]
    omega
theorem delays_len (ls : List (Nat × Nat × Int)) : (delaysOf ls).length ≤ 2 * ls.length := by
  have := foldl_len ls []
  rw [List.length_nil] at this
  unfold delaysOf
  omega
theorem delays_snoc (ls : List (Nat × Nat × Int)) (l : Nat × Nat × Int) : delaysOf (ls ++ [l]) = put2 (delaysOf ls) l := by
  unfold delaysOf
  rw [List.foldl_append]
  rfl
theorem take_snoc {α : Type} {xs : List α} {i : Nat} {x : α} (h : xs[i]? = some x) : xs.take (i + 1) = xs.take i ++ [x] := by
  rw [List.take_add_one, h]
  rfl
theorem key2_inj {a b c d : Nat} (e : key2 a b = key2 c d) : a = c ∧ b = d := by
  unfold key2 at e
  injection e with e1 e2
  injection e2 with e2 _
  injection e1 with e1
  injection e2 with e2
  exact ⟨by omega, by omega⟩
/-- the line joins both nodes -/
def hits (a b : Nat) (l : Nat × Nat × Int) : Bool := (decide (l.1 = a) && decide (l.2.1 = b)) || (decide (l.1 = b) && decide (l.2.1 = a))
theorem valV_put2 (acc : List (List Key × V)) (l : Nat × Nat × Int) (a b : Nat) : valV (put2 acc l) (key2 a b) = if hits a b l = true then some (.int l.2.2) else valV acc (key2 a b) := by
  unfold put2 hits
  rw [valV_put, valV_put]
  by_cases h1 : key2 a b = key2 l.2.1 l.1
  · obtain ⟨e1, e2⟩ := key2_inj h1
    rw [if_pos h1, if_pos]
    simp [e1, e2]
  · rw [if_neg h1]
    by_cases h2 : key2 a b = key2 l.1 l.2.1
    · obtain ⟨e1, e2⟩ := key2_inj h2
      rw [if_pos h2, if_pos]
      simp [e1, e2]
    · rw [if_neg h2, if_neg]
      intro h
      rw [Bool.or_eq_true, Bool.and_eq_true, Bool.and_eq_true, decide_eq_true_eq, decide_eq_true_eq, decide_eq_true_eq, decide_eq_true_eq] at h
      rcases h with ⟨e1, e2⟩ | ⟨e1, e2⟩
      · exact h2 (by rw [e1, e2])
      · exact h1 (by rw [e1, e2])
theorem valV_fold (a b : Nat) : ∀ (ls : List (Nat × Nat × Int)) (acc : List (List Key × V)), (valV (ls.foldl put2 acc) (key2 a b)).isSome = (ls.any (hits a b) || (valV acc (key2 a b)).isSome)
  | [], acc => by simp
  | l :: r, acc => by
    rw [List.foldl_cons, valV_fold a b r, valV_put2, List.any_cons]
    cases hits a b l with
    | true => simp
    | false => simp
def adj (N : NetD) (a b : Nat) : Bool := N.ls.any (hits a b)
theorem adj_val (N : NetD) (a b : Nat) : (valV (delaysOf N.ls) (key2 a b)).isSome = adj N a b := by
  unfold delaysOf adj
  rw [valV_fold]
  simp [valV_nil]
/-- the first line that joins both -/
def joined (N : NetD) (a b : Nat) : Option Int := (N.ls.find? (hits a b)).map (·.2.2)
theorem joined_some (N : NetD) (a b : Nat) : (joined N a b).isSome = adj N a b := by
  unfold joined adj
  rw [Option.isSome_map, Bool.eq_iff_iff, List.find?_isSome, List.any_eq_true]

def nbs (N : NetD) (a : Nat) : List Nat := (List.range N.ks.length).filter (adj N a)
def natsV (ns : List Nat) : List V := ns.map fun (n : Nat) => V.int (n : Int)
/-- host or not -/
def host (N : NetD) (a : Nat) : Bool := N.ks.getD a true
def lastN (r : List Nat) : Nat := r.getD (r.length - 1) 0
def okb (N : NetD) (r : List Nat) (b : Nat) : Bool := !(r.contains b) && adj N (lastN r) b
def exH (N : NetD) (r : List Nat) : List (List Nat) := ((List.range N.ks.length).filter fun b => okb N r b && host N b).map fun b => r ++ [b]
def exS (N : NetD) (r : List Nat) : List (List Nat) := ((List.range N.ks.length).filter fun b => okb N r b && !host N b).map fun b => r ++ [b]
def rowsOf (N : NetD) : Nat → List (List Nat)
  | 0 => ((List.range N.ks.length).filter (host N)).map fun a => [a]
  | t + 1 => (rowsOf N t).flatMap (exS N)
def foundOf (N : NetD) : Nat → List (List Nat)
  | 0 => []
  | t + 1 => foundOf N t ++ (rowsOf N t).flatMap (exH N)
theorem natsV_at {ns : List Nat} {i n : Nat} (h : ns[i]? = some n) : (natsV ns)[i]? = some (.int (n : Int)) := by
  unfold natsV
  rw [List.getElem?_map, h]
  rfl
theorem natsV_len (ns : List Nat) : (natsV ns).length = ns.length := List.length_map ..
theorem natsV_flat (ns : List Nat) : (natsV ns).all flatV = true := by
  rw [List.all_eq_true]
  intro x hx
  obtain ⟨n, _, rfl⟩ := List.mem_map.mp hx
  rfl
theorem natsV_in (ns : List Nat) (b : Nat) : inV (.int (b : Int)) (natsV ns) = ns.contains b := by
  unfold inV natsV
  rw [List.any_map, List.contains_eq_any_beq]
  congr 1
  funext x
  show ((x : Int) == (b : Int)) = (b == x)
  rw [Bool.eq_iff_iff, beq_iff_eq, beq_iff_eq]
  omega
theorem natsV_app (r : List Nat) (b : Nat) : natsV r ++ [V.int (b : Int)] = natsV (r ++ [b]) := by
  unfold natsV
  rw [List.map_append]
  rfl
theorem len_flat {α β : Type} (f : α → List β) (m : Nat) (h : ∀ a, (f a).length ≤ m) : ∀ l : List α, (l.flatMap f).length ≤ m * l.length
  | [] => by simp
  | a :: r => by
    have := len_flat f m h r
    have := h a
    rw [List.flatMap_cons, List.length_append, List.length_cons, Nat.mul_add]
    omega
theorem exH_len (N : NetD) (r : List Nat) : (exH N r).length ≤ N.ks.length := by
  have := List.length_filter_le (fun b => okb N r b && host N b) (List.range N.ks.length)
  unfold exH
  rw [List.length_map]
  rw [List.length_range] at this
  exact this
theorem exS_len (N : NetD) (r : List Nat) : (exS N r).length ≤ N.ks.length := by
  have := List.length_filter_le (fun b => okb N r b && !host N b) (List.range N.ks.length)
  unfold exS
  rw [List.length_map]
  rw [List.length_range] at this
  exact this
theorem rows_len (N : NetD) (h : N.ks.length ≤ 7) : ∀ t, (rowsOf N t).length ≤ 8 ^ (t + 1)
  | 0 => by
    have := List.length_filter_le (host N) (List.range N.ks.length)
    rw [List.length_range] at this
    show (((List.range N.ks.length).filter (host N)).map fun a => [a]).length ≤ 8 ^ 1
    rw [List.length_map]
    omega
  | t + 1 => by
    have h1 := rows_len N h t
    have h2 := len_flat (exS N) 7 (fun a => Nat.le_trans (exS_len N a) h) (rowsOf N t)
    show ((rowsOf N t).flatMap (exS N)).length ≤ _
    rw [Nat.pow_succ]
    omega
theorem found_len (N : NetD) (h : N.ks.length ≤ 7) : ∀ t, (foundOf N t).length ≤ 8 ^ (t + 1)
  | 0 => by simp [foundOf]
  | t + 1 => by
    have h1 := found_len N h t
    have h0 := rows_len N h t
    have h2 := len_flat (exH N) 7 (fun a => Nat.le_trans (exH_len N a) h) (rowsOf N t)
    show (foundOf N t ++ (rowsOf N t).flatMap (exH N)).length ≤ _
    rw [List.length_append, Nat.pow_succ]
    omega
theorem ex_ne (N : NetD) (r x : List Nat) (h : x ∈ exH N r ∨ x ∈ exS N r) : x ≠ [] := by
  rcases h with h | h
  · obtain ⟨b, _, rfl⟩ := List.mem_map.mp h
    simp
  · obtain ⟨b, _, rfl⟩ := List.mem_map.mp h
    simp
theorem rows_row (N : NetD) : ∀ t, ∀ r ∈ rowsOf N t, r.length = t + 1
  | 0, r, h => by
    obtain ⟨a, _, rfl⟩ := List.mem_map.mp h
    rfl
  | t + 1, r, h => by
    obtain ⟨r', h1, h2⟩ := List.mem_flatMap.mp h
    obtain ⟨b, _, rfl⟩ := List.mem_map.mp h2
    rw [List.length_append, rows_row N t r' h1]
    rfl
theorem flat_take {α β : Type} (f : α → List β) {l : List α} {i : Nat} {a : α} (h : l[i]? = some a) : (l.take (i + 1)).flatMap f = (l.take i).flatMap f ++ f a := by
  rw [take_snoc h, List.flatMap_append, List.flatMap_cons, List.flatMap_nil, List.append_nil]
theorem filt_succ {α : Type} (p : Nat → Bool) (f : Nat → α) (j : Nat) : ((List.range (j + 1)).filter p).map f = ((List.range j).filter p).map f ++ (if p j = true then [f j] else []) := by
  rw [List.range_succ, List.filter_append, List.map_append, List.filter_cons]
  split <;> rfl
def optV : Option Int → V
  | none => .non
  | some d => .int d
theorem optV_non (o : Option Int) : (!decide (optV o = .non)) = o.isSome := by
  cases o with
  | none => rfl
  | some d => rfl
theorem dec_nat (a b : Nat) : decide (V.int (a : Int) = V.int (b : Int)) = decide (a = b) := by
  by_cases h : a = b
  · rw [h]; simp
  · rw [decide_eq_false h, decide_eq_false]
    intro z
    injection z with z
    omega
theorem find_take {α : Type} (p : α → Bool) {l : List α} {i : Nat} {a : α} (h : l[i]? = some a) (h0 : (l.take i).find? p = none) (hp : p a = true) : l.find? p = some a := by
  have e : l = l.take i ++ a :: l.drop (i + 1) := by
    obtain ⟨hi, e⟩ := List.getElem?_eq_some_iff.mp h
    rw [← e, List.getElem_cons_drop, List.take_append_drop]
  rw [e, List.find?_append, h0, List.find?_cons, hp]
  rfl
theorem find_skip {α : Type} (p : α → Bool) {l : List α} {i : Nat} {a : α} (h : l[i]? = some a) (h0 : (l.take i).find? p = none) (hp : ¬ p a = true) : (l.take (i + 1)).find? p = none := by
  rw [take_snoc h, List.find?_append, h0, List.find?_cons, Bool.eq_false_iff.mpr hp]
  rfl
/-! ### the instance's attributes -/
def netF (lk ll : Addr) (pr er : Int) (ld : Addr) : List (Str × V) := [("kinds", .ref lk), ("lines", .ref ll), ("processing", .int pr), ("error", .int er), ("_delays", .ref ld)]
theorem putF_new {f : Str} {v : V} : ∀ {fs : List (Str × V)}, fs.lookup f = none → putF f v fs = fs ++ [(f, v)]
  | [], _ => rfl
  | (g, x) :: r, h => by
    have e : (f == g) = false := by
      cases q : f == g with
      | false => rfl
      | true => rw [List.lookup_cons, q] at h; cases h
    rw [List.lookup_cons, e] at h
    have ne : ¬ g = f := fun z => by rw [z] at e; simp at e
    show (if g = f then (g, v) :: r else (g, x) :: putF f v r) = _
    rw [if_neg ne, putF_new h]
    rfl
theorem f1 {lk : Addr} : putF "kinds" (.ref lk) [] = [(("kinds" : Str), V.ref lk)] := rfl
theorem f2 {lk ll : Addr} : putF "lines" (.ref ll) [(("kinds" : Str), V.ref lk)] = [(("kinds" : Str), V.ref lk), ("lines", V.ref ll)] := putF_new rfl
theorem f3 {lk ll : Addr} {pr : Int} : putF "processing" (.int pr) [(("kinds" : Str), V.ref lk), ("lines", V.ref ll)] = [(("kinds" : Str), V.ref lk), ("lines", V.ref ll), ("processing", .int pr)] := putF_new rfl
theorem f4 {lk ll : Addr} {pr er : Int} : putF "error" (.int er) [(("kinds" : Str), V.ref lk), ("lines", V.ref ll), ("processing", .int pr)] = [(("kinds" : Str), V.ref lk), ("lines", V.ref ll), ("processing", .int pr), ("error", .int er)] := putF_new rfl
theorem f5 {lk ll ld : Addr} {pr er : Int} : putF "_delays" (.ref ld) [(("kinds" : Str), V.ref lk), ("lines", V.ref ll), ("processing", .int pr), ("error", .int er)] = netF lk ll pr er ld := putF_new rfl
section
variable {lk ll ld : Addr} {pr er : Int}
theorem g1 : (netF lk ll pr er ld).lookup ("kinds" : Str) = some (.ref lk) := rfl
theorem g2 : (netF lk ll pr er ld).lookup ("lines" : Str) = some (.ref ll) := rfl
theorem g3 : (netF lk ll pr er ld).lookup ("processing" : Str) = some (.int pr) := rfl
theorem g4 : (netF lk ll pr er ld).lookup ("error" : Str) = some (.int er) := rfl
theorem g5 : (netF lk ll pr er ld).lookup ("_delays" : Str) = some (.ref ld) := rfl
theorem g6 : (netF lk ll pr er ld).lookup ("neighbours" : Str) = none := rfl
theorem g7 : (netF lk ll pr er ld).lookup ("delay" : Str) = none := rfl
end
/-- tuples of lines -/
abbrev LinesAt (K : PySem.W.Frag) (H : Hp) (ts : List Addr) (ls : List (Nat × Nat × Int)) : Prop := Paired (fun (t : Addr) (l : Nat × Nat × Int) => SqT K H t (lineV l)) ts ls
theorem same_tup {K : PySem.W.Frag} {H H' : Hp} {a : Addr} {xs : List V} (e : Same H H') (h : SqT K H a xs) : SqT K H' a xs := by
  rcases h with (h | ⟨o, h⟩) | h
  · exact .inl (.inl (e _ _ h))
  · exact .inl (.inr ⟨o, e _ _ h⟩)
  · exact .inr h
theorem Paired.imp {α β : Type} {F G : α → β → Prop} : ∀ {l1 : List α} {l2 : List β}, Paired F l1 l2 → (∀ a b, F a b → G a b) → Paired G l1 l2
  | _, _, .nil, _ => .nil
  | _, _, .cons r t, f => .cons (f _ _ r) (Paired.imp t f)
theorem Paired.at {α β : Type} {F : α → β → Prop} : ∀ {xs : List α} {ys : List β}, Paired F xs ys → ∀ {i : Nat} {x : α}, xs[i]? = some x → ∃ y, ys[i]? = some y ∧ F x y
  | _, _, .nil, i, x, h => by cases h
  | _, _, .cons r t, 0, x, h => by
    have e := Option.some.inj h
    subst e
    exact ⟨_, rfl, r⟩
  | _, _, .cons r t, i + 1, x, h => Paired.at t h
theorem Paired.snoc {α β : Type} {F : α → β → Prop} {x : α} {y : β} (r : F x y) : ∀ {xs : List α} {ys : List β}, Paired F xs ys → Paired F (xs ++ [x]) (ys ++ [y])
  | _, _, .nil => .cons r .nil
  | _, _, .cons h t => .cons h (Paired.snoc r t)
theorem LinesAt.same {K : PySem.W.Frag} {H H' : Hp} {ts : List Addr} {ls : List (Nat × Nat × Int)} (h : LinesAt K H ts ls) (e : Same H H') : LinesAt K H' ts ls := Paired.imp h fun _ _ q => same_tup e q
/-- a Net stands at p -/
def NetAt (K : PySem.W.Frag) (C : Addr) (H : Hp) (p : Addr) (N : NetD) : Prop := ∃ (dx lk ll ld : Addr) (ts : List Addr), H p = some (.ins C dx (netF lk ll N.pr N.er ld)) ∧ H lk = some (.lst (N.ks.map kindV)) ∧ H ll = some (.lst (ts.map V.ref)) ∧
  LinesAt K H ts N.ls ∧ H ld = some (.dT (delaysOf N.ls))
theorem NetAt.same {K : PySem.W.Frag} {C : Addr} {H H' : Hp} {p : Addr} {N : NetD} (h : NetAt K C H p N) (e : Same H H') : NetAt K C H' p N := by
  obtain ⟨dx, lk, ll, ld, ts, h1, h2, h3, h4, h5⟩ := h
  exact ⟨dx, lk, ll, ld, ts, e _ _ h1, e _ _ h2, e _ _ h3, h4.same e, e _ _ h5⟩
/-- all but p is kept -/
def But (p : Addr) (H H' : Hp) : Prop := ∀ b o, H b = some o → b ≠ p → H' b = some o
theorem But.trans {p : Addr} {H H1 H2 : Hp} (a : But p H H1) (b : But p H1 H2) : But p H H2 := fun c o h n => b c o (a c o h n) n
theorem But.seq {K : PySem.W.Frag} {p C dx a : Addr} {fs : List (Str × V)} {H H' : Hp} {xs : List V} (h : But p H H') (hp : H p = some (.ins C dx fs)) (q : SqL K H a xs) : SqL K H' a xs := by
  rcases q with (q | ⟨o, q⟩) | q
  · exact .inl (.inl (h _ _ q (ne_of q hp (by intro z; cases z))))
  · exact .inl (.inr ⟨o, h _ _ q (ne_of q hp (by intro z; cases z))⟩)
  · exact .inr q
theorem But.tup {K : PySem.W.Frag} {p C dx a : Addr} {fs : List (Str × V)} {H H' : Hp} {xs : List V} (h : But p H H') (hp : H p = some (.ins C dx fs)) (q : SqT K H a xs) : SqT K H' a xs := by
  rcases q with (q | ⟨o, q⟩) | q
  · exact .inl (.inl (h _ _ q (ne_of q hp (by intro z; cases z))))
  · exact .inl (.inr ⟨o, h _ _ q (ne_of q hp (by intro z; cases z))⟩)
  · exact .inr q
theorem but_new {p l : Addr} {o u : HO} {H : Hp} (nl : H l = none) : But p H (upd (upd H l o) p u) := fun b x e n => by
  rw [upd_ne n, upd_ne (ne_of_none e nl)]; exact e
theorem but_self {p : Addr} {u : HO} {H : Hp} : But p H (upd H p u) := fun b x e n => by
  rw [upd_ne n]; exact e
theorem but_app {p t : Addr} {o u : HO} {H : Hp} (nt : H t = none) : But p H (upd (upd H t o) p u) := but_new nt
theorem But.refl (p : Addr) (H : Hp) : But p H H := fun _ _ e _ => e
theorem But.tupL {K : PySem.W.Frag} {p a : Addr} {ys : List V} {H H' : Hp} {xs : List V} (h : But p H H') (hp : H p = some (.lst ys)) (q : SqT K H a xs) : SqT K H' a xs := by
  rcases q with (q | ⟨o, q⟩) | q
  · exact .inl (.inl (h _ _ q (ne_of q hp (by intro z; cases z))))
  · exact .inl (.inr ⟨o, h _ _ q (ne_of q hp (by intro z; cases z))⟩)
  · exact .inr q
theorem same_but {p : Addr} {H H1 H2 : Hp} (e : Same H H1) (n : H p = none) (h : But p H1 H2) : Same H H2 := fun b o q => h _ _ (e _ _ q) (ne_of_none q n)
theorem kind_sw {b : Bool} (h : kindV b = V.str "switch") : b = false := by
  cases b with
  | false => rfl
  | true => exact absurd h (by decide +kernel)
theorem kind_ho {b : Bool} (h : kindV b = V.str "host") : b = true := by
  cases b with
  | true => rfl
  | false => exact absurd h (by decide +kernel)
theorem kind_inj {a b : Bool} (h : kindV a = kindV b) : a = b := by
  cases a with
  | true => exact (kind_ho h.symm).symm
  | false => exact (kind_sw h.symm).symm
theorem atI_kind {ks : List Bool} {z : Int} {j : Nat} (e : z = (j : Int)) (h : j < ks.length) : atI (ks.map kindV) z = some (kindV (ks.getD j true)) := by
  rw [e]
  refine atI_nat ?_
  rw [List.getElem?_map, getD_at true h]
  rfl
/-- a line's nodes, the greater one first -/
def norm (l : Nat × Nat × Int) : Nat × Nat := if l.2.1 < l.1 then (l.1, l.2.1) else (l.2.1, l.1)
theorem norm_gt {a b : Nat} {d : Int} (h : b < a) : norm (a, b, d) = (a, b) := if_pos h
theorem norm_lt {a b : Nat} {d : Int} (h : b < a) : norm (b, a, d) = (a, b) := if_neg (by show ¬ a < b; omega)
structure LsOk (n : Nat) (ls : List (Nat × Nat × Int)) : Prop where
  nd : (ls.map norm).Nodup
  bd : ∀ l ∈ ls, (norm l).2 < (norm l).1 ∧ (norm l).1 < n
  dl : ∀ l ∈ ls, 0 ≤ l.2.2 ∧ l.2.2 ≤ 4
  few : ls.length ≤ 100
structure NetWf (N : NetD) : Prop where
  h0 : 2 ≤ N.ks.count true
  h1 : N.ks.count true ≤ 4
  s0 : 1 ≤ N.ks.count false
  s1 : N.ks.count false ≤ 3
  ls : LsOk N.ks.length N.ls
  p0 : 0 ≤ N.pr
  p1 : N.pr ≤ 2
  e0 : 0 ≤ N.er
  e1 : N.er ≤ 2
theorem len_count : ∀ ks : List Bool, ks.length = ks.count true + ks.count false
  | [] => rfl
  | b :: r => by
    have := len_count r
    rw [List.length_cons, List.count_cons, List.count_cons]
    cases b <;> simp <;> omega
theorem count_ins (ks : List Bool) (i : Nat) (b x : Bool) : (ks.take i ++ [b] ++ ks.drop i).count x = ks.count x + [b].count x := by
  have h : ks.count x = (ks.take i).count x + (ks.drop i).count x := by rw [← List.count_append, List.take_append_drop]
  rw [List.count_append, List.count_append, h]
  omega
theorem rep_flat {α : Type} (x : α) : ∀ n : Nat, (List.replicate n [x]).flatten = List.replicate n x
  | 0 => rfl
  | n + 1 => by rw [List.replicate_succ, List.flatten_cons, rep_flat x n]; rfl
/-- pairs of nodes as tuples -/
abbrev PairsAt (K : PySem.W.Frag) (H : Hp) (ts : List Addr) (ps : List (Nat × Nat)) : Prop := Paired (fun (t : Addr) (p : Nat × Nat) => SqT K H t [.int (p.1 : Int), .int (p.2 : Int)]) ts ps
theorem PairsAt.mono {K : PySem.W.Frag} {H H' : Hp} {ts : List Addr} {ps : List (Nat × Nat)} (h : PairsAt K H ts ps) (f : ∀ a ys, SqT K H a ys → SqT K H' a ys) : PairsAt K H' ts ps := Paired.imp h fun _ _ z => f _ _ z
theorem LinesAt.mono {K : PySem.W.Frag} {H H' : Hp} {ts : List Addr} {ps : List (Nat × Nat × Int)} (h : LinesAt K H ts ps) (f : ∀ a ys, SqT K H a ys → SqT K H' a ys) : LinesAt K H' ts ps := Paired.imp h fun _ _ z => f _ _ z
theorem PairsAt.snoc {K : PySem.W.Frag} {H : Hp} {ts : List Addr} {ps : List (Nat × Nat)} {t : Addr} {p : Nat × Nat} (h : PairsAt K H ts ps) (x : SqT K H t [.int (p.1 : Int), .int (p.2 : Int)]) : PairsAt K H (ts ++ [t]) (ps ++ [p]) := Paired.snoc (F := fun (t : Addr) (p : Nat × Nat) => SqT K H t [.int (p.1 : Int), .int (p.2 : Int)]) x h
theorem LinesAt.snoc {K : PySem.W.Frag} {H : Hp} {ts : List Addr} {ps : List (Nat × Nat × Int)} {t : Addr} {p : Nat × Nat × Int} (h : LinesAt K H ts ps) (x : SqT K H t (lineV p)) : LinesAt K H (ts ++ [t]) (ps ++ [p]) := Paired.snoc (F := fun (t : Addr) (l : Nat × Nat × Int) => SqT K H t (lineV l)) x h
structure PInv (ks : List Bool) (ps : List (Nat × Nat)) (a b : Nat) : Prop where
  nd : ps.Nodup
  ok : ∀ p ∈ ps, p.2 < p.1 ∧ p.1 < ks.length ∧ (p.1 < a ∨ (p.1 = a ∧ p.2 < b)) ∧ (ks.getD p.1 true = false ∨ ks.getD p.2 true = false)
  few : ps.length ≤ 7 * a + b
theorem nd_snoc' {α : Type} : ∀ {l : List α} {k : α}, l.Nodup → ¬ k ∈ l → (l ++ [k]).Nodup
  | [], k, _, _ => by simp
  | a :: r, k, h, hk => by
    obtain ⟨h1, h2⟩ := List.nodup_cons.mp h
    show (a :: (r ++ [k])).Nodup
    refine List.nodup_cons.mpr ⟨fun m => ?_, nd_snoc' h2 fun m => hk (List.mem_cons.mpr (Or.inr m))⟩
    rcases List.mem_append.mp m with q | q
    · exact h1 q
    · exact hk (List.mem_cons.mpr (Or.inl (List.mem_singleton.mp q).symm))
theorem PInv.nil {ks : List Bool} : PInv ks [] 0 0 := ⟨List.nodup_nil, fun p h => by (cases h), Nat.le_refl _⟩
theorem PInv.skip {ks : List Bool} {ps : List (Nat × Nat)} {a b : Nat} (h : PInv ks ps a b) : PInv ks ps a (b + 1) :=
  ⟨h.nd, fun p hp => let ⟨x, y, z, w⟩ := h.ok p hp; ⟨x, y, by omega, w⟩, by have := h.few; omega⟩
theorem PInv.next {ks : List Bool} {ps : List (Nat × Nat)} {a b : Nat} (h : PInv ks ps a b) (hb : b ≤ 7) : PInv ks ps (a + 1) 0 :=
  ⟨h.nd, fun p hp => let ⟨x, y, z, w⟩ := h.ok p hp; ⟨x, y, by omega, w⟩, by have := h.few; omega⟩
theorem PInv.snoc {ks : List Bool} {ps : List (Nat × Nat)} {a b : Nat} (h : PInv ks ps a b) (ha : a < ks.length) (hb : b < a) (hs : ks.getD a true = false ∨ ks.getD b true = false) : PInv ks (ps ++ [(a, b)]) a (b + 1) := by
  refine ⟨nd_snoc' h.nd fun m => ?_, fun p hp => ?_, by have := h.few; rw [List.length_append, List.length_singleton]; omega⟩
  · obtain ⟨_, _, z, _⟩ := h.ok _ m
    have z' : a < a ∨ (a = a ∧ b < b) := z
    omega
  · rcases List.mem_append.mp hp with q | q
    · obtain ⟨x, y, z, w⟩ := h.ok p q
      exact ⟨x, y, by omega, w⟩
    · rw [List.mem_singleton.mp q]
      exact ⟨hb, ha, .inr ⟨rfl, by show b < b + 1; omega⟩, hs⟩
/-- lines made from the first k pairs -/
structure LInv (ps : List (Nat × Nat)) (ls : List (Nat × Nat × Int)) (k : Nat) : Prop where
  nd : (ls.map norm).Nodup
  from_ : ∀ l ∈ ls, ∃ j, j < k ∧ ps[j]? = some (norm l)
  dl : ∀ l ∈ ls, 0 ≤ l.2.2 ∧ l.2.2 ≤ 4
  few : ls.length ≤ k
theorem LInv.nil {ps : List (Nat × Nat)} : LInv ps [] 0 := ⟨List.nodup_nil, fun p h => by (cases h), fun p h => by (cases h), Nat.le_refl _⟩
theorem LInv.skip {ps : List (Nat × Nat)} {ls : List (Nat × Nat × Int)} {k : Nat} (h : LInv ps ls k) : LInv ps ls (k + 1) :=
  ⟨h.nd, fun l hl => let ⟨j, x, y⟩ := h.from_ l hl; ⟨j, by omega, y⟩, h.dl, by have := h.few; omega⟩
theorem LInv.snoc {ps : List (Nat × Nat)} {ls : List (Nat × Nat × Int)} {k : Nat} {l : Nat × Nat × Int} (h : LInv ps ls k) (hp : ps.Nodup) (e : ps[k]? = some (norm l)) (d : 0 ≤ l.2.2 ∧ l.2.2 ≤ 4) : LInv ps (ls ++ [l]) (k + 1) := by
  refine ⟨?_, fun x hx => ?_, fun x hx => ?_, by have := h.few; rw [List.length_append, List.length_singleton]; omega⟩
  · rw [List.map_append]
    refine nd_snoc' h.nd fun m => ?_
    obtain ⟨x, hx, ex⟩ := List.mem_map.mp m
    obtain ⟨j, hj, ej⟩ := h.from_ x hx
    rw [ex] at ej
    have := nd_ix hp ej e
    omega
  · rcases List.mem_append.mp hx with q | q
    · obtain ⟨j, x1, y⟩ := h.from_ x q
      exact ⟨j, by omega, y⟩
    · rw [List.mem_singleton.mp q]
      exact ⟨k, by omega, e⟩
  · rcases List.mem_append.mp hx with q | q
    · exact h.dl x q
    · rw [List.mem_singleton.mp q]
      exact d
/-- .. and host pairs ahead of (a, b) -/
structure HInv (ks : List Bool) (ps : List (Nat × Nat)) (ls : List (Nat × Nat × Int)) (a b : Nat) : Prop where
  nd : (ls.map norm).Nodup
  from_ : ∀ l ∈ ls, norm l ∈ ps ∨ ((norm l).2 < (norm l).1 ∧ (norm l).1 < ks.length ∧ ((norm l).1 < a ∨ ((norm l).1 = a ∧ (norm l).2 < b)) ∧ ks.getD (norm l).1 true = true ∧ ks.getD (norm l).2 true = true)
  dl : ∀ l ∈ ls, 0 ≤ l.2.2 ∧ l.2.2 ≤ 4
  few : ls.length ≤ 100
theorem LInv.host {ks : List Bool} {ps : List (Nat × Nat)} {ls : List (Nat × Nat × Int)} {k : Nat} (h : LInv ps ls k) (hk : k ≤ 100) : HInv ks ps ls 0 0 :=
  ⟨h.nd, fun l hl => let ⟨j, _, y⟩ := h.from_ l hl; .inl (List.mem_of_getElem? y), h.dl, by have := h.few; omega⟩
theorem HInv.skip {ks : List Bool} {ps : List (Nat × Nat)} {ls : List (Nat × Nat × Int)} {a b : Nat} (h : HInv ks ps ls a b) : HInv ks ps ls a (b + 1) :=
  ⟨h.nd, fun l hl => (h.from_ l hl).imp id fun ⟨x, y, z, w⟩ => ⟨x, y, by omega, w⟩, h.dl, h.few⟩
theorem HInv.next {ks : List Bool} {ps : List (Nat × Nat)} {ls : List (Nat × Nat × Int)} {a b : Nat} (h : HInv ks ps ls a b) : HInv ks ps ls (a + 1) 0 :=
  ⟨h.nd, fun l hl => (h.from_ l hl).imp id fun ⟨x, y, z, w⟩ => ⟨x, y, by omega, w⟩, h.dl, h.few⟩
theorem HInv.snoc {ks : List Bool} {ps : List (Nat × Nat)} {ls : List (Nat × Nat × Int)} {a b c e : Nat} {d : Int} (h : HInv ks ps ls a b) (hp : PInv ks ps c e) (ha : a < ks.length) (hb : b < a) (h1 : ks.getD a true = true) (h2 : ks.getD b true = true) (hd : 0 ≤ d ∧ d ≤ 4) (hf : ls.length < 20) :
    HInv ks ps (ls ++ [(a, b, d)]) a (b + 1) := by
  have en : norm (a, b, d) = (a, b) := norm_gt hb
  refine ⟨?_, fun x hx => ?_, fun x hx => ?_, by rw [List.length_append, List.length_singleton]; omega⟩
  · rw [List.map_append]
    refine nd_snoc' h.nd fun m => ?_
    obtain ⟨x, hx, ex⟩ := List.mem_map.mp m
    rw [en] at ex
    rcases h.from_ x hx with q | ⟨_, _, z, _⟩
    · rw [ex] at q
      obtain ⟨_, _, _, w⟩ := hp.ok _ q
      have w' : ks.getD a true = false ∨ ks.getD b true = false := w
      rw [h1, h2] at w'
      rcases w' with w' | w' <;> cases w'
    · rw [ex] at z
      have z' : a < a ∨ (a = a ∧ b < b) := z
      omega
  · rcases List.mem_append.mp hx with q | q
    · exact (h.from_ x q).imp id fun ⟨x, y, z, w⟩ => ⟨x, y, by omega, w⟩
    · rw [List.mem_singleton.mp q, en]
      exact .inr ⟨hb, ha, .inr ⟨rfl, by show b < b + 1; omega⟩, h1, h2⟩
  · rcases List.mem_append.mp hx with q | q
    · exact h.dl x q
    · rw [List.mem_singleton.mp q]
      exact hd
theorem HInv.ok {ks : List Bool} {ps : List (Nat × Nat)} {ls : List (Nat × Nat × Int)} {a b c e : Nat} (h : HInv ks ps ls a b) (hp : PInv ks ps c e) : LsOk ks.length ls :=
  ⟨h.nd, fun l hl => by
    rcases h.from_ l hl with q | ⟨x, y, _⟩
    · obtain ⟨x, y, _⟩ := hp.ok _ q
      exact ⟨x, y⟩
    · exact ⟨x, y⟩, h.dl, h.few⟩
/-- rows as lists -/
abbrev RowsAt (H : Hp) (as : List Addr) (rs : List (List Nat)) : Prop := Paired (fun (a : Addr) (r : List Nat) => r ≠ [] ∧ H a = some (.lst (natsV r))) as rs
theorem RowsAt.mono {H H' : Hp} {as : List Addr} {rs : List (List Nat)} (h : RowsAt H as rs) (f : ∀ a r, r ≠ [] → H a = some (.lst (natsV r)) → H' a = some (.lst (natsV r))) : RowsAt H' as rs := Paired.imp h fun _ _ z => ⟨z.1, f _ _ z.1 z.2⟩
theorem RowsAt.snoc {H : Hp} {as : List Addr} {rs : List (List Nat)} {a : Addr} {r : List Nat} (h : RowsAt H as rs) (n : r ≠ []) (e : H a = some (.lst (natsV r))) : RowsAt H (as ++ [a]) (rs ++ [r]) := Paired.snoc (F := fun (a : Addr) (r : List Nat) => r ≠ [] ∧ H a = some (.lst (natsV r))) ⟨n, e⟩ h
theorem RowsAt.same {H H' : Hp} {as : List Addr} {rs : List (List Nat)} (h : RowsAt H as rs) (e : Same H H') : RowsAt H' as rs := h.mono fun _ _ _ z => e _ _ z
/-- a row's list is no list of objects -/
theorem row_ne {H : Hp} {a p : Addr} {r : List Nat} {fs : List Addr} (n : r ≠ []) (h : H a = some (.lst (natsV r))) (hp : H p = some (.lst (fs.map V.ref))) : a ≠ p := by
  refine ne_of h hp fun e => ?_
  injection e with e
  cases r with
  | nil => exact n rfl
  | cons x r =>
    cases fs with
    | nil => cases e
    | cons y t =>
      unfold natsV at e
      rw [List.map_cons, List.map_cons] at e
      injection e with e1 _
      cases e1
theorem RowsAt.but {H H' : Hp} {as fs : List Addr} {rs : List (List Nat)} {p : Addr} (h : RowsAt H as rs) (hp : H p = some (.lst (fs.map V.ref))) (e : But p H H') : RowsAt H' as rs := h.mono fun _ _ n z => e _ _ z (row_ne n z hp)
/-- the class's facts -/
structure NetC (K : PySem.W.Frag) (C : Addr) : Prop where
  cl : Cls K C
  n1 : NoAttr K C "kinds"
  n2 : NoAttr K C "lines"
  n3 : NoAttr K C "processing"
  n4 : NoAttr K C "error"
  n5 : NoAttr K C "_delays"
end My
/-! A search level by level, as data. No row. -/
namespace My
open PySem PySem.Spec PyProof.Rows L2
abbrev Ways := Nat → Option (List Nat)
def setW (W : Ways) (v : Nat) (r : List Nat) : Ways := fun x => if x = v then some r else W x
def visit (u : Nat) (st : Ways × List Nat) (v : Nat) : Ways × List Nat :=
  if (st.1 v).isSome = true then st else (setW st.1 v ((st.1 u).getD [] ++ [v]), st.2 ++ [v])
def levStep (A : Nat → List Nat) (st : Ways × List Nat) : Ways × List Nat := st.2.foldl (fun s u => (A u).foldl (visit u) s) (st.1, [])
def lev (A : Nat → List Nat) (s : Nat) : Nat → Ways × List Nat
  | 0 => (fun x => if x = s then some [s] else none, [s])
  | t + 1 => levStep A (lev A s t)
theorem foldl_take {α β : Type} (f : β → α → β) {l : List α} {i : Nat} {a : α} (b : β) (h : l[i]? = some a) : (l.take (i + 1)).foldl f b = f ((l.take i).foldl f b) a := by
  rw [take_snoc h, List.foldl_append]
  rfl
theorem nodup_lt : ∀ (n : Nat) (l : List Nat), l.Nodup → (∀ x ∈ l, x < n) → l.length ≤ n
  | 0, l, _, h => by
    cases l with
    | nil => exact Nat.le_refl _
    | cons x r => exact absurd (h x List.mem_cons_self) (Nat.not_lt_zero _)
  | n + 1, l, hd, h => by
    by_cases hn : n ∈ l
    · have h1 := nodup_lt n (l.erase n) (hd.erase n) fun x hx => by
        have := (List.Nodup.mem_erase_iff hd).mp hx
        have := h x this.2
        omega
      rw [List.length_erase_of_mem hn] at h1
      omega
    · have h1 := nodup_lt n l hd fun x hx => by
        have := h x hx
        have : x ≠ n := fun z => hn (z ▸ hx)
        omega
      omega
/-- what a level's list is -/
structure Prog (n : Nat) (st : Ways × List Nat) : Prop where
  nd : st.2.Nodup
  lt : ∀ v ∈ st.2, v < n ∧ (st.1 v).isSome = true
theorem Prog.len {n : Nat} {st : Ways × List Nat} (h : Prog n st) : st.2.length ≤ n := nodup_lt n _ h.nd fun x hx => (h.lt x hx).1
theorem visit_some {u v : Nat} {st : Ways × List Nat} (h : (st.1 v).isSome = true) : visit u st v = st := if_pos h
theorem visit_none {u v : Nat} {st : Ways × List Nat} (h : ¬ (st.1 v).isSome = true) : visit u st v = (setW st.1 v ((st.1 u).getD [] ++ [v]), st.2 ++ [v]) := if_neg h
theorem visit_keep {u v x : Nat} {st : Ways × List Nat} {r : List Nat} (h : st.1 x = some r) : (visit u st v).1 x = some r := by
  by_cases e : (st.1 v).isSome = true
  · rw [visit_some e]; exact h
  · rw [visit_none e]
    show setW st.1 v _ x = some r
    unfold setW
    rw [if_neg fun z => e (by rw [← z, h]; rfl)]
    exact h
theorem Prog.visit {n u v : Nat} {st : Ways × List Nat} (h : Prog n st) (hv : v < n) : Prog n (visit u st v) := by
  by_cases e : (st.1 v).isSome = true
  · rw [visit_some e]; exact h
  · have hk : ∀ x, (st.1 x).isSome = true → ((My.visit u st v).1 x).isSome = true := fun x hx => by
      obtain ⟨r, hr⟩ := Option.isSome_iff_exists.mp hx
      rw [visit_keep hr]; rfl
    refine ⟨?_, fun x hx => ?_⟩
    · rw [visit_none e]
      exact nd_snoc' h.nd fun m => e (h.lt v m).2
    · have hx2 : x ∈ st.2 ++ [v] := by rw [visit_none e] at hx; exact hx
      rcases List.mem_append.mp hx2 with q | q
      · exact ⟨(h.lt x q).1, hk x (h.lt x q).2⟩
      · rw [List.mem_singleton.mp q]
        refine ⟨hv, ?_⟩
        rw [visit_none e]
        show (setW st.1 v _ v).isSome = true
        unfold setW
        rw [if_pos rfl]
        rfl
theorem Prog.fold {n u : Nat} : ∀ (l : List Nat) {st : Ways × List Nat}, Prog n st → (∀ v ∈ l, v < n) → Prog n (l.foldl (My.visit u) st)
  | [], _, h, _ => h
  | v :: r, _, h, hl => Prog.fold r (h.visit (hl v List.mem_cons_self)) fun x hx => hl x (List.mem_cons_of_mem _ hx)
theorem Prog.fold2 {n : Nat} {A : Nat → List Nat} : ∀ (l : List Nat) {st : Ways × List Nat}, Prog n st → (∀ u ∈ l, ∀ v ∈ A u, v < n) → Prog n (l.foldl (fun s u => (A u).foldl (My.visit u) s) st)
  | [], _, h, _ => h
  | u :: r, _, h, hl => Prog.fold2 r (h.fold (A u) (hl u List.mem_cons_self)) fun x hx => hl x (List.mem_cons_of_mem _ hx)
theorem keep_fold {u x : Nat} {r : List Nat} : ∀ (l : List Nat) {st : Ways × List Nat}, st.1 x = some r → (l.foldl (My.visit u) st).1 x = some r
  | [], _, h => h
  | v :: t, _, h => keep_fold t (visit_keep h)
theorem keep_fold2 {A : Nat → List Nat} {x : Nat} {r : List Nat} : ∀ (l : List Nat) {st : Ways × List Nat}, st.1 x = some r → (l.foldl (fun s u => (A u).foldl (My.visit u) s) st).1 x = some r
  | [], _, h => h
  | u :: t, _, h => keep_fold2 t (keep_fold (A u) h)
theorem lev_prog {A : Nat → List Nat} {s n : Nat} (hs : s < n) (hA : ∀ a, a < n → ∀ b ∈ A a, b < n) : ∀ t, Prog n (lev A s t)
  | 0 => ⟨by show [s].Nodup; simp, fun v hv => by
      have hv : v ∈ [s] := hv
      rw [List.mem_singleton.mp hv]
      exact ⟨hs, by show (if s = s then some [s] else none).isSome = true; rw [if_pos rfl]; rfl⟩⟩
  | t + 1 => by
    have ih := lev_prog hs hA t
    exact Prog.fold2 (st := ((lev A s t).1, [])) _ ⟨List.nodup_nil, fun v hv => by cases hv⟩ fun u hu => hA u (ih.lt u hu).1
theorem lev_end {A : Nat → List Nat} {s t : Nat} (h : (lev A s t).2 = []) : ∀ k, lev A s (t + k) = ((lev A s t).1, []) ∨ k = 0
  | 0 => .inr rfl
  | k + 1 => by
    refine .inl ?_
    show levStep A (lev A s (t + k)) = _
    rcases lev_end h k with e | e
    · rw [e]
      rfl
    · rw [e]
      unfold levStep
      rw [Nat.add_zero, h]
      rfl
theorem lev_same {A : Nat → List Nat} {s t T : Nat} (h : (lev A s t).2 = []) (ht : t ≤ T) : (lev A s T).1 = (lev A s t).1 := by
  obtain ⟨k, rfl⟩ : ∃ k, T = t + k := ⟨T - t, by omega⟩
  rcases lev_end h k with e | e
  · rw [e]
  · rw [e]; rfl
/-! ### how the heap bears them -/
def ArcsAt (H : Hp) (d : Addr) (A : Nat → List Nat) (n : Nat) : Prop := ∃ kvs : List (Key × V), H d = some (.dK kvs) ∧ ∀ a, a < n → ∃ l, valV kvs (Sum.inl (a : Int)) = some (.ref l) ∧ H l = some (.lst (natsV (A a)))
theorem ArcsAt.same {H H' : Hp} {d : Addr} {A : Nat → List Nat} {n : Nat} (h : ArcsAt H d A n) (e : Same H H') : ArcsAt H' d A n := by
  obtain ⟨kvs, h1, h2⟩ := h
  exact ⟨kvs, e _ _ h1, fun a ha => let ⟨l, x, y⟩ := h2 a ha; ⟨l, x, e _ _ y⟩⟩
/-- the dict of ways; no way's list is q -/
def WaysAt (H0 H : Hp) (d : Addr) (W : Ways) (m : Nat) (q : Addr) : Prop := ∃ kvs : List (Key × V), H d = some (.dK kvs) ∧ kvs.length ≤ m ∧ (∀ v, W v = none → valV kvs (Sum.inl (v : Int)) = none) ∧
  ∀ v r, W v = some r → r.length ≤ kvs.length ∧ ∃ l, valV kvs (Sum.inl (v : Int)) = some (.ref l) ∧ H l = some (.lst (natsV r)) ∧ H0 l = none ∧ l ≠ q
def WayV (H0 H : Hp) (o : Option (List Nat)) (v : V) : Prop := match o with
  | none => v = .non
  | some r => ∃ l, v = .ref l ∧ H0 l = none ∧ H l = some (.lst (natsV r))
theorem WaysAt.get {H0 H : Hp} {d : Addr} {W : Ways} {m : Nat} {q : Addr} (h : WaysAt H0 H d W m q) (v : Nat) : ∃ o, DGet H d (.int (v : Int)) o ∧ o.isSome = (W v).isSome ∧ WayV H0 H (W v) (o.getD .non) := by
  obtain ⟨kvs, h1, _, h2, h3⟩ := h
  refine ⟨valV kvs (Sum.inl (v : Int)), DGet.k (k := Sum.inl (v : Int)) h1, ?_, ?_⟩
  · cases e : W v with
    | none => rw [h2 v e]; rfl
    | some r =>
      obtain ⟨_, l, x, _⟩ := h3 v r e
      rw [x]
      rfl
  · cases e : W v with
    | none => rw [h2 v e]; rfl
    | some r =>
      obtain ⟨_, l, x, y, z, _⟩ := h3 v r e
      rw [x]
      exact ⟨l, rfl, z, y⟩
theorem WaysAt.mono {H0 H H' : Hp} {d : Addr} {W : Ways} {m : Nat} {q q' : Addr} (h : WaysAt H0 H d W m q) (hd : ∀ kvs, H d = some (.dK kvs) → H' d = some (.dK kvs)) (hl : ∀ l r, l ≠ q → H l = some (.lst (natsV r)) → H' l = some (.lst (natsV r)) ∧ l ≠ q') : WaysAt H0 H' d W m q' := by
  obtain ⟨kvs, h1, h2, h3, h4⟩ := h
  refine ⟨kvs, hd _ h1, h2, h3, fun v r e => ?_⟩
  obtain ⟨a, l, x, y, z, n⟩ := h4 v r e
  exact ⟨a, l, x, (hl l r n y).1, z, (hl l r n y).2⟩
theorem WaysAt.put {H0 H : Hp} {d : Addr} {W : Ways} {m : Nat} {q : Addr} {v : Nat} {r : List Nat} {l : Addr} {kvs : List (Key × V)} (h : WaysAt H0 H d W m q) (hd : H d = some (.dK kvs)) (hv : W v = none) (hr : r.length ≤ kvs.length + 1) (hl : H l = some (.lst (natsV r))) (h0 : H0 l = none) (hq : l ≠ q) :
    WaysAt H0 (upd H d (.dK (putK kvs (Sum.inl (v : Int)) (.ref l)))) d (setW W v r) (m + 1) q := by
  obtain ⟨kvs', h1, h2, h3, h4⟩ := h
  rw [hd] at h1
  cases h1
  have en := putK_new (V.ref l) (h3 v hv)
  have key : ∀ x : Nat, ((Sum.inl (x : Int) : Key) = Sum.inl (v : Int)) ↔ x = v := fun x => ⟨fun z => by injection z with z; omega, fun z => by rw [z]⟩
  have nd : ∀ (l' : Addr) (r' : List Nat), H l' = some (.lst (natsV r')) → l' ≠ d := fun l' r' e => ne_of e hd (by intro z; cases z)
  refine ⟨_, upd_same, by rw [en, List.length_append, List.length_singleton]; omega, fun x hx => ?_, fun x r' hx => ?_⟩
  · unfold setW at hx
    by_cases e : x = v
    · rw [if_pos e] at hx; cases hx
    · rw [if_neg e] at hx
      rw [valV_put, if_neg fun z => e ((key x).mp z)]
      exact h3 x hx
  · unfold setW at hx
    by_cases e : x = v
    · rw [if_pos e] at hx
      cases hx
      refine ⟨by rw [en, List.length_append, List.length_singleton]; exact hr, l, ?_, by rw [upd_ne (nd l r hl)]; exact hl, h0, hq⟩
      rw [valV_put, if_pos ((key x).mpr e)]
    · rw [if_neg e] at hx
      obtain ⟨a, l', x', y, z, n⟩ := h4 x r' hx
      refine ⟨by rw [en, List.length_append, List.length_singleton]; omega, l', ?_, by rw [upd_ne (nd l' r' y)]; exact y, z, n⟩
      rw [valV_put, if_neg fun z => e ((key x).mp z)]
      exact x'
end My
/-! The rows found one by one, and the search level by level: the same shortest rows. No row of Lean's, no Python. -/
namespace My
open PySem PySem.Spec PyProof.Rows L2
/-! ### order -/
def lexlt : List Nat → List Nat → Prop
  | x :: xs, y :: ys => x < y ∨ (x = y ∧ lexlt xs ys)
  | _, _ => False
theorem lex_irr : ∀ x : List Nat, ¬ lexlt x x
  | [], h => h
  | x :: xs, h => by
    rcases h with h | ⟨_, h⟩
    · omega
    · exact lex_irr xs h
theorem lex_trans : ∀ {x y z : List Nat}, lexlt x y → lexlt y z → lexlt x z
  | [], _, _, h, _ => h.elim
  | _ :: _, [], _, h, _ => h.elim
  | _ :: _, _ :: _, [], _, h => h.elim
  | a :: x, b :: y, c :: z, h1, h2 => by
    rcases h1 with h1 | ⟨e1, h1⟩ <;> rcases h2 with h2 | ⟨e2, h2⟩
    · exact .inl (by omega)
    · exact .inl (by omega)
    · exact .inl (by omega)
    · exact .inr ⟨by omega, lex_trans h1 h2⟩
theorem lex_app1 : ∀ {x y : List Nat} (s t : List Nat), lexlt x y → lexlt (x ++ s) (y ++ t)
  | [], _, _, _, h => h.elim
  | _ :: _, [], _, _, h => h.elim
  | a :: x, b :: y, s, t, h => by
    rcases h with h | ⟨e, h⟩
    · exact .inl h
    · exact .inr ⟨e, lex_app1 s t h⟩
theorem lex_app2 : ∀ (x : List Nat) {s t : List Nat}, lexlt s t → lexlt (x ++ s) (x ++ t)
  | [], _, _, h => h
  | a :: x, _, _, h => .inr ⟨rfl, lex_app2 x h⟩
theorem lex_one {b c : Nat} (h : b < c) (x : List Nat) : lexlt (x ++ [b]) (x ++ [c]) := lex_app2 x (.inl h)
/-- fewer nodes, or as many and lexicographically less -/
def rlt (x y : List Nat) : Prop := x.length < y.length ∨ (x.length = y.length ∧ lexlt x y)
def rle (x y : List Nat) : Prop := x = y ∨ rlt x y
theorem rlt_irr (x : List Nat) : ¬ rlt x x := fun h => by
  rcases h with h | ⟨_, h⟩
  · omega
  · exact lex_irr x h
theorem rlt_trans {x y z : List Nat} (h1 : rlt x y) (h2 : rlt y z) : rlt x z := by
  rcases h1 with h1 | ⟨e1, h1⟩ <;> rcases h2 with h2 | ⟨e2, h2⟩
  · exact .inl (by omega)
  · exact .inl (by omega)
  · exact .inl (by omega)
  · exact .inr ⟨by omega, lex_trans h1 h2⟩
/-! ### rows -/
inductive Row (N : NetD) (a : Nat) : List Nat → Prop
  | start : Row N a [a]
  | ext {r : List Nat} {b : Nat} : Row N a r → (r = [a] ∨ host N (lastN r) = false) → okb N r b = true → b < N.ks.length → Row N a (r ++ [b])
theorem lastN_app (r : List Nat) (b : Nat) : lastN (r ++ [b]) = b := by
  unfold lastN
  rw [List.length_append, List.length_singleton, Nat.add_sub_cancel, List.getD_eq_getElem?_getD, List.getElem?_append_right (Nat.le_refl _), Nat.sub_self]
  rfl
theorem lastN_one (a : Nat) : lastN [a] = a := rfl
theorem okb_mem {N : NetD} {r : List Nat} {b : Nat} (h : okb N r b = true) : b ∉ r ∧ adj N (lastN r) b = true := by
  unfold okb at h
  rw [Bool.and_eq_true, Bool.not_eq_true'] at h
  refine ⟨fun m => ?_, h.2⟩
  have := List.contains_iff_mem.mpr m
  rw [h.1] at this
  cases this
theorem okb_of {N : NetD} {r : List Nat} {b : Nat} (h1 : b ∉ r) (h2 : adj N (lastN r) b = true) : okb N r b = true := by
  unfold okb
  rw [Bool.and_eq_true, Bool.not_eq_true']
  refine ⟨?_, h2⟩
  cases e : r.contains b with
  | false => rfl
  | true => exact absurd (List.contains_iff_mem.mp e) h1
theorem Row.ne {N : NetD} {a : Nat} {r : List Nat} (h : Row N a r) : r ≠ [] := by
  cases h with
  | start => simp
  | ext => simp
theorem Row.pos {N : NetD} {a : Nat} {r : List Nat} (h : Row N a r) : 1 ≤ r.length := List.length_pos_iff.mpr h.ne
theorem Row.nodup {N : NetD} {a : Nat} {r : List Nat} (h : Row N a r) : r.Nodup := by
  induction h with
  | start => simp
  | ext _ _ o _ ih => exact nd_snoc' ih (okb_mem o).1
theorem Row.head {N : NetD} {a : Nat} {r : List Nat} (h : Row N a r) : r.head? = some a := by
  induction h with
  | start => rfl
  | ext h _ _ _ ih =>
    cases ‹List Nat› with
    | nil => exact absurd rfl h.ne
    | cons x t => exact ih
theorem Row.lt {N : NetD} {a : Nat} {r : List Nat} (h : Row N a r) (ha : a < N.ks.length) : ∀ x ∈ r, x < N.ks.length := by
  induction h with
  | start => intro x hx; rw [List.mem_singleton.mp hx]; exact ha
  | ext _ _ _ hb ih =>
    intro x hx
    rcases List.mem_append.mp hx with q | q
    · exact ih x q
    · rw [List.mem_singleton.mp q]; exact hb
theorem Row.mem_last {N : NetD} {a : Nat} {r : List Nat} (h : Row N a r) : lastN r ∈ r := by
  cases h with
  | start => exact List.mem_singleton.mpr rfl
  | ext => rw [lastN_app]; exact List.mem_append.mpr (.inr (List.mem_singleton.mpr rfl))
/-- a node of a row is the end of a row that is not longer -/
theorem Row.pre {N : NetD} {a : Nat} {r : List Nat} (h : Row N a r) : ∀ v ∈ r, ∃ x, Row N a x ∧ lastN x = v ∧ x.length ≤ r.length := by
  induction h with
  | start => intro v hv; exact ⟨[a], .start, (List.mem_singleton.mp hv).symm ▸ rfl, Nat.le_refl _⟩
  | @ext r b h1 h2 o hb ih =>
    intro v hv
    rcases List.mem_append.mp hv with q | q
    · obtain ⟨x, x1, x2, x3⟩ := ih v q
      exact ⟨x, x1, x2, by rw [List.length_append]; omega⟩
    · exact ⟨r ++ [b], .ext h1 h2 o hb, by rw [lastN_app, List.mem_singleton.mp q], Nat.le_refl _⟩
theorem Row.split {N : NetD} {a : Nat} {x : List Nat} (h : Row N a x) : x = [a] ∨ ∃ y b, x = y ++ [b] ∧ Row N a y ∧ (y = [a] ∨ host N (lastN y) = false) ∧ okb N y b = true ∧ b < N.ks.length := by
  cases h with
  | start => exact .inl rfl
  | ext h1 h2 o hb => exact .inr ⟨_, _, rfl, h1, h2, o, hb⟩
theorem Row.back {N : NetD} {a : Nat} {r : List Nat} (h : Row N a r) (e : lastN r = a) : r = [a] := by
  rcases h.split with z | ⟨y, b, rfl, h1, _, o, _⟩
  · exact z
  · rw [lastN_app] at e
    exact absurd (by rw [e]; exact List.mem_of_mem_head? h1.head) (okb_mem o).1
/-! ### what the law finds -/
theorem mem_rows {N : NetD} : ∀ (t : Nat) (r : List Nat), r ∈ rowsOf N t ↔ ∃ a, a < N.ks.length ∧ host N a = true ∧ Row N a r ∧ r.length = t + 1 ∧ (r = [a] ∨ host N (lastN r) = false)
  | 0, r => by
    constructor
    · intro h
      obtain ⟨a, ha, rfl⟩ := List.mem_map.mp h
      obtain ⟨h1, h2⟩ := List.mem_filter.mp ha
      exact ⟨a, List.mem_range.mp h1, h2, .start, rfl, .inl rfl⟩
    · rintro ⟨a, h1, h2, h3, h4, _⟩
      rcases h3.split with rfl | ⟨y, b, rfl, h5, _⟩
      · exact List.mem_map.mpr ⟨a, List.mem_filter.mpr ⟨List.mem_range.mpr h1, h2⟩, rfl⟩
      · have := h5.pos
        rw [List.length_append, List.length_singleton] at h4
        omega
  | t + 1, r => by
    constructor
    · intro h
      obtain ⟨y, hy, hr⟩ := List.mem_flatMap.mp h
      obtain ⟨a, h1, h2, h3, h4, h5⟩ := (mem_rows t y).mp hy
      obtain ⟨b, hb, rfl⟩ := List.mem_map.mp hr
      obtain ⟨b1, b2⟩ := List.mem_filter.mp hb
      rw [Bool.and_eq_true, Bool.not_eq_true'] at b2
      exact ⟨a, h1, h2, .ext h3 h5 b2.1 (List.mem_range.mp b1), by rw [List.length_append, h4]; rfl, .inr (by rw [lastN_app]; exact b2.2)⟩
    · rintro ⟨a, h1, h2, h3, h4, h5⟩
      rcases h3.split with rfl | ⟨y, b, rfl, h6, h7, o, hb⟩
      · cases h4
      · rw [List.length_append, List.length_singleton] at h4
        have hb2 : host N b = false := by
          rcases h5 with z | z
          · have w1 := congrArg List.length z
            rw [List.length_append, List.length_singleton, List.length_singleton] at w1
            omega
          · rw [lastN_app] at z; exact z
        exact List.mem_flatMap.mpr ⟨y, (mem_rows t y).mpr ⟨a, h1, h2, h6, by omega, h7⟩, List.mem_map.mpr ⟨b, List.mem_filter.mpr ⟨List.mem_range.mpr hb, by rw [o, hb2]; rfl⟩, rfl⟩⟩
theorem mem_found {N : NetD} : ∀ (t : Nat) (r : List Nat), r ∈ foundOf N t ↔ ∃ a, a < N.ks.length ∧ host N a = true ∧ Row N a r ∧ 2 ≤ r.length ∧ r.length ≤ t + 1 ∧ host N (lastN r) = true
  | 0, r => by
    constructor
    · intro h; cases h
    · rintro ⟨a, _, _, _, h1, h2, _⟩; omega
  | t + 1, r => by
    have ih := mem_found (N := N) t r
    constructor
    · intro h
      rcases List.mem_append.mp h with q | q
      · obtain ⟨a, h1, h2, h3, h4, h5, h6⟩ := ih.mp q
        exact ⟨a, h1, h2, h3, h4, by omega, h6⟩
      · obtain ⟨y, hy, hr⟩ := List.mem_flatMap.mp q
        obtain ⟨a, h1, h2, h3, h4, h5⟩ := (mem_rows t y).mp hy
        obtain ⟨b, hb, rfl⟩ := List.mem_map.mp hr
        obtain ⟨b1, b2⟩ := List.mem_filter.mp hb
        rw [Bool.and_eq_true] at b2
        refine ⟨a, h1, h2, .ext h3 h5 b2.1 (List.mem_range.mp b1), ?_, ?_, by rw [lastN_app]; exact b2.2⟩
        · rw [List.length_append, List.length_singleton]; omega
        · rw [List.length_append, List.length_singleton]; omega
    · rintro ⟨a, h1, h2, h3, h4, h5, h6⟩
      by_cases hl : r.length ≤ t + 1
      · exact List.mem_append.mpr (.inl (ih.mpr ⟨a, h1, h2, h3, h4, hl, h6⟩))
      · refine List.mem_append.mpr (.inr ?_)
        rcases h3.split with rfl | ⟨y, b, rfl, h7, h8, o, hb⟩
        · rw [List.length_singleton] at h4; omega
        · rw [lastN_app] at h6
          rw [List.length_append, List.length_singleton] at hl h5
          exact List.mem_flatMap.mpr ⟨y, (mem_rows t y).mpr ⟨a, h1, h2, h7, by omega, h8⟩, List.mem_map.mpr ⟨b, List.mem_filter.mpr ⟨List.mem_range.mpr hb, by rw [o, h6]; rfl⟩, rfl⟩⟩
theorem range_pw (n : Nat) : (List.range n).Pairwise (· < ·) := List.pairwise_lt_range
theorem ext_pw {p : Nat → Bool} (r : List Nat) (n : Nat) : (((List.range n).filter p).map fun b => r ++ [b]).Pairwise lexlt := by
  refine List.Pairwise.map _ (fun b c h => lex_one h r) ((range_pw n).filter p)
theorem flat_pw {f : List Nat → List (List Nat)} {l : List (List Nat)} (hl : l.Pairwise lexlt) (hf : ∀ r ∈ l, (f r).Pairwise lexlt) (hx : ∀ r, ∀ x ∈ f r, ∃ b, x = r ++ [b]) : (l.flatMap f).Pairwise lexlt := by
  rw [List.pairwise_flatMap]
  refine ⟨hf, List.Pairwise.imp (fun {r r'} h x hx1 y hy1 => ?_) hl⟩
  obtain ⟨b, rfl⟩ := hx r x hx1
  obtain ⟨c, rfl⟩ := hx r' y hy1
  exact lex_app1 _ _ h
theorem exS_ext {N : NetD} {r x : List Nat} (h : x ∈ exS N r) : ∃ b, x = r ++ [b] := by
  obtain ⟨b, _, rfl⟩ := List.mem_map.mp h
  exact ⟨b, rfl⟩
theorem exH_ext {N : NetD} {r x : List Nat} (h : x ∈ exH N r) : ∃ b, x = r ++ [b] := by
  obtain ⟨b, _, rfl⟩ := List.mem_map.mp h
  exact ⟨b, rfl⟩
theorem rows_pw {N : NetD} : ∀ t, (rowsOf N t).Pairwise lexlt
  | 0 => by
    show (((List.range N.ks.length).filter (host N)).map fun b => ([] : List Nat) ++ [b]).Pairwise lexlt
    exact ext_pw [] _
  | t + 1 => flat_pw (rows_pw t) (fun r _ => ext_pw r _) fun r x h => exS_ext h
theorem found_pw {N : NetD} : ∀ t, (foundOf N t).Pairwise rlt
  | 0 => List.Pairwise.nil
  | t + 1 => by
    show (foundOf N t ++ (rowsOf N t).flatMap (exH N)).Pairwise rlt
    have hlen : ∀ x ∈ (rowsOf N t).flatMap (exH N), x.length = t + 2 := fun x hx => by
      obtain ⟨y, hy, hr⟩ := List.mem_flatMap.mp hx
      obtain ⟨b, rfl⟩ := exH_ext hr
      rw [List.length_append, rows_row N t y hy]
      rfl
    rw [List.pairwise_append]
    refine ⟨found_pw t, ?_, fun x hx y hy => .inl ?_⟩
    · have h := flat_pw (f := exH N) (rows_pw (N := N) t) (fun r _ => ext_pw r _) fun r x h => exH_ext h
      refine List.Pairwise.imp_of_mem (fun {x y} hx hy h => .inr ⟨?_, h⟩) h
      rw [hlen x hx, hlen y hy]
    · obtain ⟨_, _, _, _, _, h5, _⟩ := (mem_found t x).mp hx
      rw [hlen y hy]
      omega
def matchP (a b : Nat) (r : List Nat) : Bool := (r.getD 0 0 == a) && (lastN r == b)
theorem row_matchP {N : NetD} {a b : Nat} {r : List Nat} (h : Row N a r) (e : lastN r = b) : matchP a b r = true := by
  unfold matchP
  rw [Bool.and_eq_true, beq_iff_eq, beq_iff_eq]
  refine ⟨?_, e⟩
  have := h.head
  cases r with
  | nil => cases this
  | cons x t => exact Option.some.inj this
theorem matchP_row {N : NetD} {a b c : Nat} {r : List Nat} (h : Row N c r) (m : matchP a b r = true) : c = a ∧ lastN r = b := by
  unfold matchP at m
  rw [Bool.and_eq_true, beq_iff_eq, beq_iff_eq] at m
  refine ⟨?_, m.2⟩
  have := h.head
  have m1 := m.1
  cases r with
  | nil => cases this
  | cons x t =>
    have e : x = c := Option.some.inj this
    rw [← e]
    exact m1
theorem find_first {l : List (List Nat)} {p : List Nat → Bool} {r : List Nat} (hs : l.Pairwise rlt) (hr : r ∈ l) (hp : p r = true) (hmin : ∀ x ∈ l, p x = true → rle r x) : l.find? p = some r := by
  induction l with
  | nil => cases hr
  | cons x t ih =>
    rw [List.find?_cons]
    rw [List.pairwise_cons] at hs
    cases hx : p x with
    | true =>
      show some x = some r
      rcases hmin x List.mem_cons_self hx with e | e
      · rw [e]
      · rcases List.mem_cons.mp hr with q | q
        · rw [q]
        · exact absurd (rlt_trans e (hs.1 r q)) (rlt_irr r)
    | false =>
      show t.find? p = some r
      rcases List.mem_cons.mp hr with q | q
      · rw [q, hx] at hp; cases hp
      · exact ih hs.2 q fun y hy => hmin y (List.mem_cons_of_mem _ hy)
end My
/-! The search level by level gives the least of the shortest rows. -/
namespace My
open PySem PySem.Spec PyProof.Rows L2
/-- a level's fold, pair by pair -/
def pairsOf (A : Nat → List Nat) (L : List Nat) : List (Nat × Nat) := L.flatMap fun u => (A u).map fun v => (u, v)
def visitP (st : Ways × List Nat) (p : Nat × Nat) : Ways × List Nat := visit p.1 st p.2
theorem foldl_pairs1 (u : Nat) : ∀ (l : List Nat) (st : Ways × List Nat), l.foldl (visit u) st = (l.map fun v => (u, v)).foldl visitP st
  | [], _ => rfl
  | v :: r, st => foldl_pairs1 u r (visit u st v)
theorem foldl_pairs (A : Nat → List Nat) : ∀ (L : List Nat) (st : Ways × List Nat), L.foldl (fun s u => (A u).foldl (visit u) s) st = (pairsOf A L).foldl visitP st
  | [], _ => rfl
  | u :: r, st => by
    show r.foldl _ ((A u).foldl (visit u) st) = _
    rw [foldl_pairs A r, foldl_pairs1]
    show _ = (((A u).map fun v => (u, v)) ++ pairsOf A r).foldl visitP st
    rw [List.foldl_append]
/-- the way that a pair gives -/
def wayP (W : Ways) (p : Nat × Nat) : List Nat := (W p.1).getD [] ++ [p.2]
/-- within a level: the pairs of `done` are through -/
structure Mid (W0 : Ways) (done : List (Nat × Nat)) (st : Ways × List Nat) : Prop where
  val : ∀ v, st.1 v = match W0 v with | some r => some r | none => (done.find? fun p => p.2 == v).map (wayP W0)
  mem : ∀ v, v ∈ st.2 ↔ W0 v = none ∧ (st.1 v).isSome = true
  ord : st.2.Pairwise fun v v' => ∀ r r', st.1 v = some r → st.1 v' = some r' → lexlt r r'
theorem Mid.start (W0 : Ways) : Mid W0 [] (W0, []) := by
  refine ⟨fun v => ?_, fun v => ⟨(fun h => by cases h), fun ⟨h1, h2⟩ => ?_⟩, List.Pairwise.nil⟩
  · show W0 v = _
    cases W0 v <;> rfl
  · have h2 : (W0 v).isSome = true := h2
    rw [h1] at h2
    cases h2
theorem Mid.step {W0 : Ways} {done : List (Nat × Nat)} {st : Ways × List Nat} {p : Nat × Nat} (h : Mid W0 done st) (hs : (done ++ [p]).Pairwise fun q q' => lexlt (wayP W0 q) (wayP W0 q')) (hu : (W0 p.1).isSome = true) : Mid W0 (done ++ [p]) (visitP st p) := by
  obtain ⟨u, v⟩ := p
  have hval := h.val v
  by_cases e : (st.1 v).isSome = true
  · have ev : visitP st (u, v) = st := visit_some e
    rw [ev]
    refine ⟨fun x => ?_, h.mem, h.ord⟩
    rw [h.val x]
    cases e0 : W0 x with
    | some r => rfl
    | none =>
      show (done.find? fun p => p.2 == x).map (wayP W0) = ((done ++ [(u, v)]).find? fun p => p.2 == x).map (wayP W0)
      rw [List.find?_append]
      cases e1 : done.find? fun p => p.2 == x with
      | some q => rfl
      | none =>
        have hx : ¬ v = x := fun z => by
          subst z
          rw [hval, e0, e1] at e
          cases e
        have : (v == x) = false := beq_eq_false_iff_ne.mpr hx
        show Option.map (wayP W0) none = Option.map (wayP W0) ([(u, v)].find? fun p => p.2 == x)
        rw [List.find?_cons, this]
        rfl
  · have en : st.1 v = none := by
      cases z : st.1 v with
      | none => rfl
      | some y => rw [z] at e; exact absurd rfl e
    have e0 : W0 v = none := by
      cases z : W0 v with
      | none => rfl
      | some y => rw [z] at hval; rw [hval] at en; cases en
    have e1 : (done.find? fun p => p.2 == v) = none := by
      rw [e0, en] at hval
      cases z : done.find? fun p => p.2 == v with
      | none => rfl
      | some y => rw [z] at hval; cases hval
    have eu : st.1 u = W0 u := by
      obtain ⟨r, hr⟩ := Option.isSome_iff_exists.mp hu
      have hr : W0 u = some r := hr
      rw [h.val u, hr]
    have ev : visitP st (u, v) = (setW st.1 v (wayP W0 (u, v)), st.2 ++ [v]) := by
      show visit u st v = _
      rw [visit_none e, eu]
      rfl
    rw [ev]
    have hne : ∀ x, x ∈ st.2 → ¬ x = v := fun x hx z => by
      have := ((h.mem x).mp hx).2
      rw [z, en] at this
      cases this
    refine ⟨fun x => ?_, fun x => ?_, ?_⟩
    · show setW st.1 v (wayP W0 (u, v)) x = _
      unfold setW
      by_cases ex : x = v
      · subst ex
        rw [if_pos rfl, e0]
        show some (wayP W0 (u, x)) = ((done ++ [(u, x)]).find? fun p => p.2 == x).map (wayP W0)
        rw [List.find?_append, e1, List.find?_cons, show (x == x) = true from beq_self_eq_true x]
        rfl
      · rw [if_neg ex, h.val x]
        cases W0 x with
        | some r => rfl
        | none =>
          show (done.find? fun p => p.2 == x).map (wayP W0) = ((done ++ [(u, v)]).find? fun p => p.2 == x).map (wayP W0)
          rw [List.find?_append]
          cases done.find? fun p => p.2 == x with
          | some q => rfl
          | none =>
            have : (v == x) = false := beq_eq_false_iff_ne.mpr fun z => ex z.symm
            show Option.map (wayP W0) none = Option.map (wayP W0) ([(u, v)].find? fun p => p.2 == x)
            rw [List.find?_cons, this]
            rfl
    · show x ∈ st.2 ++ [v] ↔ W0 x = none ∧ (setW st.1 v (wayP W0 (u, v)) x).isSome = true
      unfold setW
      rw [List.mem_append, List.mem_singleton]
      by_cases ex : x = v
      · subst ex
        rw [if_pos rfl]
        exact ⟨fun _ => ⟨e0, rfl⟩, fun _ => .inr rfl⟩
      · rw [if_neg ex, h.mem x]
        exact ⟨fun q => q.resolve_right ex, fun q => .inl q⟩
    · show (st.2 ++ [v]).Pairwise _
      rw [List.pairwise_append]
      refine ⟨List.Pairwise.imp_of_mem (fun {x y} hx hy hr r r' h1 h2 => ?_) h.ord, List.pairwise_singleton _ _, fun x hx y hy r r' h1 h2 => ?_⟩
      · have h1 : setW st.1 v (wayP W0 (u, v)) x = some r := h1
        have h2 : setW st.1 v (wayP W0 (u, v)) y = some r' := h2
        unfold setW at h1 h2
        rw [if_neg (hne x hx)] at h1
        rw [if_neg (hne y hy)] at h2
        exact hr r r' h1 h2
      · rw [List.mem_singleton.mp hy] at h2
        have h1 : setW st.1 v (wayP W0 (u, v)) x = some r := h1
        have h2 : setW st.1 v (wayP W0 (u, v)) v = some r' := h2
        unfold setW at h1 h2
        rw [if_neg (hne x hx)] at h1
        rw [if_pos rfl] at h2
        cases h2
        rw [h.val x, ((h.mem x).mp hx).1] at h1
        obtain ⟨q, hq, rfl⟩ := Option.map_eq_some_iff.mp h1
        have hqm : q ∈ done := List.mem_of_find?_eq_some hq
        rw [List.pairwise_append] at hs
        exact hs.2.2 q hqm (u, v) (List.mem_singleton.mpr rfl)
theorem Mid.fold {W0 : Ways} : ∀ (l done : List (Nat × Nat)) {st : Ways × List Nat}, Mid W0 done st → (done ++ l).Pairwise (fun q q' => lexlt (wayP W0 q) (wayP W0 q')) → (∀ p ∈ l, (W0 p.1).isSome = true) → Mid W0 (done ++ l) (l.foldl visitP st)
  | [], done, _, h, _, _ => by rw [List.append_nil]; exact h
  | p :: r, done, st, h, hs, hu => by
    have e : done ++ p :: r = (done ++ [p]) ++ r := by rw [List.append_assoc]; rfl
    rw [e] at hs ⊢
    refine Mid.fold r (done ++ [p]) (h.step ?_ (hu p List.mem_cons_self)) hs fun q hq => hu q (List.mem_cons_of_mem _ hq)
    exact (List.pairwise_append.mp hs).1
/-! ### the levels -/
def arcsOf (N : NetD) (first a : Nat) : List Nat := if decide (a = first) || !host N a then nbs N a else []
theorem arcs_pw (N : NetD) (a u : Nat) : (arcsOf N a u).Pairwise (· < ·) := by
  unfold arcsOf nbs
  split
  · exact (range_pw _).filter _
  · exact List.Pairwise.nil
theorem mem_arcs {N : NetD} {a u v : Nat} : v ∈ arcsOf N a u ↔ (u = a ∨ host N u = false) ∧ v < N.ks.length ∧ adj N u v = true := by
  unfold arcsOf nbs
  by_cases e : (decide (u = a) || !host N u) = true
  · rw [if_pos e, List.mem_filter, List.mem_range]
    rw [Bool.or_eq_true, decide_eq_true_eq, Bool.not_eq_true'] at e
    exact ⟨fun h => ⟨e, h⟩, fun h => h.2⟩
  · rw [if_neg e]
    rw [Bool.or_eq_true, decide_eq_true_eq, Bool.not_eq_true'] at e
    exact ⟨(fun h => by cases h), fun h => absurd h.1 e⟩
theorem rle_len {x y : List Nat} (h : rle x y) : x.length ≤ y.length := by
  rcases h with rfl | h | ⟨h, _⟩
  · exact Nat.le_refl _
  · omega
  · omega
structure Lv (N : NetD) (a t : Nat) (st : Ways × List Nat) : Prop where
  row : ∀ v r, st.1 v = some r → Row N a r ∧ lastN r = v ∧ r.length ≤ t + 1 ∧ ∀ x, Row N a x → lastN x = v → rle r x
  all : ∀ x, Row N a x → x.length ≤ t + 1 → (st.1 (lastN x)).isSome = true
  mem : ∀ u, u ∈ st.2 ↔ ∃ r, st.1 u = some r ∧ r.length = t + 1
  ord : st.2.Pairwise fun u u' => ∀ r r', st.1 u = some r → st.1 u' = some r' → lexlt r r'
theorem lv_zero (N : NetD) (a : Nat) : Lv N a 0 (lev (arcsOf N a) a 0) := by
  have ev : ∀ v, (lev (arcsOf N a) a 0).1 v = if v = a then some [a] else none := fun v => rfl
  refine ⟨fun v r h => ?_, fun x hx hl => ?_, fun u => ?_, List.pairwise_singleton _ _⟩
  · rw [ev] at h
    by_cases e : v = a
    · rw [if_pos e] at h
      cases h
      refine ⟨.start, e.symm ▸ rfl, Nat.le_refl _, fun x hx _ => ?_⟩
      rcases hx.split with rfl | ⟨y, b, rfl, h1, _⟩
      · exact .inl rfl
      · refine .inr (.inl ?_)
        have := h1.pos
        rw [List.length_append, List.length_singleton, List.length_singleton]
        omega
    · rw [if_neg e] at h; cases h
  · rcases hx.split with rfl | ⟨y, b, rfl, h1, _⟩
    · rw [lastN_one, ev, if_pos rfl]; rfl
    · have := h1.pos
      rw [List.length_append, List.length_singleton] at hl
      omega
  · show u ∈ [a] ↔ _
    rw [List.mem_singleton]
    constructor
    · intro e
      exact ⟨[a], by rw [ev, if_pos e], rfl⟩
    · rintro ⟨r, h, _⟩
      rw [ev] at h
      by_cases e : u = a
      · exact e
      · rw [if_neg e] at h; cases h
theorem mem_pairs {A : Nat → List Nat} {L : List Nat} {p : Nat × Nat} : p ∈ pairsOf A L ↔ p.1 ∈ L ∧ p.2 ∈ A p.1 := by
  unfold pairsOf
  rw [List.mem_flatMap]
  constructor
  · rintro ⟨u, hu, h⟩
    obtain ⟨v, hv, rfl⟩ := List.mem_map.mp h
    exact ⟨hu, hv⟩
  · rintro ⟨h1, h2⟩
    exact ⟨p.1, h1, List.mem_map.mpr ⟨p.2, h2, rfl⟩⟩
theorem pairs_pw {N : NetD} {a t : Nat} {st : Ways × List Nat} (h : Lv N a t st) : (pairsOf (arcsOf N a) st.2).Pairwise fun q q' => lexlt (wayP st.1 q) (wayP st.1 q') := by
  unfold pairsOf
  rw [List.pairwise_flatMap]
  refine ⟨fun u hu => ?_, List.Pairwise.imp_of_mem (fun {u u'} hu hu' hr p hp q hq => ?_) h.ord⟩
  · exact List.Pairwise.map _ (fun v v' hv => lex_one hv _) (arcs_pw N a u)
  · obtain ⟨v, _, rfl⟩ := List.mem_map.mp hp
    obtain ⟨v', _, rfl⟩ := List.mem_map.mp hq
    obtain ⟨r, h1, _⟩ := (h.mem u).mp hu
    obtain ⟨r', h2, _⟩ := (h.mem u').mp hu'
    unfold wayP
    show lexlt ((st.1 u).getD [] ++ [v]) ((st.1 u').getD [] ++ [v'])
    rw [h1, h2]
    exact lex_app1 _ _ (hr r r' h1 h2)
theorem find_least {W : Ways} {v : Nat} {p q : Nat × Nat} : ∀ {l : List (Nat × Nat)}, l.Pairwise (fun q q' => lexlt (wayP W q) (wayP W q')) → (l.find? fun p => p.2 == v) = some p → q ∈ l → q.2 = v → q = p ∨ lexlt (wayP W p) (wayP W q)
  | [], _, h, _, _ => by cases h
  | x :: t, hs, h, hq, e => by
    rw [List.pairwise_cons] at hs
    rw [List.find?_cons] at h
    cases hx : x.2 == v with
    | true =>
      rw [hx] at h
      cases h
      rcases List.mem_cons.mp hq with z | z
      · exact .inl z
      · exact .inr (hs.1 q z)
    | false =>
      rw [hx] at h
      rcases List.mem_cons.mp hq with z | z
      · rw [z] at e
        rw [e, beq_self_eq_true] at hx
        cases hx
      · exact find_least hs.2 h z e
theorem lv_succ {N : NetD} {a t : Nat} (ha : a < N.ks.length) (h : Lv N a t (lev (arcsOf N a) a t)) : Lv N a (t + 1) (lev (arcsOf N a) a (t + 1)) := by
  generalize hst : lev (arcsOf N a) a t = st at h
  have e1 : lev (arcsOf N a) a (t + 1) = (pairsOf (arcsOf N a) st.2).foldl visitP (st.1, []) := by
    show levStep (arcsOf N a) (lev (arcsOf N a) a t) = _
    rw [hst]
    exact foldl_pairs _ _ _
  have hL : ∀ p ∈ pairsOf (arcsOf N a) st.2, ∃ r, st.1 p.1 = some r ∧ r.length = t + 1 := fun p hp => (h.mem p.1).mp (mem_pairs.mp hp).1
  have M : Mid st.1 (pairsOf (arcsOf N a) st.2) ((pairsOf (arcsOf N a) st.2).foldl visitP (st.1, [])) := by
    have := Mid.fold (pairsOf (arcsOf N a) st.2) [] (Mid.start st.1) (by rw [List.nil_append]; exact pairs_pw h) fun p hp => by
      obtain ⟨r, hr, _⟩ := hL p hp
      rw [hr]; rfl
    rw [List.nil_append] at this
    exact this
  rw [e1]
  generalize hs2 : (pairsOf (arcsOf N a) st.2).foldl visitP (st.1, []) = st2 at M
  have hpw := pairs_pw h
  -- a node that is not yet there is in no row that is as short
  have notin : ∀ v, st.1 v = none → ∀ r, Row N a r → r.length ≤ t + 1 → v ∉ r := fun v hv r hr hl m => by
    obtain ⟨x, x1, x2, x3⟩ := hr.pre v m
    have := h.all x x1 (by omega)
    rw [x2, hv] at this
    cases this
  -- a row one longer comes from a pair
  have from_ : ∀ x, Row N a x → x.length ≤ t + 2 → st.1 (lastN x) = none → ∃ y b, x = y ++ [b] ∧ y.length = t + 1 ∧ ∃ r', st.1 (lastN y) = some r' ∧ r'.length = t + 1 ∧ rle r' y ∧ (lastN y, b) ∈ pairsOf (arcsOf N a) st.2 := fun x hx hl hv => by
    have hlen : ¬ x.length ≤ t + 1 := fun z => by
      have := h.all x hx z
      rw [hv] at this
      cases this
    rcases hx.split with rfl | ⟨y, b, rfl, y1, y2, o, hb⟩
    · rw [List.length_singleton] at hlen; omega
    · rw [List.length_append, List.length_singleton] at hl hlen
      rw [lastN_app] at hv
      have yl : y.length = t + 1 := by omega
      obtain ⟨r', hr'⟩ := Option.isSome_iff_exists.mp (h.all y y1 (by omega))
      obtain ⟨w1, w2, w3, w4⟩ := h.row _ _ hr'
      have hle := w4 y y1 rfl
      have hu : lastN y = a ∨ host N (lastN y) = false := y2.imp (fun z => by rw [z]; rfl) id
      have hadj := (okb_mem o).2
      have hr'l : r'.length = t + 1 := by
        rcases Nat.lt_or_ge r'.length (t + 1) with z | z
        · exfalso
          have hbn : b ∉ r' := notin b hv r' w1 w3
          have hx2 : Row N a (r' ++ [b]) := by
            refine .ext w1 ?_ (okb_of hbn (by rw [w2]; exact hadj)) hb
            rcases hu with q | q
            · exact .inl (w1.back (by rw [w2]; exact q))
            · exact .inr (by rw [w2]; exact q)
          have := h.all _ hx2 (by rw [List.length_append, List.length_singleton]; omega)
          rw [lastN_app, hv] at this
          cases this
        · omega
      exact ⟨y, b, rfl, yl, r', hr', hr'l, hle, mem_pairs.mpr ⟨(h.mem _).mpr ⟨r', hr', hr'l⟩, mem_arcs.mpr ⟨hu, hb, hadj⟩⟩⟩
  refine ⟨fun v r hr => ?_, fun x hx hl => ?_, fun u => ?_, M.ord⟩
  · rw [M.val v] at hr
    cases e0 : st.1 v with
    | some r0 =>
      rw [e0] at hr
      cases hr
      obtain ⟨w1, w2, w3, w4⟩ := h.row v r e0
      exact ⟨w1, w2, by omega, w4⟩
    | none =>
      rw [e0] at hr
      obtain ⟨p, hp, rfl⟩ := Option.map_eq_some_iff.mp hr
      have hpm := List.mem_of_find?_eq_some hp
      have hp2 : p.2 = v := by
        have := List.find?_some hp
        exact beq_iff_eq.mp this
      obtain ⟨ru, hru, hrul⟩ := hL p hpm
      obtain ⟨w1, w2, w3, w4⟩ := h.row p.1 ru hru
      obtain ⟨c1, c2, c3⟩ := mem_arcs.mp (mem_pairs.mp hpm).2
      have ew : wayP st.1 p = ru ++ [v] := by
        unfold wayP
        rw [hru, hp2]
        rfl
      rw [ew]
      have hvn : v ∉ ru := notin v e0 ru w1 w3
      have hrow : Row N a (ru ++ [v]) := by
        refine .ext w1 ?_ (okb_of hvn (by rw [w2, ← hp2]; exact c3)) (by rw [← hp2]; exact c2)
        rcases c1 with q | q
        · exact .inl (w1.back (by rw [w2]; exact q))
        · exact .inr (by rw [w2]; exact q)
      refine ⟨hrow, lastN_app _ _, by rw [List.length_append, List.length_singleton]; omega, fun x hx hv => ?_⟩
      by_cases hl : x.length ≤ t + 2
      · obtain ⟨y, b, rfl, yl, r', hr', hr'l, hle, hpair⟩ := from_ x hx hl (by rw [hv]; exact e0)
        rw [lastN_app] at hv
        have ewq : wayP st.1 (lastN y, b) = r' ++ [b] := by
          unfold wayP
          rw [hr']
          rfl
        have key : rle (ru ++ [v]) (r' ++ [b]) := by
          rcases find_least hpw hp hpair hv with z | z
          · rw [← ew, ← ewq, z]
            exact .inl rfl
          · rw [ew, ewq] at z
            exact .inr (.inr ⟨by rw [List.length_append, List.length_append, hrul, hr'l]; rfl, z⟩)
        have key2 : rle (r' ++ [b]) (y ++ [b]) := by
          rcases hle with z | z | ⟨_, z⟩
          · rw [z]; exact .inl rfl
          · omega
          · exact .inr (.inr ⟨by rw [List.length_append, List.length_append, yl, hr'l], lex_app1 _ _ z⟩)
        rcases key with z | z
        · rw [z]; exact key2
        · rcases key2 with z2 | z2
          · rw [← z2]; exact .inr z
          · exact .inr (rlt_trans z z2)
      · refine .inr (.inl ?_)
        rw [List.length_append, List.length_singleton]
        omega
  · rw [M.val]
    cases e0 : st.1 (lastN x) with
    | some r0 => rfl
    | none =>
      obtain ⟨y, b, rfl, yl, r', hr', hr'l, hle, hpair⟩ := from_ x hx hl e0
      rw [lastN_app]
      show (Option.map (wayP st.1) _).isSome = true
      rw [Option.isSome_map, List.find?_isSome]
      exact ⟨_, hpair, beq_iff_eq.mpr rfl⟩
  · rw [M.mem u]
    constructor
    · rintro ⟨e0, e2⟩
      have hv := M.val u
      rw [e0] at hv
      rw [hv] at e2
      obtain ⟨r, hr⟩ := Option.isSome_iff_exists.mp e2
      refine ⟨r, by rw [hv]; exact hr, ?_⟩
      obtain ⟨p, hp, rfl⟩ := Option.map_eq_some_iff.mp hr
      obtain ⟨ru, hru, hrul⟩ := hL p (List.mem_of_find?_eq_some hp)
      unfold wayP
      rw [hru, List.length_append]
      show ru.length + 1 = _
      rw [hrul]
    · rintro ⟨r, hr, hrl⟩
      refine ⟨?_, by rw [hr]; rfl⟩
      cases e0 : st.1 u with
      | none => rfl
      | some r0 =>
        have hv := M.val u
        rw [e0] at hv
        rw [hv] at hr
        cases hr
        obtain ⟨_, _, w3, _⟩ := h.row u r e0
        omega
theorem lv_all {N : NetD} {a : Nat} (ha : a < N.ks.length) : ∀ t, Lv N a t (lev (arcsOf N a) a t)
  | 0 => lv_zero N a
  | t + 1 => lv_succ ha (lv_all ha t)
/-- no level is longer than there are nodes -/
theorem lev_stop {N : NetD} {a : Nat} (ha : a < N.ks.length) : (lev (arcsOf N a) a N.ks.length).2 = [] := by
  have h := lv_all ha N.ks.length
  cases e : (lev (arcsOf N a) a N.ks.length).2 with
  | nil => rfl
  | cons u t =>
    obtain ⟨r, hr, hl⟩ := (h.mem u).mp (by rw [e]; exact List.mem_cons_self)
    obtain ⟨w1, _⟩ := h.row u r hr
    have := nodup_lt N.ks.length r w1.nodup (w1.lt ha)
    omega
/-- a row between hosts has at most two nodes more than there are switches -/
theorem nodup_sub : ∀ {l m : List Nat}, l.Nodup → (∀ x ∈ l, x ∈ m) → l.length ≤ m.length
  | [], _, _, _ => Nat.zero_le _
  | x :: l, m, hd, hs => by
    rw [List.nodup_cons] at hd
    have hx := hs x List.mem_cons_self
    have ih := nodup_sub (l := l) (m := m.erase x) hd.2 fun y hy => (List.mem_erase_of_ne (fun z => hd.1 (by rw [← z]; exact hy))).mpr (hs y (List.mem_cons_of_mem _ hy))
    rw [List.length_erase_of_mem hx] at ih
    have := List.length_pos_of_mem hx
    rw [List.length_cons]
    omega
theorem count_range (p : Nat → Bool) (ks : List Bool) (off : Nat) (hp : ∀ i, i < ks.length → p (off + i) = !(ks.getD i true)) : ((List.range' off ks.length).filter p).length = ks.count false := by
  induction ks generalizing off with
  | nil => rfl
  | cons b r ih =>
    have h0 := hp 0 (by rw [List.length_cons]; omega)
    have h0 : p off = !b := h0
    have ih := ih (off + 1) fun i hi => by
      have := hp (i + 1) (by rw [List.length_cons]; omega)
      rw [show off + 1 + i = off + (i + 1) by omega, this]
      rfl
    rw [List.length_cons, List.range'_succ, List.filter_cons, List.count_cons, h0]
    cases b with
    | true =>
      show ((List.range' (off + 1) r.length).filter p).length = _
      rw [ih]
      rfl
    | false =>
      show ((List.range' (off + 1) r.length).filter p).length + 1 = _
      rw [ih]
      rfl
theorem switches_len (N : NetD) : ((List.range N.ks.length).filter fun a => !host N a).length = N.ks.count false := by
  rw [List.range_eq_range']
  refine count_range _ N.ks 0 fun i _ => ?_
  unfold host
  rw [Nat.zero_add]
/-- all but the first and the last are switches -/
theorem Row.inner {N : NetD} {a : Nat} {r : List Nat} (h : Row N a r) (ha : a < N.ks.length) : ∃ m, (r = [a] ∧ m = []) ∨ (∃ b, r = a :: (m ++ [b])) ∧ m.Nodup ∧ ∀ x ∈ m, x < N.ks.length ∧ host N x = false := by
  induction h with
  | start => exact ⟨[], .inl ⟨rfl, rfl⟩⟩
  | @ext r b h1 h2 o hb ih =>
    obtain ⟨m, z⟩ := ih
    rcases z with ⟨z, _⟩ | ⟨⟨c, z⟩, m1, m2⟩
    · exact ⟨[], .inr ⟨⟨b, by rw [z]; rfl⟩, List.nodup_nil, fun x hx => by cases hx⟩⟩
    · refine ⟨m ++ [c], .inr ⟨⟨b, by rw [z]; rfl⟩, ?_, ?_⟩⟩
      · have := h1.nodup
        rw [z, List.nodup_cons] at this
        exact this.2
      · intro x hx
        rcases List.mem_append.mp hx with q | q
        · exact m2 x q
        · rw [List.mem_singleton.mp q]
          have hl : lastN r = c := by
            rw [z]
            exact lastN_app (a :: m) c
          refine ⟨h1.lt ha c (by rw [z]; simp), ?_⟩
          rcases h2 with y | y
          · rw [z] at y
            have := congrArg List.length y
            rw [List.length_cons, List.length_append] at this
            simp at this
          · rw [← hl]; exact y
theorem Row.short {N : NetD} {a : Nat} {r : List Nat} (h : Row N a r) (ha : a < N.ks.length) : r.length ≤ N.ks.count false + 2 := by
  obtain ⟨m, z⟩ := h.inner ha
  rcases z with ⟨z, _⟩ | ⟨⟨b, z⟩, m1, m2⟩
  · rw [z, List.length_singleton]; omega
  · have := nodup_sub (m := (List.range N.ks.length).filter fun a => !host N a) m1 fun x hx => by
      obtain ⟨y1, y2⟩ := m2 x hx
      exact List.mem_filter.mpr ⟨List.mem_range.mpr y1, by rw [y2]; rfl⟩
    rw [switches_len] at this
    rw [z, List.length_cons, List.length_append, List.length_singleton]
    omega
/-- THE POINT: the search's way is the first row found -/
theorem way_is_found {N : NetD} {a b T : Nat} (ha : a < N.ks.length) (ha2 : host N a = true) (hb : host N b = true) (hab : a ≠ b) (hT : N.ks.count false + 1 ≤ T) : (lev (arcsOf N a) a N.ks.length).1 b = (foundOf N T).find? (matchP a b) := by
  have h := lv_all ha N.ks.length
  have two : ∀ x, Row N a x → lastN x = b → 2 ≤ x.length := fun x hx e => by
    rcases hx.split with rfl | ⟨y, c, rfl, y1, _⟩
    · exact absurd e hab
    · have := y1.pos
      rw [List.length_append, List.length_singleton]
      omega
  have inF : ∀ x, Row N a x → lastN x = b → x ∈ foundOf N T := fun x hx e => by
    have := hx.short ha
    exact (mem_found _ _).mpr ⟨a, ha, ha2, hx, two x hx e, by omega, by rw [e]; exact hb⟩
  cases e : (lev (arcsOf N a) a N.ks.length).1 b with
  | none =>
    symm
    rw [List.find?_eq_none]
    intro x hx m
    obtain ⟨c, _, _, h3, _⟩ := (mem_found _ _).mp hx
    obtain ⟨rfl, e2⟩ := matchP_row h3 m
    have := h.all x h3 (by have := nodup_lt N.ks.length x h3.nodup (h3.lt ha); omega)
    rw [e2, e] at this
    cases this
  | some r =>
    obtain ⟨w1, w2, w3, w4⟩ := h.row b r e
    symm
    refine find_first (found_pw T) (inF r w1 w2) (row_matchP w1 w2) fun x hx m => ?_
    obtain ⟨c, _, _, h3, _⟩ := (mem_found _ _).mp hx
    obtain ⟨rfl, e2⟩ := matchP_row h3 m
    exact w4 x h3 e2
end My
/-! Rows as data: ==, < of pairs (len(row), row). -/
namespace My
open PySem PySem.Spec PyProof.Rows L2
def dList (r : List Nat) : PyData := .list (r.map fun (n : Nat) => PyData.int (n : Int))
def dPair (r : List Nat) : PyData := .tuple [.int ((r.length : Nat) : Int), dList r]
theorem dp_ints {K : PySem.W.Frag} {H : Hp} : ∀ r : List Nat, DpAll K H (natsV r) (r.map fun (n : Nat) => PyData.int (n : Int))
  | [] => .nil
  | n :: r => .cons (.int _) (dp_ints r)
theorem dp_list {K : PySem.W.Frag} {H : Hp} {a : Addr} {r : List Nat} (h : SqL K H a (natsV r)) : Dp K H (.ref a) (dList r) := .lst h (dp_ints r)
theorem canLay_ints : ∀ r : List Nat, PyData.canLayAll0 (r.map fun (n : Nat) => PyData.int (n : Int)) = true
  | [] => rfl
  | n :: r => by
    rw [List.map_cons, PyData.canLayAll0, canLay_ints r]
    rfl
theorem depth_ints : ∀ r : List Nat, PyData.depthAll (r.map fun (n : Nat) => PyData.int (n : Int)) = 0
  | [] => by rw [List.map_nil, PyData.depthAll]
  | n :: r => by
    rw [List.map_cons, PyData.depthAll, depth_ints r, PyData.depth]
    rfl
theorem depth_list (r : List Nat) : (dList r).depth = 1 := by
  unfold dList
  rw [PyData.depth, depth_ints]
theorem shaped_list (r : List Nat) : SeqAt.shaped (dList r) = true := by
  unfold SeqAt.shaped
  rw [depth_list]
  unfold dList
  rw [PyData.canLay0, canLay_ints]
  rfl
theorem shaped_none : SeqAt.shaped PyData.none = true := by decide +kernel
theorem eqv_list (r : List Nat) : PyData.eqv (dList r) (dList r) = true := SeqAt.eqv_refl _ (SeqAt.canLay_of_shaped (shaped_list r))
theorem eqv_none : PyData.eqv PyData.none PyData.none = true := by rw [PyData.eqv]
theorem alike_ints : ∀ r x : List Nat, PySem.W.alikeAll (r.map fun (n : Nat) => PyData.int (n : Int)) (x.map fun (n : Nat) => PyData.int (n : Int)) = true
  | [], x => by rw [List.map_nil, PySem.W.alikeAll]
  | n :: r, [] => by
    rw [List.map_cons, List.map_nil]
    rw [PySem.W.alikeAll]
  | n :: r, y :: x => by
    rw [List.map_cons, List.map_cons, PySem.W.alikeAll, alike_ints r x, PySem.W.alike]
    rfl
theorem alike_pair (r x : List Nat) : PySem.W.alike (dPair r) (dPair x) = true := by
  unfold dPair dList
  rw [PySem.W.alike, PySem.W.alikeAll, PySem.W.alikeAll, PySem.W.alikeAll, PySem.W.alike, PySem.W.alike, alike_ints]
  rfl
theorem depth_pair (r : List Nat) : (dPair r).depth = 2 := by
  unfold dPair
  rw [PyData.depth, PyData.depthAll, PyData.depthAll, PyData.depthAll, depth_list, PyData.depth]
  rfl
theorem eqv_int (i j : Int) : PyData.eqv (.int i) (.int j) = (i == j) := by rw [PyData.eqv]
theorem alike_int (i j : Int) : PySem.W.alike (.int i) (.int j) = true := by rw [PySem.W.alike]
/-- lists of ints: the greater one is not less -/
theorem ints_nlt : ∀ {b x : List Nat}, lexlt b x → PyProof.Rows.lexLt PyProof.Rows.itemOrd (PySem.W.keyToksAll (x.map fun (n : Nat) => PyData.int (n : Int))) (PySem.W.keyToksAll (b.map fun (n : Nat) => PyData.int (n : Int))) = false
  | [], _, h => h.elim
  | _ :: _, [], h => h.elim
  | n :: b, y :: x, h => by
    rw [List.map_cons, List.map_cons]
    by_cases e : y = n
    · rw [PySem.W.dataLt_all_yes (alike_int _ _) (by rw [eqv_int, e]; exact beq_self_eq_true _)]
      rcases h with h | ⟨_, h⟩
      · omega
      · exact ints_nlt h
    · rw [PySem.W.dataLt_all_no (alike_int _ _) (by rw [eqv_int]; exact beq_eq_false_iff_ne.mpr (by omega)), PySem.W.dataLt_int]
      rcases h with h | ⟨z, _⟩
      · exact decide_eq_false (by omega)
      · exact absurd z.symm e
theorem lex_len : ∀ {b x : List Nat}, lexlt b x → b.length = x.length → PyData.eqvAll (x.map fun (n : Nat) => PyData.int (n : Int)) (b.map fun (n : Nat) => PyData.int (n : Int)) = false
  | [], _, h, _ => h.elim
  | _ :: _, [], h, _ => h.elim
  | n :: b, y :: x, h, hl => by
    rw [List.map_cons, List.map_cons, PyData.eqvAll, eqv_int]
    rcases h with h | ⟨e, h⟩
    · rw [show (((y : Nat) : Int) == (n : Int)) = false from beq_eq_false_iff_ne.mpr (by omega)]
      rfl
    · rw [lex_len h (by simpa using hl), Bool.and_false]
theorem pair_nlt {b x : List Nat} (h : rlt b x) : PySem.W.dataLt (dPair x) (dPair b) = false := by
  unfold dPair
  rw [PySem.W.dataLt_tuple]
  by_cases e : x.length = b.length
  · rw [PySem.W.dataLt_all_yes (alike_int _ _) (by rw [eqv_int, e]; exact beq_self_eq_true _)]
    rcases h with h | ⟨_, h⟩
    · omega
    · have al : PySem.W.alike (dList x) (dList b) = true := by
        unfold dList
        rw [PySem.W.alike]
        exact alike_ints x b
      have ev : PyData.eqv (dList x) (dList b) = false := by
        unfold dList
        rw [PyData.eqv]
        exact lex_len h e.symm
      rw [PySem.W.dataLt_all_no al ev]
      unfold dList
      rw [PySem.W.dataLt_list]
      exact ints_nlt h
  · rw [PySem.W.dataLt_all_no (alike_int _ _) (by rw [eqv_int]; exact beq_eq_false_iff_ne.mpr (by omega)), PySem.W.dataLt_int]
    rcases h with h | ⟨z, _⟩
    · exact decide_eq_false (by omega)
    · exact absurd z.symm e
end My
/-! == of lists of kinds, nodes, ports, lines as data. No row. -/
namespace My
open PySem PySem.Spec PyProof.Rows L2
structure Shp (n : Nat) (d : PyData) : Prop where
  c : d.canLay0 = true
  d : d.depth ≤ n
theorem Shp.shaped {n : Nat} {d : PyData} (h : Shp n d) (hn : n ≤ 64 := by decide) : SeqAt.shaped d = true := by
  unfold SeqAt.shaped
  rw [h.c, decide_eq_true (Nat.le_trans h.d hn)]
  rfl
theorem shp_int (i : Int) : Shp 0 (.int i) := ⟨by rw [PyData.canLay0], by rw [PyData.depth]; exact Nat.le_refl _⟩
theorem shp_kind (b : Bool) : Shp 0 (.str (if b then "host" else "switch")) := ⟨by rw [PyData.canLay0]; cases b <;> decide +kernel, by rw [PyData.depth]; exact Nat.le_refl _⟩
theorem shp_all {n : Nat} : ∀ {ds : List PyData}, (∀ d ∈ ds, Shp n d) → PyData.canLayAll0 ds = true ∧ PyData.depthAll ds ≤ n
  | [], _ => ⟨by rw [PyData.canLayAll0], by rw [PyData.depthAll]; exact Nat.zero_le _⟩
  | d :: r, h => by
    have h1 := h d List.mem_cons_self
    have h2 := shp_all (ds := r) fun x hx => h x (List.mem_cons_of_mem _ hx)
    refine ⟨by rw [PyData.canLayAll0, h1.c, h2.1]; rfl, by rw [PyData.depthAll]; exact Nat.max_le.mpr ⟨h1.d, h2.2⟩⟩
theorem shp_list {n : Nat} {ds : List PyData} (h : ∀ d ∈ ds, Shp n d) : Shp (n + 1) (.list ds) := ⟨by rw [PyData.canLay0]; exact (shp_all h).1, by rw [PyData.depth]; exact Nat.succ_le_succ (shp_all h).2⟩
theorem shp_tuple {n : Nat} {ds : List PyData} (h : ∀ d ∈ ds, Shp n d) : Shp (n + 1) (.tuple ds) := ⟨by rw [PyData.canLay0]; exact (shp_all h).1, by rw [PyData.depth]; exact Nat.succ_le_succ (shp_all h).2⟩
theorem shp_map {α : Type} {n : Nat} {f : α → PyData} {xs : List α} (h : ∀ x, Shp n (f x)) : ∀ d ∈ xs.map f, Shp n d := fun d hd => by
  obtain ⟨x, _, rfl⟩ := List.mem_map.mp hd
  exact h x
theorem eqv_map {α : Type} [DecidableEq α] (f : α → PyData) (h : ∀ x y, PyData.eqv (f x) (f y) = decide (x = y)) : ∀ xs ys : List α, PyData.eqvAll (xs.map f) (ys.map f) = decide (xs = ys)
  | [], [] => by rw [List.map_nil, PyData.eqvAll, decide_eq_true rfl]
  | [], y :: ys => by rw [List.map_nil, List.map_cons, PyData.eqvAll, decide_eq_false (by simp)]
  | x :: xs, [] => by rw [List.map_nil, List.map_cons, PyData.eqvAll, decide_eq_false (by simp)]
  | x :: xs, y :: ys => by
    rw [List.map_cons, List.map_cons, PyData.eqvAll, h, eqv_map f h xs ys, Bool.eq_iff_iff, Bool.and_eq_true, decide_eq_true_eq, decide_eq_true_eq, decide_eq_true_eq, List.cons.injEq]
theorem beq_dec (i j : Int) : (i == j) = decide (i = j) := by
  rw [Bool.eq_iff_iff, beq_iff_eq, decide_eq_true_eq]
/-! ### kinds -/
def dKind (b : Bool) : PyData := .str (if b then "host" else "switch")
def dKinds (ks : List Bool) : PyData := .list (ks.map dKind)
theorem eqv_kind (a b : Bool) : PyData.eqv (dKind a) (dKind b) = decide (a = b) := by
  unfold dKind
  rw [PyData.eqv]
  cases a <;> cases b <;> decide +kernel
theorem eqv_kinds (a b : List Bool) : PyData.eqv (dKinds a) (dKinds b) = decide (a = b) := by
  unfold dKinds
  rw [PyData.eqv, eqv_map dKind eqv_kind]
theorem shp_kinds (ks : List Bool) : Shp 1 (dKinds ks) := shp_list (shp_map shp_kind)
theorem dp_all {α : Type} {K : PySem.W.Frag} {H : Hp} (f : α → PyData) (g : α → V) (h : ∀ x, Dp K H (g x) (f x)) : ∀ xs : List α, DpAll K H (xs.map g) (xs.map f)
  | [] => .nil
  | x :: r => .cons (h x) (dp_all f g h r)
theorem dp_kinds {K : PySem.W.Frag} {H : Hp} {a : Addr} {ks : List Bool} (h : SqL K H a (ks.map kindV)) : Dp K H (.ref a) (dKinds ks) := .lst h (dp_all dKind kindV (fun _ => .str _) ks)
/-! ### nodes -/
theorem shp_nats (r : List Nat) : Shp 1 (dList r) := shp_list (shp_map (f := fun (n : Nat) => PyData.int (n : Int)) fun _ => shp_int _)
theorem eqv_nats (a b : List Nat) : PyData.eqv (dList a) (dList b) = decide (a = b) := by
  unfold dList
  rw [PyData.eqv, eqv_map (fun (n : Nat) => PyData.int (n : Int)) fun x y => by
    rw [eqv_int, beq_dec]
    by_cases e : x = y
    · rw [e, decide_eq_true rfl, decide_eq_true rfl]
    · rw [decide_eq_false e, decide_eq_false (by omega)]]
/-! ### ports -/
def portV (p : Nat × Nat) : List V := [.int (p.1 : Int), .int (p.2 : Int)]
def dPort (p : Nat × Nat) : PyData := .tuple [.int (p.1 : Int), .int (p.2 : Int)]
def dPorts (ps : List (Nat × Nat)) : PyData := .list (ps.map dPort)
theorem shp_port (p : Nat × Nat) : Shp 1 (dPort p) := shp_tuple fun d hd => by
  rcases List.mem_cons.mp hd with e | hd
  · rw [e]; exact shp_int _
  · rw [List.mem_singleton.mp hd]; exact shp_int _
theorem eqv_port (p q : Nat × Nat) : PyData.eqv (dPort p) (dPort q) = decide (p = q) := by
  obtain ⟨a, b⟩ := p
  obtain ⟨c, d⟩ := q
  unfold dPort
  rw [PyData.eqv, PyData.eqvAll, PyData.eqvAll, PyData.eqvAll, eqv_int, eqv_int, beq_dec, beq_dec, Bool.and_true, Bool.eq_iff_iff, Bool.and_eq_true, decide_eq_true_eq, decide_eq_true_eq, decide_eq_true_eq, Prod.mk.injEq]
  show ((a : Int) = (c : Int) ∧ (b : Int) = (d : Int)) ↔ _
  omega
theorem shp_ports (ps : List (Nat × Nat)) : Shp 2 (dPorts ps) := shp_list (shp_map shp_port)
theorem eqv_ports (a b : List (Nat × Nat)) : PyData.eqv (dPorts a) (dPorts b) = decide (a = b) := by
  unfold dPorts
  rw [PyData.eqv, eqv_map dPort eqv_port]
theorem dp_paired {α : Type} {K : PySem.W.Frag} {H : Hp} (f : α → PyData) {F : Addr → α → Prop} (h : ∀ t x, F t x → Dp K H (.ref t) (f x)) : ∀ {ts : List Addr} {xs : List α}, Paired F ts xs → DpAll K H (ts.map V.ref) (xs.map f)
  | _, _, .nil => .nil
  | _, _, .cons r t => .cons (h _ _ r) (dp_paired f h t)
theorem dp_port {K : PySem.W.Frag} {H : Hp} {t : Addr} {p : Nat × Nat} (h : SqT K H t (portV p)) : Dp K H (.ref t) (dPort p) := .tup h (.cons (.int _) (.cons (.int _) .nil))
theorem dp_ports {K : PySem.W.Frag} {H : Hp} {a : Addr} {ts : List Addr} {ps : List (Nat × Nat)} (h : SqL K H a (ts.map V.ref)) (p : PairsAt K H ts ps) : Dp K H (.ref a) (dPorts ps) := .lst h (dp_paired dPort (fun _ _ z => dp_port z) p)
/-! ### lines -/
def dLine (l : Nat × Nat × Int) : PyData := .tuple [.int (l.1 : Int), .int (l.2.1 : Int), .int l.2.2]
def dLines (ls : List (Nat × Nat × Int)) : PyData := .list (ls.map dLine)
theorem shp_line (l : Nat × Nat × Int) : Shp 1 (dLine l) := shp_tuple fun d hd => by
  rcases List.mem_cons.mp hd with e | hd
  · rw [e]; exact shp_int _
  · rcases List.mem_cons.mp hd with e | hd
    · rw [e]; exact shp_int _
    · rw [List.mem_singleton.mp hd]; exact shp_int _
theorem eqv_line (p q : Nat × Nat × Int) : PyData.eqv (dLine p) (dLine q) = decide (p = q) := by
  obtain ⟨a, b, x⟩ := p
  obtain ⟨c, d, y⟩ := q
  unfold dLine
  rw [PyData.eqv, PyData.eqvAll, PyData.eqvAll, PyData.eqvAll, PyData.eqvAll, eqv_int, eqv_int, eqv_int, beq_dec, beq_dec, beq_dec, Bool.and_true, Bool.eq_iff_iff, Bool.and_eq_true, Bool.and_eq_true, decide_eq_true_eq, decide_eq_true_eq, decide_eq_true_eq, decide_eq_true_eq, Prod.mk.injEq, Prod.mk.injEq]
  show ((a : Int) = (c : Int) ∧ (b : Int) = (d : Int) ∧ x = y) ↔ _
  omega
theorem shp_lines (ls : List (Nat × Nat × Int)) : Shp 2 (dLines ls) := shp_list (shp_map shp_line)
theorem eqv_lines (a b : List (Nat × Nat × Int)) : PyData.eqv (dLines a) (dLines b) = decide (a = b) := by
  unfold dLines
  rw [PyData.eqv, eqv_map dLine eqv_line]
theorem dp_lines {K : PySem.W.Frag} {H : Hp} {a : Addr} {ts : List Addr} {ls : List (Nat × Nat × Int)} (h : SqL K H a (ts.map V.ref)) (p : LinesAt K H ts ls) : Dp K H (.ref a) (dLines ls) := .lst h (dp_paired dLine (fun _ _ z => .tup z (.cons (.int _) (.cons (.int _) (.cons (.int _) .nil)))) p)
end My
/-! min(d, default=..), max(d, default=..) over the int keys of a dict. No row. -/
namespace My
open PySem PySem.Spec PyProof.Rows L2
section
variable {X : Cx}
def rMinKD : List V → List V → Hp → VK → Prop := fun vs zs H Q => ∃ (a : Addr) (kvs : List (Key × V)) (is : List Int) (d : V), vs = [V.ref a] ∧ zs = [d] ∧ H a = some (.dK kvs) ∧ kvs.map (·.1) = is.map Sum.inl ∧ (is = [] → Q d H) ∧ (is ≠ [] → ∀ m, m ∈ is → (∀ j ∈ is, m ≤ j) → Q (.int m) H)
def rMaxKD : List V → List V → Hp → VK → Prop := fun vs zs H Q => ∃ (a : Addr) (kvs : List (Key × V)) (is : List Int) (d : V), vs = [V.ref a] ∧ zs = [d] ∧ H a = some (.dK kvs) ∧ kvs.map (·.1) = is.map Sum.inl ∧ (is = [] → Q d H) ∧ (is ≠ [] → ∀ m, m ∈ is → (∀ j ∈ is, j ≤ m) → Q (.int m) H)
theorem cr_minKD (hc : X.calm = true) : CallRK X (.builtin "min") ["default"] rMinKD := by
  intro pins s σ H vs zs us ws Q I r r2 h
  obtain ⟨a, kvs, is, d, rfl, rfl, ha, hv, q0, q⟩ := h
  rw [Vals.ref1 r]
  obtain ⟨dv, rd, rfl⟩ : ∃ dv, RelV d dv ∧ ws = [dv] := by
    cases r2 with
    | cons r t => cases t with
      | nil => exact ⟨_, r, rfl⟩
  obtain ⟨_, hsys, vs, rel, dof⟩ := dk_of I.hok ha
  obtain ⟨ep, dat⟩ := dof.dictAt
  obtain ⟨ob, es, ho, hex, hdat, hko, hpr, hnd⟩ := id dat
  have hlt : a < s.heap.objs.size := Heap.lt_size ho
  have hkeys : vs.map (·.1) = is.map Sum.inl := (KV.keys rel).symm.trans hv
  have hlv : vs.length = is.length := by
    have e1 := congrArg List.length hkeys
    rw [List.length_map, List.length_map] at e1
    exact e1
  have hval : ∀ (i : Nat) (v : Value), (∃ k x, vs[i]? = some (k, x) ∧ (mixKind X.prog X.w).is k v = true) → ∃ t, v = Value.int (is.getD i 0) t := fun i v ⟨k, x, hk, hkey⟩ => by
    have e1 : (vs.map (·.1))[i]? = some k := by rw [List.getElem?_map, hk] <;> rfl
    rw [hkeys, List.getElem?_map] at e1
    obtain ⟨j, hj, e2⟩ := Option.map_eq_some_iff.mp e1
    subst e2
    have hi : Value.isInt j v = true := hkey
    obtain ⟨t, e3⟩ := Value.isInt_shape (k := j) (v := v) hi
    refine ⟨t, ?_⟩
    rw [e3, List.getD_eq_getElem?_getD, hj] <;> rfl
  have hnew : ∀ b (u : Obj), s.heap.get? b = some u → b ∉ [s.heap.objs.size] := fun b u e hm => by
    have e1 : b = s.heap.objs.size := List.mem_singleton.mp hm
    have e2 := Heap.lt_size e
    rw [e1] at e2
    exact absurd e2 (Nat.lt_irrefl _)
  show wpAny _ _ (call (.builtin "min") [.ref a] [("default", dv)]) _ _ _
  refine call_min_walkD (wpAny_pyIter_dict (knd := mixKind X.prog X.w) hsys dat ?_)
  refine ⟨_, _, _, _, _, _, _, s.heap, _, rfl, (Walks.dictKeys (knd := mixKind X.prog X.w) (A := X.A.in1) (I.ok.hd hc) s.heap.objs.size a (Nat.ne_of_lt hlt) vs ep).toS,
    ⟨⟨_, Heap.get?_push_size _ rfl, rfl, rfl⟩, dat.keep fun b u e => Heap.get?_push_of_some _ e⟩, fun b hb => ?_, hnew, fun b o e => Heap.get?_push_of_some _ e, fun hz s' m => ?_, fun hp => ⟨fun i j vi vj s Q E _ => CmpOf.ints_lt (fun i => is.getD i 0) hval i j vi vj s Q E, fun v s' hP m => ?_⟩⟩
  · show b < (s.heap.push _).objs.size
    rw [Heap.size_push]
    rcases List.mem_cons.mp hb with e | hb
    · rw [e]
      exact Nat.lt_succ_self _
    · rw [List.mem_singleton.mp hb]
      exact Nat.lt_succ_of_lt hlt
  · obtain ⟨h', tk, rfl, hk'⟩ := PySem.W.moved_old (s := s) rfl rfl m
    exact ⟨d, H, I.kept (t' := tk) fun b u e => hk' b u e, rd, q0 (List.eq_nil_of_length_eq_zero (by omega))⟩
  · obtain ⟨h', tk, rfl, hk'⟩ := PySem.W.moved_old (s := s) rfl rfl m
    obtain ⟨t, rfl⟩ := hval _ v hP
    obtain ⟨b1, b2⟩ := argBest_lt (fun i => is.getD i 0) (vs.length - 1)
    have hne : is ≠ [] := fun z => by
      rw [z] at hlv
      have : vs.length = 0 := hlv
      omega
    refine ⟨.int _, H, I.kept (t' := tk) fun b u e => hk' b u e, ⟨t, rfl⟩, q hne _ ?_ fun j hj => ?_⟩
    · have hb : argBest (fun i j => decide (is.getD i 0 < is.getD j 0)) (vs.length - 1) < is.length := by omega
      rw [List.getD_eq_getElem?_getD, List.getElem?_eq_getElem hb]
      exact List.getElem_mem hb
    · obtain ⟨i, hi, e⟩ := List.mem_iff_getElem.mp hj
      have e2 : is.getD i 0 = j := by rw [List.getD_eq_getElem?_getD, List.getElem?_eq_getElem hi, ← e] <;> rfl
      rw [← e2]
      exact b2 i (by omega)
theorem cr_maxKD (hc : X.calm = true) : CallRK X (.builtin "max") ["default"] rMaxKD := by
  intro pins s σ H vs zs us ws Q I r r2 h
  obtain ⟨a, kvs, is, d, rfl, rfl, ha, hv, q0, q⟩ := h
  rw [Vals.ref1 r]
  obtain ⟨dv, rd, rfl⟩ : ∃ dv, RelV d dv ∧ ws = [dv] := by
    cases r2 with
    | cons r t => cases t with
      | nil => exact ⟨_, r, rfl⟩
  obtain ⟨_, hsys, vs, rel, dof⟩ := dk_of I.hok ha
  obtain ⟨ep, dat⟩ := dof.dictAt
  obtain ⟨ob, es, ho, hex, hdat, hko, hpr, hnd⟩ := id dat
  have hlt : a < s.heap.objs.size := Heap.lt_size ho
  have hkeys : vs.map (·.1) = is.map Sum.inl := (KV.keys rel).symm.trans hv
  have hlv : vs.length = is.length := by
    have e1 := congrArg List.length hkeys
    rw [List.length_map, List.length_map] at e1
    exact e1
  have hval : ∀ (i : Nat) (v : Value), (∃ k x, vs[i]? = some (k, x) ∧ (mixKind X.prog X.w).is k v = true) → ∃ t, v = Value.int (is.getD i 0) t := fun i v ⟨k, x, hk, hkey⟩ => by
    have e1 : (vs.map (·.1))[i]? = some k := by rw [List.getElem?_map, hk] <;> rfl
    rw [hkeys, List.getElem?_map] at e1
    obtain ⟨j, hj, e2⟩ := Option.map_eq_some_iff.mp e1
    subst e2
    have hi : Value.isInt j v = true := hkey
    obtain ⟨t, e3⟩ := Value.isInt_shape (k := j) (v := v) hi
    refine ⟨t, ?_⟩
    rw [e3, List.getD_eq_getElem?_getD, hj] <;> rfl
  have hnew : ∀ b (u : Obj), s.heap.get? b = some u → b ∉ [s.heap.objs.size] := fun b u e hm => by
    have e1 : b = s.heap.objs.size := List.mem_singleton.mp hm
    have e2 := Heap.lt_size e
    rw [e1] at e2
    exact absurd e2 (Nat.lt_irrefl _)
  show wpAny _ _ (call (.builtin "max") [.ref a] [("default", dv)]) _ _ _
  refine call_max_walkD (wpAny_pyIter_dict (knd := mixKind X.prog X.w) hsys dat ?_)
  refine ⟨_, _, _, _, _, _, _, s.heap, _, rfl, (Walks.dictKeys (knd := mixKind X.prog X.w) (A := X.A.in1) (I.ok.hd hc) s.heap.objs.size a (Nat.ne_of_lt hlt) vs ep).toS,
    ⟨⟨_, Heap.get?_push_size _ rfl, rfl, rfl⟩, dat.keep fun b u e => Heap.get?_push_of_some _ e⟩, fun b hb => ?_, hnew, fun b o e => Heap.get?_push_of_some _ e, fun hz s' m => ?_, fun hp => ⟨fun i j vi vj s Q E _ => CmpOf.ints_gt (fun i => is.getD i 0) hval i j vi vj s Q E, fun v s' hP m => ?_⟩⟩
  · show b < (s.heap.push _).objs.size
    rw [Heap.size_push]
    rcases List.mem_cons.mp hb with e | hb
    · rw [e]
      exact Nat.lt_succ_self _
    · rw [List.mem_singleton.mp hb]
      exact Nat.lt_succ_of_lt hlt
  · obtain ⟨h', tk, rfl, hk'⟩ := PySem.W.moved_old (s := s) rfl rfl m
    exact ⟨d, H, I.kept (t' := tk) fun b u e => hk' b u e, rd, q0 (List.eq_nil_of_length_eq_zero (by omega))⟩
  · obtain ⟨h', tk, rfl, hk'⟩ := PySem.W.moved_old (s := s) rfl rfl m
    obtain ⟨t, rfl⟩ := hval _ v hP
    obtain ⟨b1, b2⟩ := argBest_gt (fun i => is.getD i 0) (vs.length - 1)
    have hne : is ≠ [] := fun z => by
      rw [z] at hlv
      have : vs.length = 0 := hlv
      omega
    refine ⟨.int _, H, I.kept (t' := tk) fun b u e => hk' b u e, ⟨t, rfl⟩, q hne _ ?_ fun j hj => ?_⟩
    · have hb : argBest (fun i j => decide (is.getD i 0 > is.getD j 0)) (vs.length - 1) < is.length := by omega
      rw [List.getD_eq_getElem?_getD, List.getElem?_eq_getElem hb]
      exact List.getElem_mem hb
    · obtain ⟨i, hi, e⟩ := List.mem_iff_getElem.mp hj
      have e2 : is.getD i 0 = j := by rw [List.getD_eq_getElem?_getD, List.getElem?_eq_getElem hi, ← e] <;> rfl
      rw [← e2]
      exact b2 i (by omega)
end
end My
/-! d.setdefault(k, x) of a dict with tuple keys. No row. -/
namespace My
open PySem PySem.Spec PyProof.Rows L2
def tDSetdT (td ty tx : TE) : TE := fun σ H Q => td σ H fun x H1 => ∃ a, x = .ref a ∧ IsD H1 a ∧ ty σ H1 fun y H2 => tx σ H2 fun z H3 => ∃ (kvs : List (List Key × V)) (k : List Key) (b : Addr), H3 a = some (.dT kvs) ∧ y = .ref b ∧ H3 b = some (.tup (k.map kV)) ∧ kvs.length < sizeLine ∧
  (∀ v, valV kvs k = some v → Q v H3) ∧ (valV kvs k = none → Q z (upd H3 a (.dT (putK kvs k z))))
section
variable {X : Cx} {o e f : Expr} {td ty tx : TE} {apos cpos : Pos} {pins : List (Addr × Obj)} {σ : L2.St} {H : Hp} {s : Shared} {a b : Addr} {r : Value} {d : V} {A : Around} {E : Value → Shared → Prop}
theorem d_setdT {kvs : List (List Key × V)} {k : List Key} {Q : Value → Shared → Prop} (hu : A.units + 1 < cLine) (I : Inv X pins σ H s) (e : H a = some (.dT kvs)) (eb : H b = some (.tup (k.map kV))) (rd : RelV d r) (hl : kvs.length < sizeLine)
    (h1 : ∀ v, valV kvs k = some v → ∀ (w' : Value) (s' : Shared), Inv X pins σ H s' → RelV v w' → Q w' s') (h2 : valV kvs k = none → ∀ (w' : Value) (s' : Shared), Inv X pins σ (upd H a (.dT (putK kvs k d))) s' → RelV d w' → Q w' s') :
    wpAny (model X.prog X.w) A (call (.builtin "dict.setdefault") [.ref a, .ref b, r]) Q E s := by
  obtain ⟨z, hd, xs, rel, dd⟩ := dt_of I.hok e
  have hz : xs.length ≤ sizeLine := by rw [← Paired.length rel]; exact z
  have rv := rel.val k
  refine call_setdefault_heap (tupleKind_room_in1 hu) (key_of I.hok eb) hd dd (fun p hp => ?_) (fun hn h' dd' hs => ?_) hz
  · rw [hp] at rv
    cases q0 : valV kvs k with
    | none => rw [q0] at rv; exact (show False from rv).elim
    | some v0 =>
      rw [q0] at rv
      exact h1 v0 q0 _ _ (I.tok _) rv
  · rw [hn] at rv
    cases q0 : valV kvs k with
    | some v0 => rw [q0] at rv; exact (show False from rv).elim
    | none =>
      have hl2 : (putK kvs k d).length ≤ sizeLine := by have := length_putK kvs k d; omega
      obtain ⟨q, es, ep, hq, g2, g3, g4, _, g5⟩ := dd'
      refine h2 q0 _ _ (d_write I (by rw [e]; exact True.intro) hs ⟨q, hq⟩ ⟨hl2, hd, _, (rel.put k eb rd).keeps fun c ys ec => ?_, q, es, ep, hq, g2, g3, g4, g5⟩) rd
      rw [upd_ne (ne_of ec e (fun z => nomatch z))]
      exact ec
theorem pe_dsetdT (hu : X.A.units + 1 < cLine) (ho : PE X o td) (he : PE X e ty) (hf : PE X f tx) (m : M2 X o "setdefault" apos e f cpos) : PE X (.Call (.Attribute o "setdefault" apos) [e, f] [] cpos) (tDSetdT td ty tx) := by
  refine ⟨fun pins s σ H Q I h => ?_⟩
  refine wpAny_Call_method m.base m.few m.line PySem.F.plainAttrs_dict PySem.F.slot_dict_setdefault PySem.F.type_dict_setdefault (thn (ho.run pins s σ H _ I h) fun u s1 ⟨x, H1, I1, rx, a, ex, d, q1⟩ => ?_)
  subst ex
  obtain rfl : u = Value.ref a := rx
  obtain ⟨t1, t2, _⟩ := isD_at I1 d
  refine ⟨t1, t2, ?_⟩
  rw [m.trees]
  refine Calls.callWith_builtin rfl (Calls.evalArgs_plain (Calls.spliced_cons (thn (he.run pins s1 σ H1 _ I1 q1) fun iv s2 ⟨y, H2, I2, ry, q2⟩ =>
    Calls.spliced_cons (thn (hf.run pins s2 σ H2 _ I2 q2) fun fv s3 ⟨z, H3, I3, rz, kvs, k, b, ea, ey, eb, hl, q3, q4⟩ => Calls.spliced_nil ?_))))
  subst ey
  cases (show iv = Value.ref b from ry)
  exact d_setdT hu I3 ea eb rz hl (fun v hv w' s4 I4 rw' => ⟨v, _, I4, rw', q3 v hv⟩) fun hn w' s4 I4 rw' => ⟨z, _, I4, rw', q4 hn⟩
end
end My
/-! sorted(xs) of triples of ints, any length. No row. -/
namespace SrtO
open PySem PySem.Spec PyProof.Rows L2
abbrev I3 := Int × Int × Int
def lex3 (p q : I3) : Bool := if p.1 = q.1 then (if p.2.1 = q.2.1 then decide (p.2.2 < q.2.2) else decide (p.2.1 < q.2.1)) else decide (p.1 < q.1)
theorem lex3_iff {p q : I3} : lex3 p q = true ↔ p.1 < q.1 ∨ (p.1 = q.1 ∧ (p.2.1 < q.2.1 ∨ (p.2.1 = q.2.1 ∧ p.2.2 < q.2.2))) := by
  unfold lex3
  by_cases e : p.1 = q.1
  · rw [if_pos e]
    by_cases e2 : p.2.1 = q.2.1
    · rw [if_pos e2, decide_eq_true_eq]; omega
    · rw [if_neg e2, decide_eq_true_eq]; omega
  · rw [if_neg e, decide_eq_true_eq]; omega
theorem lex3_no {p q : I3} : lex3 p q = false ↔ ¬ (p.1 < q.1 ∨ (p.1 = q.1 ∧ (p.2.1 < q.2.1 ∨ (p.2.1 = q.2.1 ∧ p.2.2 < q.2.2)))) := by
  rw [← lex3_iff]
  cases lex3 p q <;> simp
theorem swo_lex3 {α : Type} (k : α → I3) : Swo fun v u => lex3 (k v) (k u) := by
  refine ⟨fun x y h => ?_, fun x y z h1 h2 => ?_⟩
  · have a := lex3_iff.mp h
    refine lex3_no.mpr ?_
    omega
  · have a := lex3_no.mp h1
    have b := lex3_no.mp h2
    refine lex3_no.mpr ?_
    omega
def IsTrip (h : Heap) (v : Value) (k : I3) : Prop := ∃ a o t u r n, v = .ref a ∧ h.get? a = some o ∧ o.cls = .type "tuple" ∧ o.data = .seq #[.int k.1 t, .int k.2.1 u, .int k.2.2 r] n
theorem IsTrip.keeps {h h' : Heap} {v : Value} {x : I3} (p : IsTrip h v x) (k : ∀ b o, h.get? b = some o → o.cls = .type "tuple" → h'.get? b = some o) : IsTrip h' v x := by
  obtain ⟨a, o, t, u, r, n, e, ho, hc, hd⟩ := p
  exact ⟨a, o, t, u, r, n, e, k _ _ ho hc, hc, hd⟩
theorem firsts3 {h : Heap} : ∀ {vs : List Value}, (∀ v ∈ vs, ∃ x, IsTrip h v x) → ∃ fs : List Value, PySem.W.KatTups h vs fs ∧ fs.length = vs.length ∧ ∀ f ∈ fs, ∃ x t, f = Value.int x t
  | [], _ => ⟨[], PySem.W.KatTups.nil, rfl, fun _ hm => by simp at hm⟩
  | v :: vs, hp => by
    obtain ⟨fs, h1, h2, h3⟩ := firsts3 (vs := vs) fun v' hm => hp v' (List.mem_cons_of_mem _ hm)
    obtain ⟨x, a, o, t, u, r, n, e, ho, hc, hd⟩ := hp v (List.mem_cons_self ..)
    subst e
    refine ⟨.int x.1 t :: fs, PySem.W.KatTups.cons ho hc hd rfl h1, by rw [List.length_cons, List.length_cons, h2], fun f hm => ?_⟩
    rcases List.mem_cons.mp hm with rfl | hm
    · exact ⟨_, t, rfl⟩
    · exact h3 f hm
section
variable {prog : Program} {w : World} {A : Around} {E : Value → Shared → Prop} {s : Shared}
theorem trip_cmp {vs : List Value} {k : Value → I3} (hp : ∀ v ∈ vs, IsTrip s.heap v (k v)) : Cmp prog w A s (tuples' true) (fun p => p.1 ∈ vs) (lt2 fun v u => lex3 (k v) (k u)) := by
  intro p q hm hm'
  have h1 := hp _ hm
  have h2 := hp _ hm'
  show wpAny (model prog w) A (keyLt' (tuples' true) p.1 q.1) (fun r s' => s' = s ∧ r = lex3 (k p.1) (k q.1)) (fun _ _ => False) s
  unfold lex3
  generalize k p.1 = x at h1 ⊢
  generalize k q.1 = x' at h2 ⊢
  obtain ⟨x, y, z⟩ := x
  obtain ⟨x', y', z'⟩ := x'
  dsimp only at *
  obtain ⟨a, o, t, u, r, n, e, ho, hc, hd⟩ := h1
  obtain ⟨a', o', t', u', r', n', e', ho', hc', hd'⟩ := h2
  dsimp only at hd hd'
  rw [e, e']
  refine PySem.W.kat_lt ho hd ho' hd' ?_
  show PySem.W.KatLex prog w A true (decide (3 < 3)) _ [(.int x t, .int x' t'), (.int y u, .int y' u'), (.int z r, .int z' r')] 0 s
  refine PySem.W.kat_cons (SeqAt.EqAt.int_int x t x' t' prog w _ _ ?_)
  refine PySem.W.kat_go (fun e1 => ?_) (fun e1 => ?_)
  · have ex : x = x' := by simpa using e1
    rw [if_pos ex]
    refine PySem.W.kat_yes (PySem.W.kat_cons (SeqAt.EqAt.int_int y u y' u' prog w _ _ ?_))
    refine PySem.W.kat_go (fun e2 => ?_) (fun e2 => ?_)
    · have ey : y = y' := by simpa using e2
      rw [if_pos ey]
      refine PySem.W.kat_yes (PySem.W.kat_cons (SeqAt.EqAt.int_int z r z' r' prog w _ _ ?_))
      refine PySem.W.kat_go (fun e3 => ?_) (fun e3 => ?_)
      · have ez : z = z' := by simpa using e3
        exact PySem.W.kat_yes (PySem.W.kat_nil ⟨rfl, (by rw [ez]; exact (decide_eq_false (Int.lt_irrefl _)).symm)⟩)
      · refine PySem.W.kat_no (PySem.W.kat_one _ _ (PyProof.Rows.lt_int ?_))
        exact ⟨rfl, rfl⟩
    · have ey : ¬ y = y' := by simpa using e2
      rw [if_neg ey]
      refine PySem.W.kat_no (PySem.W.kat_one _ _ (PyProof.Rows.lt_int ?_))
      exact ⟨rfl, rfl⟩
  · have ex : ¬ x = x' := by simpa using e1
    rw [if_neg ex]
    exact PySem.W.kat_no (oneLt_int ⟨rfl, rfl⟩)
theorem trips_sortable {a : Addr} {vs : List Value} {k : Value → I3} (h0 : 0 < vs.length) (hp : ∀ v ∈ vs, IsTrip s.heap v (k v)) (ha : ∀ o, s.heap.get? a = some o → o.cls ≠ .type "tuple") : SortableO prog w A s a vs fun v u => lex3 (k v) (k u) := by
  intro h' keep
  have hp' : ∀ v ∈ vs, IsTrip h' v (k v) := fun v hm => (hp v hm).keeps fun b o e c => keep b o (fun z => by subst z; exact ha o e c) e
  obtain ⟨fs, h1, h2, h3⟩ := firsts3 fun v hm => ⟨_, hp' v hm⟩
  refine ⟨tuples' true, fun Q E hq => ?_, trip_cmp hp'⟩
  refine PySem.W.kat_kind (T := .type "int") h1 (by omega) (fun f hm => ?_) (by rfl) ?_
  · obtain ⟨x, t, rfl⟩ := h3 f hm
    exact PySem.W.Looks.now
  · have e : (Value.type "int" != Value.type "tuple") = true := by first | decide +kernel | rfl | decide
    rw [e]
    exact hq
theorem sorted_trips {l : Addr} {vs : List Value} {k : Value → I3} {Q : Value → Shared → Prop} (hl : s.heap.IsList l vs.toArray) (hz : vs.length ≤ sizeLine) (hp : ∀ v ∈ vs, IsTrip s.heap v (k v))
    (h : ∀ (h' : Heap) (d : Addr) (out : List Value), Srtd (fun v u => lex3 (k v) (k u)) out → Stb (fun v u => lex3 (k v) (k u)) out vs → (∀ b o, s.heap.get? b = some o → h'.get? b = some o) → s.heap.objs.size ≤ d → (∃ n, h'.get? d = some (seqObj "list" out.toArray n)) → Q (.ref d) { s with heap := h' }) :
    wpAny (model prog w) A (call (.builtin "sorted") [.ref l]) Q E s := by
  refine sorted_ord (swo_lex3 k) hl hz (fun h2 h₁ a ha kk => ?_) fun out hs hb => ?_
  · refine trips_sortable (s := { s with heap := h₁ }) (by omega) (fun v hm => (hp v hm).keeps fun b o e _ => (kk b o e).2) fun o e => ?_
    have e' : some o = some (seqObj "list" vs.toArray 0) := e.symm.trans ha
    cases e'
    intro c
    exact absurd (Value.type.inj c) (by decide)
  · exact h _ _ out hs hb (fun b o e => sortedAll_old e) (Nat.le_succ _) (sortedAll_at s.heap vs out.toArray)
end
end SrtO
namespace L2
open PySem PySem.Spec PyProof.Rows
abbrev ltT (k : V → SrtO.I3) (x y : V) : Bool := SrtO.lex3 (k x) (k y)
def rSortedT3 (K : PySem.W.Frag) : List V → Hp → VK → Prop := fun vs H Q => ∃ (a : Addr) (xs : List V) (k : V → SrtO.I3), vs = [V.ref a] ∧ SqL K H a xs ∧ (∀ x ∈ xs, ∃ t, x = V.ref t ∧ H t = some (.tup [.int (k x).1, .int (k x).2.1, .int (k x).2.2])) ∧
  ∀ ys p, SrtO.Srtd (ltT k) ys → ys.Perm xs → H p = none → Q (.ref p) (upd H p (.lst ys))
section
variable {X : Cx}
theorem cr_sortedT3 : CallR X (.builtin "sorted") (rSortedT3 X.K) := by
  intro pins s σ H vs us Q I r h
  obtain ⟨a, xs, k, rfl, hs, hx, q⟩ := h
  obtain ⟨its, rv, hl, hz⟩ := I.list hs
  obtain ⟨u, rfl, ru⟩ := vals1 r
  obtain rfl : u = Value.ref a := ru
  obtain ⟨e1, e2⟩ := refs_back rv fun x m => by
    obtain ⟨t, e, _⟩ := hx x m
    exact ⟨t, e⟩
  refine SrtO.sorted_trips (k := fun u => k (backV u)) hl.isList (by rw [← rv.length]; exact hz) (fun v hv => ?_) fun h' d out h1 h2 kp hd hn => ?_
  · obtain ⟨t, rfl⟩ := e2 v hv
    have hm : V.ref t ∈ xs := by rw [e1]; exact List.mem_map.mpr ⟨_, hv, rfl⟩
    obtain ⟨t', e, ht⟩ := hx _ hm
    cases e
    obtain ⟨_, its2, r2, o, ho, hc, n, hd⟩ := I.hok _ _ ht
    obtain ⟨u1, u2, u3, rfl, ri, rj, rk⟩ : ∃ u1 u2 u3, its2 = [u1, u2, u3] ∧ RelV (.int (k (.ref t)).1) u1 ∧ RelV (.int (k (.ref t)).2.1) u2 ∧ RelV (.int (k (.ref t)).2.2) u3 := by
      cases r2 with
      | cons a1 r2 => cases r2 with
        | cons a2 r2 => cases r2 with
          | cons a3 r2 => cases r2 with
            | nil => exact ⟨_, _, _, rfl, a1, a2, a3⟩
    obtain ⟨t1, rfl⟩ := ri
    obtain ⟨t2, rfl⟩ := rj
    obtain ⟨t3, rfl⟩ := rk
    exact ⟨t, o, t1, t2, t3, n, rfl, ho, hc, hd⟩
  · have h3 : ∀ u ∈ out, ∃ a, u = Value.ref a := fun u hu => e2 u (h2.perm.mem_iff.mp hu)
    obtain ⟨n, hn⟩ := hn
    have hb : (out.map backV).Perm xs := by
      rw [e1]
      exact h2.perm.map backV
    refine ⟨.ref d, upd H d (.lst (out.map backV)), I.laid (t' := s.toks) kp hd ⟨?_, out, n, vals_back h3, hn⟩, rfl, q _ d (SrtO.srtd_map h1) hb (I.hok.fresh hd)⟩
    rw [hb.length_eq]
    exact hz
end
end L2
/-! Windows as data, math.lcm as a rule, tests in which the heap grows. No row. -/
namespace My
open PySem PySem.Spec PyProof.Rows L2
theorem or_read2 {t u : TT} {σ : L2.St} {H : Hp} {Q : Bool → Hp → Prop} {a b : Bool} (ht : ∀ Q : Bool → Hp → Prop, (∀ H1, Same H H1 → Q a H1) → t σ H Q) (hu : ∀ H1, Same H H1 → ∀ Q : Bool → Hp → Prop, (∀ H2, Same H1 H2 → Q b H2) → u σ H1 Q) (h : ∀ H1, Same H H1 → Q (a || b) H1) : tOr t u σ H Q := by
  refine ht _ fun H1 s1 => ?_
  cases a with
  | true => exact h H1 s1
  | false => exact hu H1 s1 _ fun H2 s2 => h H2 (s1.trans s2)
theorem and_read2 {t u : TT} {σ : L2.St} {H : Hp} {Q : Bool → Hp → Prop} {a b : Bool} (ht : ∀ Q : Bool → Hp → Prop, (∀ H1, Same H H1 → Q a H1) → t σ H Q) (hu : a = true → ∀ H1, Same H H1 → ∀ Q : Bool → Hp → Prop, (∀ H2, Same H1 H2 → Q b H2) → u σ H1 Q) (h : ∀ H1, Same H H1 → Q (a && b) H1) : tAnd t u σ H Q := by
  refine ht _ fun H1 s1 => ?_
  cases a with
  | true => exact hu rfl H1 s1 _ fun H2 s2 => h H2 (s1.trans s2)
  | false => exact h H1 s1
section
variable {X : Cx}
def rLcm : List V → Hp → VK → Prop := fun vs H Q => ∃ a b : Int, vs = [.int a, .int b] ∧ a.natAbs < 2 ^ 64 ∧ b.natAbs < 2 ^ 64 ∧ Q (.int ((Nat.lcm a.natAbs b.natAbs : Nat) : Int)) H
theorem cr_lcm : CallR X (.builtin "math.lcm") rLcm := by
  intro pins s σ H vs us Q I r h
  obtain ⟨a, b, rfl, ha, hb, q⟩ := h
  obtain ⟨t, u, rfl⟩ := Vals.int2 r
  exact PySem.W.mc_lcm ha hb fun _ => ⟨.int _, H, I.tok _, ⟨_, rfl⟩, q⟩
end
theorem dec_int (a b : Int) : decide (V.int a = V.int b) = decide (a = b) := by
  by_cases h : a = b
  · rw [h]; simp
  · rw [decide_eq_false h, decide_eq_false]
    intro z
    injection z with z
    exact h z
/-- offset, length, period -/
abbrev Win := Int × Int × Int
def winV (w : Win) : List V := [.int w.1, .int w.2.1, .int w.2.2]
abbrev WinsAt (K : PySem.W.Frag) (H : Hp) (ts : List Addr) (ws : List Win) : Prop := Paired (fun (t : Addr) (w : Win) => SqT K H t (winV w)) ts ws
theorem WinsAt.same {K : PySem.W.Frag} {H H' : Hp} {ts : List Addr} {ws : List Win} (h : WinsAt K H ts ws) (e : Same H H') : WinsAt K H' ts ws := Paired.imp h fun _ _ q => same_tup e q
theorem WinsAt.butL {K : PySem.W.Frag} {H H' : Hp} {p : Addr} {ys : List V} {ts : List Addr} {ws : List Win} (h : WinsAt K H ts ws) (hp : H p = some (.lst ys)) (e : But p H H') : WinsAt K H' ts ws := Paired.imp h fun _ _ q => e.tupL hp q
/-- the tick is in a stretch -/
def hasT (w : Win) (x : Int) : Bool := decide (w.1 ≤ x) && decide ((x - w.1) % w.2.2 < w.2.1)
theorem hasT_iff {w : Win} (hp : 0 < w.2.2) (x : Int) : hasT w x = true ↔ ∃ k : Nat, w.1 + k * w.2.2 ≤ x ∧ x < w.1 + k * w.2.2 + w.2.1 := by
  unfold hasT
  rw [Bool.and_eq_true, decide_eq_true_eq, decide_eq_true_eq]
  have hd := Int.emod_add_mul_ediv (x - w.1) w.2.2
  have h0 := Int.emod_nonneg (x - w.1) (show w.2.2 ≠ 0 by omega)
  have h1 := Int.emod_lt_of_pos (x - w.1) hp
  constructor
  · rintro ⟨a, b⟩
    have hk : 0 ≤ (x - w.1) / w.2.2 := Int.ediv_nonneg (by omega) (by omega)
    refine ⟨((x - w.1) / w.2.2).toNat, ?_, ?_⟩
    · rw [Int.toNat_of_nonneg hk, Int.mul_comm]; omega
    · rw [Int.toNat_of_nonneg hk, Int.mul_comm]; omega
  · rintro ⟨k, a, b⟩
    have hk : 0 ≤ (k : Int) * w.2.2 := Int.mul_nonneg (by omega) (by omega)
    refine ⟨by omega, ?_⟩
    have e : (x - w.1) % w.2.2 = (x - w.1 - k * w.2.2) % w.2.2 := by
      rw [Int.sub_mul_emod_self_right]
    rw [e]
    have e1 := Int.emod_add_mul_ediv (x - w.1 - k * w.2.2) w.2.2
    have e2 := Int.mul_nonneg (show 0 ≤ w.2.2 by omega) (Int.ediv_nonneg (show 0 ≤ x - w.1 - k * w.2.2 by omega) (show 0 ≤ w.2.2 by omega))
    omega
/-- just the first 140 stretches are looked at -/
theorem hasT_few {w : Win} (hp : 0 < w.2.2) {x : Int} (hx : x - w.1 < 140) : hasT w x = true ↔ ∃ k : Nat, k < 140 ∧ w.1 + k * w.2.2 ≤ x ∧ x < w.1 + k * w.2.2 + w.2.1 := by
  rw [hasT_iff hp]
  constructor
  · rintro ⟨k, a, b⟩
    refine ⟨k, ?_, a, b⟩
    have : (k : Int) * 1 ≤ (k : Int) * w.2.2 := Int.mul_le_mul_of_nonneg_left (by omega) (by omega)
    omega
  · rintro ⟨k, _, a, b⟩
    exact ⟨k, a, b⟩
/-! ### the common period -/
def lcmW (ws : List Win) : Nat := ws.foldl (fun a w => a.lcm w.2.2.natAbs) 1
theorem lcmW_snoc (ws : List Win) (w : Win) : lcmW (ws ++ [w]) = (lcmW ws).lcm w.2.2.natAbs := by
  unfold lcmW
  rw [List.foldl_append]
  rfl
theorem lcm_foldl_dvd {α : Type} (f : α → Nat) : ∀ (ws : List α) (a m : Nat), ws.foldl (fun a w => a.lcm (f w)) a ∣ m ↔ a ∣ m ∧ ∀ w ∈ ws, f w ∣ m
  | [], a, m => by simp
  | w :: r, a, m => by
    rw [List.foldl_cons, lcm_foldl_dvd f r, Nat.lcm_dvd_iff]
    simp [and_assoc]
theorem lcmW_dvd {ws : List Win} {m : Nat} : lcmW ws ∣ m ↔ ∀ w ∈ ws, w.2.2.natAbs ∣ m := by
  unfold lcmW
  rw [lcm_foldl_dvd]
  simp
theorem dvd_lcmW {ws : List Win} {w : Win} (h : w ∈ ws) : w.2.2.natAbs ∣ lcmW ws := lcmW_dvd.mp (Nat.dvd_refl _) w h
theorem lcmW_pos : ∀ {ws : List Win}, (∀ w ∈ ws, 0 < w.2.2) → 0 < lcmW ws := by
  intro ws
  unfold lcmW
  suffices h : ∀ (ws : List Win) (a : Nat), 0 < a → (∀ w ∈ ws, 0 < w.2.2) → 0 < ws.foldl (fun a w => a.lcm w.2.2.natAbs) a from h ws 1 (by decide)
  intro ws
  induction ws with
  | nil => intro a ha _; exact ha
  | cons w r ih =>
    intro a ha h
    have := h w List.mem_cons_self
    exact ih _ (Nat.lcm_pos ha (by omega)) fun x hx => h x (List.mem_cons_of_mem _ hx)
theorem lcm_le_mul (a b : Nat) : a.lcm b ≤ a * b := PySem.W.mc_lcm_le a b
theorem lcmW_le {m : Nat} (hm : 1 ≤ m) : ∀ {ws : List Win}, (∀ w ∈ ws, w.2.2.natAbs ≤ m) → lcmW ws ≤ m ^ ws.length := by
  intro ws
  unfold lcmW
  suffices h : ∀ (ws : List Win) (a : Nat), (∀ w ∈ ws, w.2.2.natAbs ≤ m) → ws.foldl (fun a w => a.lcm w.2.2.natAbs) a ≤ a * m ^ ws.length by
    intro hw
    have := h ws 1 hw
    omega
  intro ws
  induction ws with
  | nil => intro a _; simp
  | cons w r ih =>
    intro a h
    have h1 := ih (a.lcm w.2.2.natAbs) fun x hx => h x (List.mem_cons_of_mem _ hx)
    have h2 := lcm_le_mul a w.2.2.natAbs
    have h3 := h w List.mem_cons_self
    rw [List.foldl_cons, List.length_cons, Nat.pow_succ]
    calc _ ≤ a.lcm w.2.2.natAbs * m ^ r.length := h1
      _ ≤ (a * m) * m ^ r.length := Nat.mul_le_mul_right _ (Nat.le_trans h2 (Nat.mul_le_mul_left _ h3))
      _ = a * (m ^ r.length * m) := by rw [Nat.mul_assoc, Nat.mul_comm m]
/-- what the drawn windows are like -/
structure WG (w : Win) : Prop where
  p0 : 1 ≤ w.2.2
  p1 : w.2.2 ≤ 60
  l0 : 0 ≤ w.2.1
  l1 : w.2.1 ≤ 100
/-! ### data -/
def dWin (w : Win) : PyData := .tuple [.int w.1, .int w.2.1, .int w.2.2]
def dWins (ws : List Win) : PyData := .list (ws.map dWin)
theorem shp_win (w : Win) : Shp 1 (dWin w) := shp_tuple fun d hd => by
  rcases List.mem_cons.mp hd with e | hd
  · rw [e]; exact shp_int _
  · rcases List.mem_cons.mp hd with e | hd
    · rw [e]; exact shp_int _
    · rw [List.mem_singleton.mp hd]; exact shp_int _
theorem eqv_win (p q : Win) : PyData.eqv (dWin p) (dWin q) = decide (p = q) := by
  obtain ⟨a, b, c⟩ := p
  obtain ⟨d, e, f⟩ := q
  unfold dWin
  rw [PyData.eqv, PyData.eqvAll, PyData.eqvAll, PyData.eqvAll, PyData.eqvAll, eqv_int, eqv_int, eqv_int, beq_dec, beq_dec, beq_dec, Bool.and_true, Bool.eq_iff_iff, Bool.and_eq_true, Bool.and_eq_true, decide_eq_true_eq, decide_eq_true_eq, decide_eq_true_eq, decide_eq_true_eq, Prod.mk.injEq, Prod.mk.injEq]
theorem shp_wins (ws : List Win) : Shp 2 (dWins ws) := shp_list (shp_map shp_win)
theorem eqv_wins (a b : List Win) : PyData.eqv (dWins a) (dWins b) = decide (a = b) := by
  unfold dWins
  rw [PyData.eqv, eqv_map dWin eqv_win]
theorem dp_win {K : PySem.W.Frag} {H : Hp} {t : Addr} {w : Win} (h : SqT K H t (winV w)) : Dp K H (.ref t) (dWin w) := .tup h (.cons (.int _) (.cons (.int _) (.cons (.int _) .nil)))
theorem dp_wins {K : PySem.W.Frag} {H : Hp} {a : Addr} {ts : List Addr} {ws : List Win} (h : SqL K H a (ts.map V.ref)) (hw : WinsAt K H ts ws) : Dp K H (.ref a) (dWins ws) := .lst h (dp_paired dWin (fun _ _ q => dp_win q) hw)
theorem refs_at {ts : List Addr} {i : Nat} {x : V} (h : (ts.map V.ref)[i]? = some x) : ∃ t, ts[i]? = some t ∧ x = .ref t := by
  rw [List.getElem?_map] at h
  cases e : ts[i]? with
  | none => rw [e] at h; cases h
  | some t => rw [e] at h; exact ⟨t, rfl, (Option.some.inj h).symm⟩
theorem bls_any (bs : List Bool) : inV (.bl true) (bs.map V.bl) = bs.any id := by
  unfold inV
  rw [List.any_map]
  congr 1
  funext b
  cases b <;> rfl
theorem bls_flat (bs : List Bool) : (bs.map V.bl).all flatV = true := by
  rw [List.all_map]
  exact List.all_eq_true.mpr fun _ _ => rfl
theorem eqL_self {α : Type} [DecidableEq α] (f : α → PyData) (h : ∀ x y, PyData.eqv (f x) (f y) = decide (x = y)) (x : α) : PyData.eqv (f x) (f x) = true := by rw [h, decide_eq_true rfl]
theorem andv {ta tb : TE} {σ : L2.St} {H : Hp} {Q : V → Hp → Prop} {a b : Bool} (ha : ∀ Q : V → Hp → Prop, Q (.bl a) H → ta σ H Q) (hb : a = true → ∀ Q : V → Hp → Prop, Q (.bl b) H → tb σ H Q) (h : Q (.bl (a && b)) H) : tAndV ta tb σ H Q := by
  refine ha _ ⟨a, rfl, ?_⟩
  cases a with
  | true => exact iteT (hb rfl _ h)
  | false => exact iteF h
theorem orv {ta tb : TE} {σ : L2.St} {H : Hp} {Q : V → Hp → Prop} {a b : Bool} (ha : ∀ Q : V → Hp → Prop, Q (.bl a) H → ta σ H Q) (hb : a = false → ∀ Q : V → Hp → Prop, Q (.bl b) H → tb σ H Q) (h : Q (.bl (a || b)) H) : tOrV ta tb σ H Q := by
  refine ha _ ⟨a, rfl, ?_⟩
  cases a with
  | true => exact iteT h
  | false => exact iteF (hb rfl _ h)
end My
namespace My
open PySem PySem.Spec PyProof.Rows L2
def top (i : Nat) : Stmt := PySem.Challenge.pw_metronet_k13_gaps_and_waits.main.body.getD i (.Pass ⟨0, 0, 0, 0⟩)
abbrev sDraw : Stmt := top 11 /-_law_draw-/
abbrev sCell : Stmt := top 13 /-_law_cell-/
/-- the built-in names that the module leaves -/
structure Blt (mg : Str → Option Value) : Prop where
  range : mg "range" = none
  len : mg "len" = none
  int : mg "int" = none
  list : mg "list" = none
  enum : mg "enumerate" = none
section
variable {P : Program} {w : World} {K : PySem.W.Frag} {mg : Str → Option Value} {base : Heap}
/-! ### _law_draw -/
theorem scDraw : FnScope ["cell", "many", "bound", "numbers", "k", "seed", "mixed"] ["cell", "many", "bound"] (defScope sDraw) := ⟨rfl, rfl, rfl, by decide +kernel, rfl, by decide +kernel, by decide +kernel⟩
def spDraw : Sp := fun vs H Q _ => ∃ (c b : Int) (m : Nat), vs = [.int c, .int (m : Int), .int b] ∧ m ≤ 1000 ∧ 0 < b ∧ b < 2 ^ 64 ∧
  ∀ (H' : Hp) (p : Addr) (ns : List Int), Same H H' → H p = none → H' p = some (.lst (ns.map V.int)) → ns.length = m → (∀ x ∈ ns, 0 ≤ x ∧ x < b) → Q (.ref p) H'
theorem ok_draw {f : Addr} {fd : FuncData} {k : Nat} (F : Fun K "_law_draw" "_law_draw" sDraw f fd) (T : Blt mg) : FnOk P w K mg base CX0 (k + 1) f fd ["cell", "many", "bound"] spDraw := by
  refine F.ok scDraw (fun vs H Q E h => ?_) (fun cdv A outer s H vs Q E hr h => ?_)
  · obtain ⟨c, b, m, rfl, _⟩ := h
    rfl
  · obtain ⟨c, b, m, rfl, hm, hb0, hb1, q⟩ := h
    have nd := scDraw.nd
    refine ⟨_, pss_cons (ps_set (i := 3) nd rfl (.inl rfl) (pe_lst pa_nil))
      (pss_cons (ps_if (pt_cmpR op_ge (pv 0) (pe_op op_pow pe_int pe_int) (nomark _))
        (pss_cons (ps_for PassesOwn.never rfl (pi_range1 (by rfl) T.range (pa_cons (pv 1) pa_nil)) (pg_name (i := 4) nd rfl (.inl rfl))
          (pss_cons (ps_expr (pe_bm PySem.F.plainAttrs_list PySem.F.slot_list_append PySem.F.type_list_append mt_append (pv 3)
              (pa_cons (pe_op op_mod (pe_callTy call_int1 (by rfl) T.int (by decide +kernel) (pa_cons (pv 0) pa_nil)) (pv 2)) pa_nil)))
          (pss_one (ps_set (i := 0) nd rfl (.inl rfl) (pe_op op_fdivW (pv 0) (pv 2))))))
        (pss_one (ps_ret (pv 3)))) pss_nil)
      (pss_cons (ps_set (i := 5) nd rfl (.inl rfl) (pe_op op_mod (pe_callTy call_int1 (by rfl) T.int (by decide +kernel) (pa_cons (pv 0) pa_nil)) pe_int))
      (pss_cons (ps_for PassesOwn.never rfl (pi_range1 (by rfl) T.range (pa_cons (pv 1) pa_nil)) (pg_name (i := 4) nd rfl (.inl rfl))
          (pss_cons (ps_set (i := 5) nd rfl (.inl rfl) (pe_op op_mod (pe_callTy call_int1 (by rfl) T.int (by decide +kernel)
              (pa_cons (pe_op op_add (pe_op op_add (pe_op op_mul (pv 5) pe_int) pe_int) (pv 4)) pa_nil)) pe_int))
          (pss_cons (ps_set (i := 6) nd rfl (.inl rfl) (pe_op op_mod (pe_callTy call_int1 (by rfl) T.int (by decide +kernel)
              (pa_cons (pe_op op_add (pe_op op_mul (pv 5) pe_int) (pe_op op_mul pe_int (pv 4))) pa_nil)) pe_int))
          (pss_one (ps_expr (pe_bm PySem.F.plainAttrs_list PySem.F.slot_list_append PySem.F.type_list_append mt_append (pv 3)
              (pa_cons (pe_op op_mod (pe_callTy call_int1 (by rfl) T.int (by decide +kernel) (pa_cons (pe_op op_fdiv (pv 6) pe_int) pa_nil)) (pv 2)) pa_nil)))))))
      (pss_one (ps_ret (pv 3)))))), ?_⟩
    -- numbers = []
    refine ⟨Nat.zero_le _, fun p np => ?_⟩
    have s1 : Same H (upd H p (.lst [])) := same_new np
    -- cell >= 10 ** 18
    refine ⟨_, rfl, _, _, rfl, rfl, ⟨by decide, by decide, by decide⟩, _, _, rfl, rfl, _, rfl, ite2 (fun _ => ?_) (fun _ => ?_)⟩
    · refine ⟨_, rfl, (m : Int), rfl, by omega, by omega, for_range (n := m) (fun i σ H' => ∃ (c' : Int) (ns : List Int) (v4 v5 v6 : Option V), σ = [some (.int c'), some (.int m), some (.int b), some (.ref p), v4, v5, v6] ∧
        Same H H' ∧ H' p = some (.lst (ns.map V.int)) ∧ ns.length = i ∧ ∀ x ∈ ns, 0 ≤ x ∧ x < b) ⟨c, [], none, none, none, rfl, s1, upd_same, rfl, fun x hx => by cases hx⟩ ?_ ?_⟩
      · rintro i σ H' hi ⟨c', ns, v4, v5, v6, rfl, sm, hp, hl, hx⟩
        refine ⟨_, rfl, .inl ⟨rfl, _, SqL.of hp⟩, _, rfl, .inl ⟨_, rfl, _, rfl, _, _, rfl, rfl, hb0, ?_⟩⟩
        refine ⟨p, _, _, rfl, rfl, hp, by rw [List.length_map]; exact small1000 (by omega), ?_⟩
        refine ⟨_, rfl, _, rfl, _, _, rfl, rfl, wide_div (b := 64) hb0 (by omega) (by decide) (by decide), ?_⟩
        refine ⟨c' / b, ns ++ [c' % b], _, v5, v6, rfl, same_mut sm np, ?_, by rw [List.length_append, hl]; rfl, ?_⟩
        · rw [upd_same, List.map_append]; rfl
        · intro x hm
          rcases List.mem_append.mp hm with h1 | h1
          · exact hx x h1
          · rw [List.mem_singleton.mp h1]
            exact ⟨Int.emod_nonneg _ (by omega), Int.emod_lt_of_pos _ hb0⟩
      · rintro σ H' ⟨c', ns, v4, v5, v6, rfl, sm, hp, hl, hx⟩
        exact ⟨_, rfl, q H' p ns sm np hp hl hx⟩
    · refine ⟨_, rfl, .inl ⟨_, rfl, _, _, rfl, rfl, (by show (0 : Int) < 2147483647; decide), ?_⟩⟩
      refine ⟨_, rfl, (m : Int), rfl, by omega, by omega, for_range (n := m) (fun i σ H' => ∃ (c' sd : Int) (ns : List Int) (v4 v6 : Option V), σ = [some (.int c'), some (.int m), some (.int b), some (.ref p), v4, some (.int sd), v6] ∧
        0 ≤ sd ∧ sd < 2147483647 ∧ Same H H' ∧ H' p = some (.lst (ns.map V.int)) ∧ ns.length = i ∧ ∀ x ∈ ns, 0 ≤ x ∧ x < b)
        ⟨c, c % 2147483647, [], none, none, rfl, Int.emod_nonneg _ (by decide), Int.emod_lt_of_pos _ (by decide), s1, upd_same, rfl, fun x hx => by cases hx⟩ ?_ ?_⟩
      · rintro i σ H' hi ⟨c', sd, ns, v4, v6, rfl, d0, d1, sm, hp, hl, hx⟩
        refine ⟨_, rfl, _, _, rfl, rfl, .inl ⟨by omega, by omega⟩, _, _, rfl, rfl, _, rfl, _, _, rfl, rfl, .inl ⟨_, rfl, _, _, rfl, rfl, (by show (0 : Int) < 2147483647; decide), ?_⟩⟩
        have e0 : 0 ≤ (sd * 48271 + 12345 + (0 + (i : Int))) % 2147483647 := Int.emod_nonneg _ (by decide)
        have e1 : (sd * 48271 + 12345 + (0 + (i : Int))) % 2147483647 < 2147483647 := Int.emod_lt_of_pos _ (by decide)
        refine ⟨_, rfl, _, _, rfl, rfl, .inl ⟨by omega, by omega⟩, _, rfl, _, _, rfl, rfl, .inl ⟨by decide, by decide⟩, _, _, rfl, rfl, .inl ⟨_, rfl, _, _, rfl, rfl, (by show (0 : Int) < 2147483629; decide), ?_⟩⟩
        refine ⟨_, rfl, .inl ⟨rfl, _, SqL.of hp⟩, _, rfl, _, _, rfl, rfl, ⟨by decide, by decide⟩, .inl ⟨_, rfl, _, rfl, _, _, rfl, rfl, hb0, ?_⟩⟩
        refine ⟨p, _, _, rfl, rfl, hp, by rw [List.length_map]; exact small1000 (by omega), ?_⟩
        refine ⟨c', _, ns ++ [((sd * 48271 + 12345 + (0 + (i : Int))) % 2147483647 * 69621 + 977 * (0 + (i : Int))) % 2147483629 / 3 % b], _, _, rfl, e0, e1, same_mut sm np, ?_, by rw [List.length_append, hl]; rfl, ?_⟩
        · rw [upd_same, List.map_append]; rfl
        · intro x hm
          rcases List.mem_append.mp hm with h1 | h1
          · exact hx x h1
          · rw [List.mem_singleton.mp h1]
            exact ⟨Int.emod_nonneg _ (by omega), Int.emod_lt_of_pos _ hb0⟩
      · rintro σ H' ⟨c', sd, ns, v4, v6, rfl, d0, d1, sm, hp, hl, hx⟩
        exact ⟨_, rfl, q H' p ns sm np hp hl hx⟩
/-! ### _law_cell -/
theorem scCell : FnScope ["script", "k"] ["script", "k"] (defScope sCell) := ⟨rfl, rfl, rfl, by decide +kernel, rfl, by decide +kernel, by decide +kernel⟩
def spCell (K : PySem.W.Frag) : Sp := fun vs H Q _ => ∃ (a : Addr) (ns : List Int) (j : Nat), vs = [.ref a, .int (j : Int)] ∧ SqL K H a (ns.map V.int) ∧ Q (.int (ns.getD j 0)) H
theorem ok_cell {f : Addr} {fd : FuncData} {k : Nat} (F : Fun K "_law_cell" "_law_cell" sCell f fd) (T : Blt mg) : FnOk P w K mg base CX0 (k + 1) f fd ["script", "k"] (spCell K) := by
  refine F.ok scCell (fun vs H Q E h => ?_) (fun cdv A outer s H vs Q E hr h => ?_)
  · obtain ⟨a, ns, j, rfl, _⟩ := h
    rfl
  · obtain ⟨a, ns, j, rfl, hS, q⟩ := h
    refine ⟨_, pss_cons (ps_if (pt_cmpR op_lt (pv 1) (pe_callB call_len_seq (by rfl) T.len PySem.boot_len (pa_cons (pv 0) pa_nil)) (nomark _))
        (pss_one (ps_ret (pe_ix ix_list (pv 0) (pv 1) (fun _ _ => rfl)))) pss_nil) (pss_one (ps_ret pe_int)), ?_⟩
    refine ⟨_, rfl, _, rfl, a, _, rfl, .inl hS, _, _, rfl, rfl, _, rfl, ite2 (fun e => ?_) (fun e => ?_)⟩
    · have hj : j < ns.length := by
        have := of_decide_eq_true e
        rw [List.length_map] at this
        omega
      refine ⟨_, rfl, _, rfl, a, _, _, _, rfl, rfl, hS, atI_int hj, ?_⟩
      rw [List.getD_eq_getElem?_getD, List.getElem?_eq_getElem hj] at q
      exact q
    · have hj : ns.length ≤ j := by
        rcases Nat.lt_or_ge j ns.length with h | h
        · exact absurd (decide_eq_true (by rw [List.length_map]; omega)) e
        · exact h
      rw [List.getD_eq_getElem?_getD, List.getElem?_eq_none hj] at q
      exact q
/-- what a def's caller knows of it -/
structure Callee (P : Program) (w : World) (K : PySem.W.Frag) (mg : Str → Option Value) (base : Heap) (k : Nat) (x : Str) (ps : List Str) (sp : Sp) (f : Addr) (fd : FuncData) : Prop where
  ok : FnOk P w K mg base CX0 k f fd ps sp
  mg : mg x = some (.ref f)
  kp : PySem.W.keepIn K (.ref f) = true
  b : Binds K fd ps []
end
end My
/-! Sets of ints that a comprehension makes, one clause or two: one lemma for a clause's loop, whatever it adds to. -/
namespace My
open PySem PySem.Spec PyProof.Rows L2
/-- a clause's turn; what goes on where the tests hold, and where they don't -/
def turnOf (ps : Pos) (tg : Expr) (ifs : List Expr) (it : Value) (env : Env) (yes no : Sem Fin) : Sem Fin := do
  standAt ps
  match ← pyNext it with
  | none => pure (.done .next)
  | some u => do
    letOwnedTupleGo tg it u
    assign tg env u
    let go ← forIn ifs true (fun q r => if r = true then do let x ← isTrue q env (eval q env); pure (ForInStep.yield x) else pure (ForInStep.yield r))
    if go = true then yes else no
abbrev loopOf (C : Expr) (d : Nat) (it acc : Value) (env : Env) : Code := .compLoop C d it acc env
section
variable {Y : Cx}
/-- a clause's loop: tb says what `yes` does, from which Nx is reached -/
theorem walk_loop (hc : Y.calm = true) (hx : Y.xe = fun _ _ => False) {C : Expr} {d : Nat} {it : Addr} {acc : Value} {tg : Expr} {ifs : List Expr} {ps : Pos} {yes : Sem Fin} {J : It} {fp : List Addr} {tn : Nat → Heap → Prop}
    (T : Turn Y.prog Y.w Y.K tg J fp it tn) {g : TG} {tt : TT} (pg : PG Y tg g) (pt : PTs Y ifs tt)
    (hu : Y.A.under (loopOf C d (.ref it) acc Y.env) = Y.A) (hd : (model Y.prog Y.w).den (loopOf C d (.ref it) acc Y.env) = (compTurn C d (.ref it) acc Y.env).onRaise (fun e => do noteFrame e Y.env; theTreesLotGoes e))
    (eqn : compTurn C d (.ref it) acc Y.env = turnOf ps tg ifs (.ref it) Y.env yes (again (loopOf C d (.ref it) acc Y.env)))
    {pins : List (Addr × Obj)} (stat : ∀ G : Hp, (∀ b ∈ fp, G b = none) → ∀ b ∈ fp, FpOk Y pins G b) {σ : L2.St} {vs : List Nat} {tb : L2.St → Hp → (Hp → Prop) → Prop} {W : Nat → Nat → Hp → Prop} {Qs : Hp → Prop}
    (hW : ∀ i m G, W i m G → (J.stop i G ∧ Qs G) ∨ (J.go i G ∧ ∃ Nx : Hp → Prop, (∀ G', Nx G' → ∃ m', m' < m ∧ W (i + 1) m' G') ∧ ∀ x G', J.yld i G x G' → g x (wipe σ vs) G' fun σ2 G2 => wipe σ2 vs = wipe σ vs ∧ tt σ2 G2 fun b G3 => if b = true then tb σ2 G3 Nx else Nx G3))
    (hb : ∀ (pn : List (Addr × Obj)) (s : Shared) (σ2 : L2.St) (G : Hp) (Nx : Hp → Prop), Inv Y pn σ2 G s → tb σ2 G Nx →
      wpAny (model Y.prog Y.w) Y.A yes (fun r z => r = .again (loopOf C d (.ref it) acc Y.env) ∧ ∃ (σ3 : L2.St) (G' : Hp), Inv Y pn σ3 G' z ∧ (wipe σ2 vs).length = σ3.length ∧ (∀ (j : Nat) v, (wipe σ2 vs)[j]? = some (some v) → σ3[j]? = some (some v)) ∧ Nx G') (fun _ _ => False) s)
    {R : Result → Shared → Prop} (hR : ∀ z G, Inv Y pins (wipe σ vs) G z → Qs G → R (.ok .next) z)
    {m0 : Nat} {s0 : Shared} {G0 : Hp} (I0 : Inv Y pins (wipe σ vs) G0 s0) (st0 : tn 0 s0.heap) (f0 : ∀ b ∈ fp, G0 b = none) (w0 : W 0 m0 G0) :
    codeAny (model Y.prog Y.w) Y.A (loopOf C d (.ref it) acc Y.env) R s0 := by
  refine codeAny_loop rfl (fun m z => ∃ i G, Inv Y pins (wipe σ vs) G z ∧ tn i z.heap ∧ (∀ b ∈ fp, G b = none) ∧ W i m G) ?_ m0 ⟨0, G0, I0, st0, f0, w0⟩
  rintro m z ⟨i, G, Iz, stz, fz, wz⟩
  rw [hu, hd]
  refine wpAny_noted ?_
  rw [eqn]
  unfold turnOf
  refine wpAny_bind (wpAny_standAt (wpAny_bind ?_))
  rcases hW i m G wz with ⟨stop, qs⟩ | ⟨go, Nx, hNx, step⟩
  · refine thnF (T.done Y rfl rfl rfl hc i pins z _ G (fun _ _ => False) Iz (stat G fz) stz stop) fun r z1 ⟨er, I1⟩ => ?_
    subst er
    exact wpAny_pure (hR z1 G I1 qs)
  · refine thnF (T.item Y rfl rfl rfl hc i pins z _ G (fun _ _ => False) Iz (stat G fz) stz go) fun r z1 ⟨u, er, h1⟩ => ?_
    subst er
    refine wpAny_bind (thnF h1 fun _ z2 ⟨x, G2, I2, ru, y2, st2, f2⟩ => ?_)
    have P2 := I2.pinned (stat G2 f2) (T.obj _ _ st2)
    have h3 := pg.run _ z2 _ G2 x u _ P2 ru (step x G2 y2)
    rw [hx] at h3
    refine wpAny_bind (thnF h3 fun _ z3 ⟨σ3, G3, I3, w3, q3⟩ => ?_)
    have h4 := pt.run _ z3 σ3 G3 _ I3 q3
    rw [hx] at h4
    refine wpAny_bind (thnF h4 fun b z4 ⟨G4, I4, q4⟩ => ?_)
    -- from what a turn leaves to the next one
    have close : ∀ {σ5 : L2.St} {z5 : Shared} {G5 : Hp}, Inv Y (pins ++ pinsAt fp z2.heap) σ5 G5 z5 → (wipe σ vs).length = σ5.length → (∀ (j : Nat) v, (wipe σ vs)[j]? = some (some v) → σ5[j]? = some (some v)) → Nx G5 →
        ∃ m', m' < m ∧ ∃ i G, Inv Y pins (wipe σ vs) G z5 ∧ tn i z5.heap ∧ (∀ b ∈ fp, G b = none) ∧ W i m' G := fun {σ5 z5 G5} I5 len known nx => by
      obtain ⟨m', lt, w'⟩ := hNx G5 nx
      have held : ∀ b ∈ fp, ∀ o, z2.heap.get? b = some o → z5.heap.get? b = some o ∧ G5 b = none := fun b hb o e => by
        have y := I5.pin (b, o) (List.mem_append_right _ (List.mem_append_right _ (mem_pinsAt hb e)))
        exact ⟨y.1, y.2.1⟩
      refine ⟨m', lt, i + 1, G5, I5.unpinned.weak len known, T.keep _ _ _ st2 (fun b hb o e => (held b hb o e).1), fun b hb => ?_, w'⟩
      obtain ⟨o, e, _⟩ := T.obj _ _ st2 b hb
      exact (held b hb o e).2
    have len3 : (wipe σ vs).length = σ3.length := by rw [← w3, wipe_length]
    cases b with
    | false =>
      rw [if_neg Bool.false_ne_true] at q4
      refine wpAny_pure ⟨rfl, close I4 len3 (fun j v e => ?_) q4⟩
      rw [← w3] at e
      exact (wipe_some e).1
    | true =>
      rw [if_pos rfl] at q4
      refine thnF (hb _ z4 σ3 G4 Nx I4 q4) fun r z5 ⟨er, σ5, G5, I5, len5, known, nx⟩ => ?_
      subst er
      refine ⟨rfl, close I5 ?_ (fun j v e => ?_) nx⟩
      · rw [← w3]
        exact len5
      · rw [← w3] at e
        exact known j v e
end
/-! ### what stands around the block -/
section
variable {X : Cx}
/-- the new set, and the block over it -/
theorem set_block {pins : List (Addr × Obj)} {σ : L2.St} {G2 : Hp} {z2 : Shared} {scope : Scope} {own : List (Str × Nat)} {tg : Expr} {J : It} {fp : List Addr} {it : Addr} {tn : Nat → Heap → Prop} (hN : X.N.Nodup) (ok : BlkOk X.N X.env.scope scope own) (I2 : Inv X pins σ G2 z2)
    (T : Turn X.prog X.w X.K tg J fp it tn) (st2 : tn 0 z2.heap) (f2 : ∀ b ∈ fp, FpOk X pins G2 b) {z3 : Shared} (e3 : z3 = { z2 with heap := z2.heap.push { cls := .type "set", dict := none, data := .set #[] 0 (.fresh 0 0 (!X.w.params.followText "set-order")) } })
    {cl : List (Str × Addr)} (ecl : cl = cellsFrom (z3.heap.objs.size + 1) scope.names (cloFrom X.env.cells scope.names [])) {ce : Env} (ece : ce = compEnvC scope cl z3.heap.objs.size X.env) {G3 : Hp} (eG : G3 = upd G2 z2.heap.objs.size (SetO X.w z2.heap.objs.size (fun _ => false) 0)) :
    Inv (X.blk z3 G3 scope ce fp) [] (wipe σ (own.map (·.2))) G3 { z3 with heap := pushCells (z3.heap.push { cls := .type "dict", data := .dict #[] }) scope.names } ∧ tn 0 (pushCells (z3.heap.push { cls := .type "dict", data := .dict #[] }) scope.names) ∧ (∀ b ∈ fp, G3 b = none) ∧
    (∀ G : Hp, (∀ b ∈ fp, G b = none) → ∀ b ∈ fp, FpOk (X.blk z3 G3 scope ce fp) [] G b) ∧
    ∀ (τ : L2.St) (z6 : Shared) (G6 : Hp), Inv (X.blk z3 G3 scope ce fp) [] τ G6 z6 → Inv X pins σ G6 z6 ∧ FpOk X pins G6 z3.heap.objs.size ∧ ∃ m, z6.heap.Ns z3.heap.objs.size m := by
  have old : ∀ b ∈ fp, b < z2.heap.objs.size := fun b hb => by
    obtain ⟨o, e, _⟩ := T.obj _ _ st2 b hb
    exact Heap.lt_size e
  have I3 : Inv X pins σ G3 z3 := by
    rw [eG, e3]
    exact I2.laid (t' := z2.toks) (fun b o e => Heap.get?_push_of_some _ e) (Nat.le_refl _) (setO_new (setR_fresh X.w))
  have f3 : ∀ b ∈ fp, FpOk X pins G3 b ∧ b < z3.heap.objs.size := fun b hb => by
    have lt := old b hb
    refine ⟨⟨?_, (f2 b hb).2⟩, ?_⟩
    · rw [eG, upd_ne (Nat.ne_of_lt lt)]
      exact (f2 b hb).1
    · rw [e3]
      show b < (z2.heap.push _).objs.size
      rw [Heap.size_push]
      exact Nat.lt_succ_of_lt lt
  have I4 := block_start I3 ok hN f3
  rw [← ecl, ← ece] at I4
  refine ⟨I4, T.keep _ _ _ st2 fun b _ o e => pushCells_keeps _ _ _ _ (Heap.get?_push_of_some _ ?_), fun b hb => (f3 b hb).1.1, fun G fG b hb => ?_, fun τ z6 G6 I6 => ?_⟩
  · rw [e3]
    exact Heap.get?_push_of_some _ e
  · exact ⟨fG b hb, (I4.ok.exf b hb).1, I4.ok.exfs b hb, .inl hb, fun x c e => (I4.ok.exf b hb).2 x c e, fun p hp => absurd (show p ∈ ([] : List (Addr × Obj)) ++ [] from hp) (by simp)⟩
  · have cL : ce.locals = z3.heap.objs.size := by rw [ece]; rfl
    have fr : G6 z3.heap.objs.size = none := by
      have y : G6 ce.locals = none := I6.free
      rw [cL] at y
      exact y
    obtain ⟨m, hn, _⟩ := I6.loc
    have hn : z6.heap.Ns ce.locals m := hn
    rw [cL] at hn
    exact ⟨I3.call' (ch := fp) I6.os I6.base I6.hok I6.bare fun b hb => ⟨(f3 b hb).1.2.2.2.1, (f3 b hb).1.2.1, (f3 b hb).1.2.2.2.2.1, (f3 b hb).1.2.2.2.2.2⟩, I3.fpOk (Nat.le_refl _) fr, m, hn⟩
end
end My
/-! {e for x in a} and {e for x in a for y in b}, e an int. -/
namespace My
open PySem PySem.Spec PyProof.Rows L2
section
variable {Y : Cx}
theorem add_int {pins : List (Addr × Obj)} {σ : L2.St} {G : Hp} {z : Shared} {E : Value → Shared → Prop} {D : Addr} {S : Int → Bool} {n : Nat} {k : Int} {tk : Tok} {Q : Value → Shared → Prop} (I : Inv Y pins σ G z) (hD : G D = some (SetO Y.w D S n)) (room : n + 1 < scanBound)
    (h : ∀ z', Inv Y pins σ (upd G D (SetO Y.w D (fun j => S j || decide (j = k)) (if S k = true then n else n + 1))) z' → Q .none z') : wpAny (model Y.prog Y.w) Y.A (call (.builtin "set.add") [.ref D, .int k tk]) Q E z := by
  refine setR_add (setO_get I hD) room fun h' sb new => ?_
  obtain ⟨o, es, ep, t, ho, r⟩ := id new
  exact h _ (I.write (e := D) (t' := z.toks + 1) (by rw [hD]; trivial) (.inl rfl) (fun b u hb hu => (sb.2 b hb).trans hu) ⟨o, ho⟩ (setO_new new))
/-- an item goes into the set at D -/
def addT (w : World) (te : TE) (D : Addr) : L2.St → Hp → (Hp → Prop) → Prop := fun σ G Nx => te σ G fun y G1 => ∃ (k : Int) (S : Int → Bool) (n : Nat), y = .int k ∧ G1 D = some (SetO w D S n) ∧ n + 1 < scanBound ∧ Nx (upd G1 D (SetO w D (fun j => S j || decide (j = k)) (if S k = true then n else n + 1)))
theorem add_run {elt : Expr} {te : TE} (pe : PE Y elt te) (hx : Y.xe = fun _ _ => False) {D : Addr} {C : Code} {vs : List Nat} (pn : List (Addr × Obj)) (s : Shared) (σ2 : L2.St) (G : Hp) (Nx : Hp → Prop) (I : Inv Y pn σ2 G s) (h : addT Y.w te D σ2 G Nx) :
    wpAny (model Y.prog Y.w) Y.A (do
      (do
        let got ← eval elt Y.env
        standAt elt.pos
        let _ ← call (.builtin "set.add") [.ref D, got])
      again C)
      (fun r z => r = .again C ∧ ∃ (σ3 : L2.St) (G' : Hp), Inv Y pn σ3 G' z ∧ (wipe σ2 vs).length = σ3.length ∧ (∀ (j : Nat) v, (wipe σ2 vs)[j]? = some (some v) → σ3[j]? = some (some v)) ∧ Nx G') (fun _ _ => False) s := by
  have h1 := pe.run pn s σ2 G _ I h
  rw [hx] at h1
  refine wpAny_bind (wpAny_bind (thnF h1 fun got s1 ⟨y, G1, I1, ry, k, S, n, ey, hD, room, nx⟩ => ?_))
  subst ey
  obtain ⟨tk, et⟩ : ∃ tk, got = Value.int k tk := ry
  subst et
  refine wpAny_bind (wpAny_standAt (wpAny_bind (add_int I1 hD room fun s2 I2 => ?_)))
  exact wpAny_pure (wpAny_pure ⟨rfl, σ2, _, I2, wipe_length _ _, fun j v e => (wipe_some e).1, nx⟩)
end
section
variable {X : Cx}
def tSet1 (w : World) (wi : TI) (g : TG) (tt : TT) (te : TE) (vs : List Nat) : TE := fun σ H Q => wi σ H fun J H1 => ∀ D, H1 D = none → ∃ W : Nat → Nat → Hp → Prop, (∃ m, W 0 m (upd H1 D (SetO w D (fun _ => false) 0))) ∧ ∀ i m G, W i m G →
  (J.stop i G ∧ Q (.ref D) G) ∨ (J.go i G ∧ ∃ Nx : Hp → Prop, (∀ G', Nx G' → ∃ m', m' < m ∧ W (i + 1) m' G') ∧ ∀ x G', J.yld i G x G' → g x (wipe σ vs) G' fun σ2 G2 => wipe σ2 vs = wipe σ vs ∧ tt σ2 G2 fun b G3 => if b = true then addT w te D σ2 G3 Nx else Nx G3)
/-- the second clause's loop, from which the first one's Nx is reached -/
def inT (w : World) (wi : TI) (g : TG) (tt : TT) (te : TE) (vs : List Nat) (D : Addr) : L2.St → Hp → (Hp → Prop) → Prop := fun σ G Nx => wi σ G fun J G1 => ∃ W : Nat → Nat → Hp → Prop, (∃ m, W 0 m G1) ∧ ∀ i m G, W i m G →
  (J.stop i G ∧ Nx G) ∨ (J.go i G ∧ ∃ Nx1 : Hp → Prop, (∀ G', Nx1 G' → ∃ m', m' < m ∧ W (i + 1) m' G') ∧ ∀ x G', J.yld i G x G' → g x (wipe σ vs) G' fun σ2 G2 => wipe σ2 vs = wipe σ vs ∧ tt σ2 G2 fun b G3 => if b = true then addT w te D σ2 G3 Nx1 else Nx1 G3)
def tSet2 (w : World) (wi : TI) (g : TG) (tt : TT) (wi1 : TI) (g1 : TG) (tt1 : TT) (te : TE) (vs vs1 : List Nat) : TE := fun σ H Q => wi σ H fun J H1 => ∀ D, H1 D = none → ∃ W : Nat → Nat → Hp → Prop, (∃ m, W 0 m (upd H1 D (SetO w D (fun _ => false) 0))) ∧ ∀ i m G, W i m G →
  (J.stop i G ∧ Q (.ref D) G) ∨ (J.go i G ∧ ∃ Nx : Hp → Prop, (∀ G', Nx G' → ∃ m', m' < m ∧ W (i + 1) m' G') ∧ ∀ x G', J.yld i G x G' → g x (wipe σ vs) G' fun σ2 G2 => wipe σ2 vs = wipe σ vs ∧ tt σ2 G2 fun b G3 => if b = true then inT w wi1 g1 tt1 te vs1 D σ2 G3 Nx else Nx G3)
/-- in the block, wherever it stands -/
abbrev blkOf (X : Cx) (z : Shared) (H : Hp) (scope : Scope) (C : Addr) (cl : List (Str × Addr)) (fp : List Addr) : Cx := X.blk z H scope (compEnvC scope cl C X.env) fp
abbrev InPG (X : Cx) (scope : Scope) (tg : Expr) (g : TG) : Prop := ∀ (z : Shared) (H : Hp) (C : Addr) (cl : List (Str × Addr)) (fp : List Addr), PG (blkOf X z H scope C cl fp) tg g
abbrev InPT (X : Cx) (scope : Scope) (ifs : List Expr) (tt : TT) : Prop := ∀ (z : Shared) (H : Hp) (C : Addr) (cl : List (Str × Addr)) (fp : List Addr), PTs (blkOf X z H scope C cl fp) ifs tt
abbrev InPE (X : Cx) (scope : Scope) (e : Expr) (te : TE) : Prop := ∀ (z : Shared) (H : Hp) (C : Addr) (cl : List (Str × Addr)) (fp : List Addr), PE (blkOf X z H scope C cl fp) e te
abbrev InPI (X : Cx) (scope : Scope) (tg it : Expr) (wi : TI) : Prop := ∀ (z : Shared) (H : Hp) (C : Addr) (cl : List (Str × Addr)) (fp : List Addr), PI (blkOf X z H scope C cl fp) tg it wi
/-- the rule of one clause -/
theorem pe_set1 {elt tg iter : Expr} {ifs : List Expr} {scope : Scope} {own : List (Str × Nat)} {pos : Pos} {wi : TI} {g : TG} {tt : TT} {te : TE} (hc : X.calm = true) (hN : X.N.Nodup) (hi : PI X tg iter wi) (ok : BlkOk X.N X.env.scope scope own)
    (hg : InPG X scope tg g)
    (ht : InPT X scope ifs tt)
    (he : InPE X scope elt te) (hs : ∀ v, foldedSetIterable iter X.env v = pure v := by intro _; rfl) :
    PE X (.SetComp elt [⟨tg, iter, ifs, 0⟩] scope pos) (tSet1 X.w wi g tt te (own.map (·.2))) := by
  refine ⟨fun pins z0 σ H Q I h => ?_⟩
  rw [PpSet.eval_SetComp]
  refine wpAny_comprehension_free (use := none) rfl hs (closure_ok fun y hy e => (ok.free y hy e).elim (fun q => I.ok.has _ (.inl q)) fun q => I.ok.has _ (.inr q)) ok.kind (fun y hy e => by rw [ok.uniq y hy, e])
    (thn (hi.run pins z0 σ H _ I h) fun _ _ h1 => thn h1 fun itv z2 h2 => ?_)
  obtain ⟨it, fp, tn, J, G2, e, I2, T, st2, f2, q⟩ := h2
  subst e
  refine PpSet.newSet_ok (newEnv_comp ?_)
  obtain ⟨W, ⟨m0, w0⟩, turns⟩ := q z2.heap.objs.size (I2.hok.fresh (Nat.le_refl _))
  obtain ⟨z3, e3⟩ : ∃ z3 : Shared, { z2 with heap := z2.heap.push { cls := .type "set", dict := none, data := .set #[] 0 (.fresh 0 0 (!X.w.params.followText "set-order")) } } = z3 := ⟨_, rfl⟩
  rw [e3]
  obtain ⟨cl, ecl⟩ : ∃ cl, cellsFrom (z3.heap.objs.size + 1) scope.names (cloFrom X.env.cells scope.names []) = cl := ⟨_, rfl⟩
  obtain ⟨G3, eG⟩ : ∃ G3, upd G2 z2.heap.objs.size (SetO X.w z2.heap.objs.size (fun _ => false) 0) = G3 := ⟨_, rfl⟩
  obtain ⟨I4, st4, fr4, stat, out⟩ := set_block hN ok I2 T st2 f2 e3.symm ecl.symm (ce := compEnvC scope cl z3.heap.objs.size X.env) rfl eG.symm
  rw [eG] at w0
  have pg := hg z3 G3 z3.heap.objs.size cl fp
  have pt := ht z3 G3 z3.heap.objs.size cl fp
  have pe := he z3 G3 z3.heap.objs.size cl fp
  show codeAny _ _ (.compStart (.SetComp elt [⟨tg, iter, ifs, 0⟩] scope pos) 0 (.ref it) (.ref z2.heap.objs.size) (compEnvC scope (cellsFrom (z3.heap.objs.size + 1) scope.names (cloFrom X.env.cells scope.names [])) z3.heap.objs.size X.env)) _ _
  rw [ecl]
  have loop := walk_loop (Y := X.blk z3 G3 scope (compEnvC scope cl z3.heap.objs.size X.env) fp) hc rfl (C := .SetComp elt [⟨tg, iter, ifs, 0⟩] scope pos) (d := 0) (acc := .ref z2.heap.objs.size) T pg pt rfl rfl rfl stat (tb := addT X.w te z2.heap.objs.size) turns (fun pn y σ2 G Nx Iy hy => add_run pe rfl pn y σ2 G Nx Iy hy)
    (R := compPost (model X.prog X.w) X.A X.xe none (EP X pins σ Q) (.ref z2.heap.objs.size) z3.heap.objs.size) (fun z6 G6 I6 q6 => ?_) I4 st4 fr4 w0
  · exact PpSet.codeAny_compStart_set loop (T.self X.A 0 _ _ _ st4 loop)
  · obtain ⟨I7, ⟨k0, k1, k2, k3, k4, k5⟩, m, hn⟩ := out _ z6 G6 I6
    exact ⟨m, hn, fun h'' sb => ⟨.ref z2.heap.objs.size, G6, I7.turned (t' := z6.toks) (fun b o hb e => (sb.2 b hb).trans e) k0 k1 k3 k4 k5, rfl, q6⟩⟩
/-- the second clause begins: its iterator is asked for itself once more, or not -/
theorem start1 {prog : Program} {w : World} {A : Around} {R : Result → Shared → Prop} {z : Shared} {env : Env} {elt ta ia tb ib : Expr} {fa fb : List Expr} {scope : Scope} {pos : Pos} {it acc : Value}
    (h0 : codeAny (model prog w) A (loopOf (.SetComp elt [⟨ta, ia, fa, 0⟩, ⟨tb, ib, fb, 0⟩] scope pos) 1 it acc env) R z)
    (h1 : wpAny (model prog w) A (pyIter it) (fun it2 z2 => codeAny (model prog w) A (loopOf (.SetComp elt [⟨ta, ia, fa, 0⟩, ⟨tb, ib, fb, 0⟩] scope pos) 1 it2 acc env) R z2) (notedBy (model prog w) A env fun ev z2 => R (.error ev) z2) z) :
    codeAny (model prog w) A (.compStart (.SetComp elt [⟨ta, ia, fa, 0⟩, ⟨tb, ib, fb, 0⟩] scope pos) 1 it acc env) R z := by
  refine codeAny_of_tree ?_
  show wpAny _ _ ((compStart (.SetComp elt [⟨ta, ia, fa, 0⟩, ⟨tb, ib, fb, 0⟩] scope pos) 1 it acc env).onRaise fun ev => do noteFrame ev env; standAt theWindowsPlace) _ _ z
  refine wpAny_notedAt ?_
  unfold compStart
  show wpAny _ _ (ask >>= _) _ _ z
  refine wpAny_bind (wpAny_askSetting (wpAny_ite ?_)); split
  · first
      | exact wpAny_bind (wpAny_pure (wpAny_pure ⟨rfl, h0⟩))
      | exact wpAny_pure ⟨rfl, h0⟩
  · first
      | exact wpAny_bind (wpAny_rule (wpAny_bind (wpAny_standAt (wpAny_bind (wpAny_mono h1 (fun _ _ y => wpAny_pure ⟨rfl, y⟩) fun _ _ y => y)))))
      | (refine wpAny_bind (wpAny_rule ?_); show wpAny _ _ (standAt ib.pos >>= _) _ _ z; exact wpAny_bind (wpAny_standAt (wpAny_bind (wpAny_mono h1 (fun _ _ y => wpAny_pure ⟨rfl, y⟩) fun _ _ y => y))))
/-- the second clause's whole loop -/
theorem in_run {Y : Cx} (hc : Y.calm = true) (hx : Y.xe = fun _ _ => False) {elt ta ia tb ib : Expr} {fa fb : List Expr} {scope : Scope} {pos : Pos} {it : Value} {D : Addr} {wi : TI} {g : TG} {tt : TT} {te : TE} {vs vs1 : List Nat} (hv : ∀ i ∈ vs1, i ∈ vs) (pi : PI Y tb ib wi) (pg : PG Y tb g) (pt : PTs Y fb tt) (pe : PE Y elt te) (hs : ∀ v, foldedSetIterable ib Y.env v = pure v)
    (ua : Y.A.under (loopOf (.SetComp elt [⟨ta, ia, fa, 0⟩, ⟨tb, ib, fb, 0⟩] scope pos) 1 (.ref 0) (.ref D) Y.env) = Y.A)
    (pn : List (Addr × Obj)) (s : Shared) (σ2 : L2.St) (G : Hp) (Nx : Hp → Prop) (I : Inv Y pn σ2 G s) (h : inT Y.w wi g tt te vs1 D σ2 G Nx) :
    wpAny (model Y.prog Y.w) Y.A (do
      let got ← eval ib Y.env
      standAt ib.pos
      let got ← foldedSetIterable ib Y.env got
      let _ ← runOwn (.compStart (.SetComp elt [⟨ta, ia, fa, 0⟩, ⟨tb, ib, fb, 0⟩] scope pos) 1 (← holding [got] (pyIter got)) (.ref D) Y.env) Y.env
      again (loopOf (.SetComp elt [⟨ta, ia, fa, 0⟩, ⟨tb, ib, fb, 0⟩] scope pos) 0 it (.ref D) Y.env))
      (fun r z => r = .again (loopOf (.SetComp elt [⟨ta, ia, fa, 0⟩, ⟨tb, ib, fb, 0⟩] scope pos) 0 it (.ref D) Y.env) ∧ ∃ (σ3 : L2.St) (G' : Hp), Inv Y pn σ3 G' z ∧ (wipe σ2 vs).length = σ3.length ∧ (∀ (j : Nat) v, (wipe σ2 vs)[j]? = some (some v) → σ3[j]? = some (some v)) ∧ Nx G') (fun _ _ => False) s := by
  have h1 := pi.run pn s σ2 G _ I h
  rw [hx] at h1
  refine wpAny_bind (thnF h1 fun got s1 h2 => ?_)
  refine wpAny_bind (wpAny_standAt (wpAny_bind (wpAny_of_eq (hs got) (wpAny_bind (wpAny_holding (thnF h2 fun itv s2 h3 => ?_))))))
  obtain ⟨jt, fp, tn, J, G2, e, I2, T, st2, f2, W, ⟨m0, w0⟩, turns⟩ := h3
  subst e
  refine wpAny_bind (wpAny_runOwn ?_)
  rw [Around.mark_none]
  have loop := walk_loop (Y := Y) hc hx (C := .SetComp elt [⟨ta, ia, fa, 0⟩, ⟨tb, ib, fb, 0⟩] scope pos) (d := 1) (acc := .ref D) T pg pt ua rfl rfl (fun G fG b hb => ⟨fG b hb, (f2 b hb).2⟩) (tb := addT Y.w te D) turns (fun pn y σ2 G Nx Iy hy => add_run pe hx pn y σ2 G Nx Iy hy)
    (R := fun r z => ∃ f, r = .ok f ∧ ∃ G', Inv Y pn (wipe σ2 vs1) G' z ∧ Nx G') (fun z6 G6 I6 q6 => ⟨_, rfl, G6, I6, q6⟩) (I2.weak (wipe_length _ _) fun j v e => (wipe_some e).1) st2 (fun b hb => (f2 b hb).1) w0
  refine codeAny_mono (start1 loop (T.self Y.A 0 _ _ _ st2 loop)) fun r z hr => ?_
  obtain ⟨f, er, G', I', nx⟩ := hr
  subst er
  have fin : (fun r z => r = Fin.again (loopOf (.SetComp elt [⟨ta, ia, fa, 0⟩, ⟨tb, ib, fb, 0⟩] scope pos) 0 it (.ref D) Y.env) ∧ ∃ (σ3 : L2.St) (G' : Hp), Inv Y pn σ3 G' z ∧ (wipe σ2 vs).length = σ3.length ∧ (∀ (j : Nat) v, (wipe σ2 vs)[j]? = some (some v) → σ3[j]? = some (some v)) ∧ Nx G') (Fin.again (loopOf (.SetComp elt [⟨ta, ia, fa, 0⟩, ⟨tb, ib, fb, 0⟩] scope pos) 0 it (.ref D) Y.env)) z := by
    refine ⟨rfl, wipe σ2 vs1, G', I', by rw [wipe_length, wipe_length], fun j v e => ?_, nx⟩
    obtain ⟨k1, k2⟩ := wipe_some e
    rw [wipe_out fun y => k2 (hv j y)]
    exact k1
  first
    | exact wpAny_pure fin
    | exact wpAny_bind (wpAny_pure (wpAny_pure fin))
/-- the rule of two clauses -/
theorem pe_set2 {elt tg iter tg1 iter1 : Expr} {ifs ifs1 : List Expr} {scope : Scope} {own : List (Str × Nat)} {vs1 : List Nat} {pos : Pos} {wi wi1 : TI} {g g1 : TG} {tt tt1 : TT} {te : TE} (hc : X.calm = true) (hN : X.N.Nodup) (hi : PI X tg iter wi) (ok : BlkOk X.N X.env.scope scope own) (hv : ∀ i ∈ vs1, i ∈ own.map (·.2))
    (hg : InPG X scope tg g)
    (ht : InPT X scope ifs tt)
    (hi1 : InPI X scope tg1 iter1 wi1)
    (hg1 : InPG X scope tg1 g1)
    (ht1 : InPT X scope ifs1 tt1)
    (he : InPE X scope elt te) (hs : ∀ v, foldedSetIterable iter X.env v = pure v := by intro _; rfl) (hs1 : ∀ env v, foldedSetIterable iter1 env v = pure v := by intro _ _; rfl) :
    PE X (.SetComp elt [⟨tg, iter, ifs, 0⟩, ⟨tg1, iter1, ifs1, 0⟩] scope pos) (tSet2 X.w wi g tt wi1 g1 tt1 te (own.map (·.2)) vs1) := by
  refine ⟨fun pins z0 σ H Q I h => ?_⟩
  rw [PpSet.eval_SetComp]
  refine wpAny_comprehension_free (use := none) rfl hs (closure_ok fun y hy e => (ok.free y hy e).elim (fun q => I.ok.has _ (.inl q)) fun q => I.ok.has _ (.inr q)) ok.kind (fun y hy e => by rw [ok.uniq y hy, e])
    (thn (hi.run pins z0 σ H _ I h) fun _ _ h1 => thn h1 fun itv z2 h2 => ?_)
  obtain ⟨it, fp, tn, J, G2, e, I2, T, st2, f2, q⟩ := h2
  subst e
  refine PpSet.newSet_ok (newEnv_comp ?_)
  obtain ⟨W, ⟨m0, w0⟩, turns⟩ := q z2.heap.objs.size (I2.hok.fresh (Nat.le_refl _))
  obtain ⟨z3, e3⟩ : ∃ z3 : Shared, { z2 with heap := z2.heap.push { cls := .type "set", dict := none, data := .set #[] 0 (.fresh 0 0 (!X.w.params.followText "set-order")) } } = z3 := ⟨_, rfl⟩
  rw [e3]
  obtain ⟨cl, ecl⟩ : ∃ cl, cellsFrom (z3.heap.objs.size + 1) scope.names (cloFrom X.env.cells scope.names []) = cl := ⟨_, rfl⟩
  obtain ⟨G3, eG⟩ : ∃ G3, upd G2 z2.heap.objs.size (SetO X.w z2.heap.objs.size (fun _ => false) 0) = G3 := ⟨_, rfl⟩
  obtain ⟨I4, st4, fr4, stat, out⟩ := set_block hN ok I2 T st2 f2 e3.symm ecl.symm (ce := compEnvC scope cl z3.heap.objs.size X.env) rfl eG.symm
  rw [eG] at w0
  show codeAny _ _ (.compStart (.SetComp elt [⟨tg, iter, ifs, 0⟩, ⟨tg1, iter1, ifs1, 0⟩] scope pos) 0 (.ref it) (.ref z2.heap.objs.size) (compEnvC scope (cellsFrom (z3.heap.objs.size + 1) scope.names (cloFrom X.env.cells scope.names [])) z3.heap.objs.size X.env)) _ _
  rw [ecl]
  have loop := walk_loop (Y := X.blk z3 G3 scope (compEnvC scope cl z3.heap.objs.size X.env) fp) hc rfl (C := .SetComp elt [⟨tg, iter, ifs, 0⟩, ⟨tg1, iter1, ifs1, 0⟩] scope pos) (d := 0) (acc := .ref z2.heap.objs.size) T (hg z3 G3 _ cl fp) (ht z3 G3 _ cl fp) rfl rfl rfl stat (tb := inT X.w wi1 g1 tt1 te vs1 z2.heap.objs.size) turns
    (fun pn y σ2 G Nx Iy hy => in_run (Y := X.blk z3 G3 scope (compEnvC scope cl z3.heap.objs.size X.env) fp) hc rfl hv (hi1 z3 G3 _ cl fp) (hg1 z3 G3 _ cl fp) (ht1 z3 G3 _ cl fp) (he z3 G3 _ cl fp) (hs1 _) rfl pn y σ2 G Nx Iy hy)
    (R := compPost (model X.prog X.w) X.A X.xe none (EP X pins σ Q) (.ref z2.heap.objs.size) z3.heap.objs.size) (fun z6 G6 I6 q6 => ?_) I4 st4 fr4 w0
  · exact PpSet.codeAny_compStart_set loop (T.self X.A 0 _ _ _ st4 loop)
  · obtain ⟨I7, ⟨k0, k1, k2, k3, k4, k5⟩, m, hn⟩ := out _ z6 G6 I6
    exact ⟨m, hn, fun h'' sb => ⟨.ref z2.heap.objs.size, G6, I7.turned (t' := z6.toks) (fun b o hb e => (sb.2 b hb).trans e) k0 k1 k3 k4 k5, rfl, q6⟩⟩
end
end My
namespace My
open PySem PySem.Spec PyProof.Rows L2
abbrev sPeriod : Stmt := top 2 /-common_period-/
abbrev sPlaces : Stmt := top 9 /-places_of-/
theorem rgC_pos {i j c : Int} (c0 : 0 < c) (c1 : c < 1000) (hi : -1000 ≤ i ∧ i ≤ 1000) (hj : -1000 ≤ j ∧ j ≤ 1000) : RgC i j c (if i < j then (j - i - 1) / c + 1 else 0).toNat := by
  have e : Builtin.Range.rangeSize i j c = if i < j then (j - i - 1) / c + 1 else 0 := by
    unfold Builtin.Range.rangeSize
    rw [if_pos (show c > 0 from c0)]
  have q : i < j → 0 ≤ (j - i - 1) / c ∧ (j - i - 1) / c ≤ 2000 := fun h => ⟨Int.ediv_nonneg (by omega) (by omega), Int.le_trans (Int.ediv_le_self _ (by omega)) (by omega)⟩
  refine ⟨by omega, by omega, ?_, ?_⟩
  · unfold Builtin.Range.small
    rw [e]
    simp only [Builtin.Range.rangeFitsLong, Bool.and_eq_true, Bool.or_eq_true, decide_eq_true_eq, beq_iff_eq, if_pos (show c > 0 from c0)]
    by_cases h : i < j
    · have := q h
      rw [if_pos h]
      omega
    · rw [if_neg h]
      omega
  · rw [e]
    by_cases h : i < j
    · have := q h
      rw [if_pos h]
      omega
    · rw [if_neg h]
      rfl
/-- a window that has begun, as the patterns want it -/
structure WB (w : Win) (b : Int) : Prop where
  o0 : 0 ≤ w.1
  o1 : w.1 ≤ b
  l0 : 0 ≤ w.2.1
  l1 : w.2.1 ≤ 100
  p0 : 1 ≤ w.2.2
  p1 : w.2.2 ≤ 100
theorem places_mem {w : Win} {b : Int} {n : Nat} (h : WB w b) {x : Int} (m : Int) (hm : m = if w.2.2 < w.2.1 then w.2.2 else w.2.1) : (∃ k : Nat, k < (if -((b - w.1) % w.2.2) < (n : Int) then ((n : Int) - -((b - w.1) % w.2.2) - 1) / w.2.2 + 1 else 0).toNat ∧ (0 ≤ x ∧ -((b - w.1) % w.2.2) + (k : Int) * w.2.2 ≤ x) ∧ x < (n : Int) ∧ x < -((b - w.1) % w.2.2) + (k : Int) * w.2.2 + m) ↔ 0 ≤ x ∧ x < n ∧ hasT w (b + x) = true := by
  obtain ⟨o, l, p⟩ := w
  have o0 : 0 ≤ o := h.o0
  have o1 : o ≤ b := h.o1
  have l0 : 0 ≤ l := h.l0
  have p0 : 1 ≤ p := h.p0
  have hm : m = if p < l then p else l := hm
  show (∃ k : Nat, k < (if -((b - o) % p) < (n : Int) then ((n : Int) - -((b - o) % p) - 1) / p + 1 else 0).toNat ∧ (0 ≤ x ∧ -((b - o) % p) + (k : Int) * p ≤ x) ∧ x < (n : Int) ∧ x < -((b - o) % p) + (k : Int) * p + m) ↔ _
  have r0 := Int.emod_nonneg (b - o) (show p ≠ 0 by omega)
  have r1 := Int.emod_lt_of_pos (b - o) (show 0 < p by omega)
  have er : b - o = p * ((b - o) / p) + (b - o) % p := (Int.mul_ediv_add_emod _ _).symm
  obtain ⟨r, hr⟩ : ∃ r, (b - o) % p = r := ⟨_, rfl⟩
  obtain ⟨q, hq⟩ : ∃ q, (b - o) / p = q := ⟨_, rfl⟩
  rw [hr] at r0 r1 er ⊢
  rw [hq] at er
  have ex : b + x - o = (x + r) + p * q := by omega
  have em : (b + x - o) % p = (x + r) % p := by rw [ex, Int.add_mul_emod_self_left]
  have ht : hasT (o, l, p) (b + x) = true ↔ o ≤ b + x ∧ (x + r) % p < l := by
    unfold hasT
    rw [Bool.and_eq_true, decide_eq_true_eq, decide_eq_true_eq]
    show o ≤ b + x ∧ (b + x - o) % p < l ↔ _
    rw [em]
  rw [ht]
  have mp : (x + r) % p < p := Int.emod_lt_of_pos _ (by omega)
  constructor
  · rintro ⟨k, hk, ⟨x0, x1⟩, x2, x3⟩
    refine ⟨x0, x2, by omega, ?_⟩
    have : (x + r) % p = x + r - k * p := by
      have e2 : x + r = (x + r - k * p) + p * k := by rw [Int.mul_comm p]; omega
      rw [e2, Int.add_mul_emod_self_left, Int.emod_eq_of_lt (by omega) (by split at hm <;> omega)]
      omega
    rw [this]
    split at hm <;> omega
  · rintro ⟨x0, x2, _, x4⟩
    have d := Int.mul_ediv_add_emod (x + r) p
    have k0 : 0 ≤ (x + r) / p := Int.ediv_nonneg (by omega) (by omega)
    have k1 : (x + r) / p ≤ ((n : Int) - -r - 1) / p := Int.ediv_le_ediv (by omega) (by omega)
    have mn := Int.emod_nonneg (x + r) (show p ≠ 0 by omega)
    refine ⟨((x + r) / p).toNat, ?_, ⟨x0, ?_⟩, x2, ?_⟩
    · rw [if_pos (by omega)]
      omega
    · rw [Int.toNat_of_nonneg k0, Int.mul_comm]
      omega
    · rw [Int.toNat_of_nonneg k0, Int.mul_comm]
      split at hm <;> omega
section
variable {P : Program} {w : World} {K : PySem.W.Frag} {mg : Str → Option Value} {base : Heap}
/-! ### common_period -/
theorem scPeriod : FnScope ["windows", "result", "window"] ["windows"] (defScope sPeriod) := ⟨rfl, rfl, rfl, by decide +kernel, rfl, by decide +kernel, by decide +kernel⟩
def spPeriod (K : PySem.W.Frag) : Sp := fun vs H Q _ => ∃ (a : Addr) (ts : List Addr) (ws : List Win), vs = [.ref a] ∧ SqL K H a (ts.map V.ref) ∧ WinsAt K H ts ws ∧ (∀ w ∈ ws, 1 ≤ w.2.2 ∧ w.2.2 ≤ 60) ∧ ws.length ≤ 8 ∧ Q (.int ((lcmW ws : Nat) : Int)) H
theorem ok_period {f : Addr} {fd : FuncData} {k : Nat} (F : Fun K "common_period" "common_period" sPeriod f fd) (hlcm : mg "lcm" = some (.builtin "math.lcm")) : FnOk P w K mg base CX0 (k + 1) f fd ["windows"] (spPeriod K) := by
  refine F.ok scPeriod (fun vs H Q E h => ?_) (fun cdv A0 outer s0 H vs Q E hr h => ?_)
  · obtain ⟨a, ts, ws, rfl, _⟩ := h
    rfl
  · obtain ⟨a, ts, ws, rfl, ha, hw, hp, hl, q⟩ := h
    have nd := scPeriod.nd
    have lt : ts.length = ws.length := hw.length
    refine ⟨_, pss_cons (ps_set (i := 1) nd rfl (.inl rfl) pe_int) <| pss_cons (ps_for PassesOwn.never rfl (pi_list (pv 0)) (pg_name (i := 2) nd rfl (.inl rfl)) (pss_one (ps_set (i := 1) nd rfl (.inl rfl) (pe_callBfun cr_lcm (by rfl) hlcm (pa_cons (pv 1) (pa_cons (pe_ix ix_tup (pv 2) pe_int (fun _ _ => rfl)) pa_nil)))))) <| pss_one (ps_ret (pv 1)), ?_⟩
    refine ⟨_, rfl, a, rfl, ⟨_, ha⟩, for_list (K := K) (a := a) (xs := ts.map V.ref) (fun i σ H' => ∃ v2 : Option V, σ = [some (.ref a), some (.int ((lcmW (ws.take i) : Nat) : Int)), v2] ∧ H' = H) ⟨none, rfl, rfl⟩ (fun i σ H' _ ⟨_, _, e⟩ => e ▸ ha) ?_ ?_⟩
    · rintro i v σ H' hi ⟨v2, rfl, rfl⟩
      obtain ⟨t, et, rfl⟩ := refs_at hi
      obtain ⟨w, ew, hT⟩ := Paired.at hw et
      have hw := hp w (List.mem_of_getElem? ew)
      have hb : lcmW (ws.take i) ≤ 60 ^ (ws.take i).length := lcmW_le (by decide) fun y hy => by
        have := hp y (List.mem_of_mem_take hy)
        omega
      have hi8 : (ws.take i).length ≤ 8 := by rw [List.length_take]; omega
      have hb2 : 60 ^ (ws.take i).length ≤ 60 ^ 8 := Nat.pow_le_pow_right (by decide) hi8
      have h8 : 60 ^ 8 < 2 ^ 64 := by decide
      refine ⟨_, rfl, _, rfl, t, _, _, _, rfl, rfl, hT, rfl, _, _, rfl, by omega, by omega, ?_⟩
      refine ⟨some (.ref t), ?_, rfl⟩
      rw [take_snoc ew, lcmW_snoc]
      rfl
    · rintro σ H' ⟨v2, rfl, rfl⟩
      rw [List.length_map, lt, List.take_length]
      exact ⟨_, rfl, q⟩
/-! ### places_of -/
theorem scPlaces : FnScope ["window", "begin", "count", "offset", "length", "period", "places", "start"] ["window", "begin", "count"] (defScope sPlaces) := ⟨rfl, rfl, rfl, by decide +kernel, rfl, by decide +kernel, by decide +kernel⟩
def spPlaces (K : PySem.W.Frag) : Sp := fun vs H Q _ => ∃ (t : Addr) (w : Win) (b : Int) (n : Nat), vs = [.ref t, .int b, .int (n : Int)] ∧ SqT K H t (winV w) ∧ WB w b ∧ b ≤ 100 ∧ n ≤ 200 ∧
  ∀ (H' : Hp) (l : Addr) (xs : List Int), Same H H' → H' l = some (.lst (xs.map V.int)) → (∀ x, x ∈ xs ↔ 0 ≤ x ∧ x < n ∧ hasT w (b + x) = true) → Q (.ref l) H'
theorem ok_places {f : Addr} {fd : FuncData} {k : Nat} (F : Fun K "places_of" "places_of" sPlaces f fd) (T : Blt mg) (hmax : mg "max" = none) (hmin : mg "min" = none) : FnOk P w K mg base CX0 (k + 1) f fd ["window", "begin", "count"] (spPlaces K) := by
  refine F.ok scPlaces (fun vs H Q E h => ?_) (fun cdv A0 outer s0 H vs Q E hr h => ?_)
  · obtain ⟨t, w, b, n, rfl, _⟩ := h
    rfl
  · obtain ⟨t, w, b, n, rfl, ht, wb, hb, hn, q⟩ := h
    have nd := scPlaces.nd
    refine ⟨_, pss_cons (ps_asg (pv 0) (pg_tup rfl (pgs_cons (pg_name (i := 3) nd rfl (.inl rfl)) (pgs_cons (pg_name (i := 4) nd rfl (.inl rfl)) (pgs_cons (pg_name (i := 5) nd rfl (.inl rfl)) pgs_nil))))) <| pss_cons (ps_set (i := 6) nd rfl (.inl rfl) (pe_lst pa_nil)) <| pss_cons (ps_for PassesOwn.never rfl (pi_range3 (by rfl) T.range (pa_cons (pe_un un_neg (pe_op op_mod (pe_op op_sub (pv 1) (pv 3)) (pv 5))) (pa_cons (pv 2) (pa_cons (pv 5) pa_nil)))) (pg_name (i := 7) nd rfl (.inl rfl)) (pss_one (ps_expr (pe_bm PySem.F.plainAttrs_list PySem.F.slot_list_extend PySem.F.type_list_extend mt_extend (pv 6) (pa_cons (pe_listRg rfl (by rfl) T.list (prg_2 (by rfl) T.range (pe_callB (call_max2 rfl) (by rfl) hmax (by decide +kernel) (pa_cons (pv 7) (pa_cons pe_int pa_nil))) (pe_callB (call_min2 rfl) (by rfl) hmin (by decide +kernel) (pa_cons (pe_op op_add (pv 7) (pe_callB (call_min2 rfl) (by rfl) hmin (by decide +kernel) (pa_cons (pv 4) (pa_cons (pv 5) pa_nil)))) (pa_cons (pv 2) pa_nil))))) pa_nil))))) <| pss_one (ps_ret (pv 6)), ?_⟩
    have o0 := wb.o0
    have o1 := wb.o1
    have l0 := wb.l0
    have l1 := wb.l1
    have p0 := wb.p0
    have p1 := wb.p1
    have r0 := Int.emod_nonneg (b - w.1) (show w.2.2 ≠ 0 by omega)
    have r1 := Int.emod_lt_of_pos (b - w.1) (show 0 < w.2.2 by omega)
    refine ⟨_, rfl, t, _, rfl, ht, rfl, _, _, rfl, _, _, rfl, _, _, rfl, rfl, ?_⟩
    refine ⟨Nat.zero_le _, fun D nD => ?_⟩
    have s1 := same_new (o := .lst []) nD
    have hD := upd_same (H := H) (a := D) (o := .lst [])
    generalize upd H D (.lst []) = H1 at s1 hD ⊢
    obtain ⟨m, hm⟩ : ∃ m, (if w.2.2 < w.2.1 then w.2.2 else w.2.1) = m := ⟨_, rfl⟩
    have mb : m ≤ 100 := by split at hm <;> omega
    obtain ⟨N, hN⟩ : ∃ N, (if -((b - w.1) % w.2.2) < (n : Int) then ((n : Int) - -((b - w.1) % w.2.2) - 1) / w.2.2 + 1 else 0).toNat = N := ⟨_, rfl⟩
    have N3 : N ≤ 300 := by
      rw [← hN]
      split
      · have := Int.ediv_le_self (b := w.2.2) (a := (n : Int) - -((b - w.1) % w.2.2) - 1) (by omega)
        omega
      · omega
    have rg : RgC (-((b - w.1) % w.2.2)) (n : Int) w.2.2 N := by
      rw [← hN]
      exact rgC_pos (by omega) (by omega) ⟨by omega, by omega⟩ ⟨by omega, by omega⟩
    refine ⟨_, rfl, _, rfl, _, _, rfl, rfl, _, rfl, _, _, rfl, rfl, (by show 0 < w.2.2; omega), _, rfl, _, rfl, _, rfl, _, _, _, N, rfl, rg, for_it walk_rangeC (fun i σ H' => ∃ (v7 : Option V) (xs : List Int), σ = [some (.ref t), some (.int b), some (.int (n : Int)), some (.int w.1), some (.int w.2.1), some (.int w.2.2), some (.ref D), v7] ∧ Same H H' ∧ H' D = some (.lst (xs.map V.int)) ∧ xs.length ≤ 100 * i ∧ ∀ x, x ∈ xs ↔ ∃ k : Nat, k < i ∧ (0 ≤ x ∧ -((b - w.1) % w.2.2) + (k : Int) * w.2.2 ≤ x) ∧ x < (n : Int) ∧ x < -((b - w.1) % w.2.2) + (k : Int) * w.2.2 + m) ⟨none, [], rfl, s1, hD, Nat.le_refl _, fun x => Iff.intro (fun h => by cases h) (fun ⟨k, h, _⟩ => absurd h (Nat.not_lt_zero k))⟩ (fun _ _ _ _ _ => True.intro) ?_ ?_⟩
    · intro i x σ Ha Hb hi Pa y
      obtain ⟨rfl, rfl⟩ := y
      obtain ⟨v7, xs, rfl, sm, hDa, lx, mx⟩ := Pa
      have ip0 : 0 ≤ (i : Int) * w.2.2 := Int.mul_nonneg (by omega) (by omega)
      have ip1 : (i : Int) * w.2.2 ≤ 300 * 100 := Int.mul_le_mul (by omega) p1 (by omega) (by decide)
      obtain ⟨st, est⟩ : ∃ st, -((b - w.1) % w.2.2) + (i : Int) * w.2.2 = st := ⟨_, rfl⟩
      dsimp only
      rw [est]
      refine ⟨_, rfl, .inl ⟨rfl, _, SqL.of hDa⟩, _, rfl, _, _, rfl, _, rfl, _, rfl, _, rfl, _, _, rfl, _, _, rfl, rfl, _, rfl, _, _, rfl, ?_⟩
      refine ⟨_, _, rfl, rfl, ?_⟩
      rw [hm]
      obtain ⟨lo, elo⟩ : ∃ lo, (if 0 > st then 0 else st) = lo := ⟨_, rfl⟩
      obtain ⟨hi', ehi⟩ : ∃ hi', (if (n : Int) < st + m then (n : Int) else st + m) = hi' := ⟨_, rfl⟩
      rw [elo, ehi]
      have b0 : 0 ≤ lo ∧ st ≤ lo := by split at elo <;> omega
      have b1 : hi' ≤ st + m ∧ hi' ≤ n := by split at ehi <;> omega
      have b2 : -200 ≤ hi' := by
        have : 0 ≤ m := by split at hm <;> omega
        split at ehi <;> omega
      have lot : lo ≤ 40000 := by split at elo <;> omega
      have lr : (hi' - lo).toNat ≤ 100 := by omega
      refine ⟨⟨by omega, by omega, by omega, by omega, Nat.le_trans lr (by decide)⟩, fun y ny => ?_⟩
      have w1 := same_new (o := .lst (rgV lo hi')) ny
      have hy := upd_same (H := Hb) (a := y) (o := .lst (rgV lo hi'))
      generalize upd Hb y (.lst (rgV lo hi')) = Hc at w1 hy ⊢
      have erg : rgV lo hi' = ((List.range (hi' - lo).toNat).map fun (j : Nat) => lo + (j : Int)).map V.int := by
        unfold rgV
        rw [List.map_map]
        rfl
      refine ⟨D, y, _, _, rfl, rfl, w1 _ _ hDa, hy, Nat.le_of_lt (szl (by rw [rgV_length, List.length_map]; omega)), ?_⟩
      refine ⟨_, xs ++ ((List.range (hi' - lo).toNat).map fun (j : Nat) => lo + (j : Int)), rfl, same_but (sm.trans w1) nD but_self, by rw [upd_same, erg, List.map_append], ?_, fun x => ?_⟩
      · rw [List.length_append, List.length_map, List.length_range, Nat.mul_add]
        omega
      · rw [List.mem_append, mx, List.mem_map]
        constructor
        · rintro (⟨k, k1, k2⟩ | ⟨j, hj, e⟩)
          · exact ⟨k, by omega, k2⟩
          · have := List.mem_range.mp hj
            refine ⟨i, by omega, ?_⟩
            rw [est]
            omega
        · rintro ⟨k, k1, k2⟩
          by_cases e : k = i
          · rw [e, est] at k2
            refine .inr ⟨(x - lo).toNat, List.mem_range.mpr ?_, ?_⟩
            · split at elo <;> split at ehi <;> omega
            · split at elo <;> omega
          · exact .inl ⟨k, by omega, k2⟩
    · rintro σ H' ⟨v7, xs, rfl, sm, hDa, lx, mx⟩
      refine ⟨_, rfl, q _ D xs sm hDa fun x => ?_⟩
      rw [mx, ← hN]
      exact places_mem wb m hm.symm
end
end My
namespace My
open PySem PySem.Spec PyProof.Rows L2
abbrev sRunsOf : Stmt := top 8 /-runs_of-/
theorem pi_listK {X : Cx} {K : PySem.W.Frag} {tg e : Expr} {te : TE} (h : PE X e te) (hK : X.K = K := by rfl) : PI X tg e (iList K te) := by
  subst hK
  exact pi_list h
/-- a walk whose turns do Z -/
theorem steps {J : It} {n : Nat} {G : Hp → Prop} {Y : Nat → Hp → V → Hp → Prop} (w : Walk J n G Y) {G0 : Hp} {Z : V → Hp → (Hp → Prop) → Prop} {Qs : Hp → Prop} (Pv : Nat → Hp → Prop) (h0 : Pv 0 G0) (hG : ∀ i H, i ≤ n → Pv i H → G H)
    (hs : ∀ i x H H', i < n → Pv i H → Y i H x H' → Z x H' (Pv (i + 1))) (hd : ∀ H, Pv n H → Qs H) : ∃ W : Nat → Nat → Hp → Prop, (∃ m, W 0 m G0) ∧ ∀ i m H, W i m H → (J.stop i H ∧ Qs H) ∨ (J.go i H ∧ ∃ Nx : Hp → Prop, (∀ H', Nx H' → ∃ m', m' < m ∧ W (i + 1) m' H') ∧ ∀ x H', J.yld i H x H' → Z x H' Nx) := by
  refine ⟨fun i m H => m = n - i ∧ i ≤ n ∧ Pv i H, ⟨n, by simp, Nat.zero_le _, h0⟩, ?_⟩
  rintro i m H ⟨rfl, hi, p⟩
  by_cases lt : i < n
  · exact .inr ⟨w.goes i H lt (hG i H hi p), Pv (i + 1), fun H' p' => ⟨n - (i + 1), by omega, rfl, lt, p'⟩, fun x H' y => hs i x H H' lt p (w.yields i H x H' lt (hG i H hi p) y)⟩
  · have e : i = n := by omega
    subst e
    exact .inl ⟨w.stops H (hG i H hi p), hd H p⟩
def insL (L : List Int) (k : Int) : List Int := if k ∈ L then L else L ++ [k]
/-- the set at D has the members L -/
def SetL (w : World) (H : Hp) (D : Addr) (L : List Int) : Prop := ∃ S : Int → Bool, H D = some (SetO w D S L.length) ∧ ∀ k, S k = true ↔ k ∈ L
theorem ins_len (L : List Int) (k : Int) : (insL L k).length ≤ L.length + 1 := by
  unfold insL
  split
  · omega
  · rw [List.length_append]
    exact Nat.le_refl _
theorem mem_ins {L : List Int} {k j : Int} : j ∈ insL L k ↔ j ∈ L ∨ j = k := by
  unfold insL
  split
  · rename_i h
    exact ⟨.inl, fun z => z.elim id fun e => by rw [e]; exact h⟩
  · rw [List.mem_append, List.mem_singleton]
theorem ins_nd {L : List Int} {k : Int} (h : L.Nodup) : (insL L k).Nodup := by
  unfold insL
  split
  · exact h
  · rename_i n
    exact List.nodup_append.mpr ⟨h, by simp, fun a ha b hb => by rw [List.mem_singleton.mp hb]; exact fun z => n (by rw [← z]; exact ha)⟩
/-- an int goes into such a set -/
theorem add_L {w : World} {G1 : Hp} {D : Addr} {L : List Int} {k : Int} {Nx : Hp → Prop} (h : SetL w G1 D L) (room : L.length < 1000) (q : ∀ G2, (∀ b, b ≠ D → G2 b = G1 b) → SetL w G2 D (insL L k) → Nx G2) :
    ∃ (k' : Int) (S : Int → Bool) (n : Nat), V.int k = .int k' ∧ G1 D = some (SetO w D S n) ∧ n + 1 < scanBound ∧ Nx (upd G1 D (SetO w D (fun j => S j || decide (j = k')) (if S k' = true then n else n + 1))) := by
  obtain ⟨S, h1, h2⟩ := h
  refine ⟨k, S, L.length, rfl, h1, Nat.lt_of_lt_of_le (show L.length + 1 < 1002 by omega) (by decide), q _ (fun b nb => upd_ne nb) ⟨fun j => S j || decide (j = k), ?_, fun j => ?_⟩⟩
  · rw [upd_same]
    congr 2
    unfold insL
    by_cases z : k ∈ L
    · rw [if_pos ((h2 k).mpr z), if_pos z]
    · rw [if_neg (fun y => z ((h2 k).mp y)), if_neg z, List.length_append]
      rfl
  · rw [Bool.or_eq_true, decide_eq_true_eq, h2, mem_ins]
theorem few_L {L : List Int} {n : Nat} (nd : L.Nodup) (h : ∀ x ∈ L, 0 ≤ x ∧ x < n) : L.length ≤ n := by
  have e : (L.map Int.toNat).Nodup := by
    refine List.pairwise_map.mpr (List.Pairwise.imp_of_mem (fun {a b} ha hb z => ?_) nd)
    have := h a ha
    have := h b hb
    omega
  have := nodup_lt n _ e fun x hx => by
    obtain ⟨y, hy, rfl⟩ := List.mem_map.mp hx
    have := h y hy
    omega
  rw [List.length_map] at this
  exact this
theorem asc_uniq : ∀ {l m : List Int}, l.Pairwise (· < ·) → m.Pairwise (· < ·) → (∀ x, x ∈ l ↔ x ∈ m) → l = m
  | [], [], _, _, _ => rfl
  | [], b :: m, _, _, h => absurd ((h b).mpr List.mem_cons_self) List.not_mem_nil
  | a :: l, [], _, _, h => absurd ((h a).mp List.mem_cons_self) List.not_mem_nil
  | a :: l, b :: m, hl, hm, h => by
    rw [List.pairwise_cons] at hl hm
    have e : a = b := by
      rcases List.mem_cons.mp ((h a).mp List.mem_cons_self) with y | y
      · exact y
      · rcases List.mem_cons.mp ((h b).mpr List.mem_cons_self) with z | z
        · exact z.symm
        · have := hl.1 b z
          have := hm.1 a y
          omega
    subst e
    rw [asc_uniq hl.2 hm.2 fun x => ?_]
    constructor
    · intro hx
      rcases List.mem_cons.mp ((h x).mp (List.mem_cons_of_mem _ hx)) with y | y
      · have := hl.1 x hx
        omega
      · exact y
    · intro hx
      rcases List.mem_cons.mp ((h x).mpr (List.mem_cons_of_mem _ hx)) with y | y
      · have := hm.1 x hx
        omega
      · exact y
/-- the ticks of a phase that are taken -/
def tkL (ws : List Win) (b : Int) (n : Nat) : List Nat := (List.range n).filter fun (p : Nat) => ws.any (hasT · (b + (p : Int)))
/-- the runs between taken ticks -/
def pairsUp : List Int → List (Int × Int)
  | a :: c :: r => (if a + 1 < c then [(a + 1, c)] else []) ++ pairsUp (c :: r)
  | _ => []
def runsL (ws : List Win) (b : Int) (n : Nat) : List (Int × Int) := pairsUp ((tkL ws b n).map (fun (p : Nat) => (p : Int)) ++ [(n : Int)])
abbrev RunsAt (K : PySem.W.Frag) (H : Hp) (ts : List Addr) (ps : List (Int × Int)) : Prop := Paired (fun (t : Addr) (p : Int × Int) => SqT K H t [.int p.1, .int p.2]) ts ps
theorem tk_asc (ws : List Win) (b : Int) (n : Nat) : ((tkL ws b n).map fun (p : Nat) => (p : Int)).Pairwise (· < ·) := by
  refine List.pairwise_map.mpr ((List.Pairwise.filter _ (List.pairwise_lt_range (n := n))).imp ?_)
  intro a c h
  exact Int.ofNat_lt.mpr h
theorem tk_mem {ws : List Win} {b : Int} {n : Nat} {x : Int} : (x ∈ (tkL ws b n).map fun (p : Nat) => (p : Int)) ↔ 0 ≤ x ∧ x < n ∧ ws.any (hasT · (b + x)) = true := by
  rw [List.mem_map]
  constructor
  · rintro ⟨p, hp, rfl⟩
    obtain ⟨h1, h2⟩ := List.mem_filter.mp hp
    exact ⟨by omega, Int.ofNat_lt.mpr (List.mem_range.mp h1), h2⟩
  · rintro ⟨h0, h1, h2⟩
    refine ⟨x.toNat, List.mem_filter.mpr ⟨List.mem_range.mpr (by omega), ?_⟩, by omega⟩
    rw [Int.toNat_of_nonneg h0]
    exact h2
theorem pairs_snoc : ∀ (l : List Int) (a c : Int), pairsUp (l ++ [a] ++ [c]) = pairsUp (l ++ [a]) ++ (if a + 1 < c then [(a + 1, c)] else [])
  | [], a, c => by
    show (if a + 1 < c then [(a + 1, c)] else []) ++ [] = [] ++ _
    rw [List.append_nil, List.nil_append]
  | [x], a, c => by
    show (if x + 1 < a then [(x + 1, a)] else []) ++ ((if a + 1 < c then [(a + 1, c)] else []) ++ []) = ((if x + 1 < a then [(x + 1, a)] else []) ++ []) ++ _
    rw [List.append_nil, List.append_nil]
  | x :: y :: l, a, c => by
    show (if x + 1 < y then [(x + 1, y)] else []) ++ pairsUp (y :: l ++ [a] ++ [c]) = ((if x + 1 < y then [(x + 1, y)] else []) ++ pairsUp (y :: l ++ [a])) ++ _
    rw [pairs_snoc (y :: l) a c, List.append_assoc]
theorem cut_one (xs : List V) : cutV xs (some 1) none = xs.drop 1 := by
  unfold cutV
  cases xs with
  | nil => rfl
  | cons x r =>
    show List.take ((x :: r).length - HT.sIx (x :: r).length 0 (some 1)) ((x :: r).drop (HT.sIx (x :: r).length 0 (some 1))) = r
    have e : HT.sIx (x :: r).length 0 (some 1) = 1 := by
      unfold HT.sIx
      simp
    rw [e]
    show List.take r.length r = r
    exact List.take_length
theorem runs_same {K : PySem.W.Frag} {H H' : Hp} {ts : List Addr} {ps : List (Int × Int)} (h : RunsAt K H ts ps) (e : Same H H') : RunsAt K H' ts ps := Paired.imp h fun _ _ q => same_tup e q
theorem runs_but {K : PySem.W.Frag} {H H' : Hp} {p : Addr} {ys : List V} {ts : List Addr} {ps : List (Int × Int)} (h : RunsAt K H ts ps) (hp : H p = some (.lst ys)) (e : But p H H') : RunsAt K H' ts ps := Paired.imp h fun _ _ q => e.tupL hp q
theorem runs_snoc {K : PySem.W.Frag} {H : Hp} {ts : List Addr} {ps : List (Int × Int)} {t : Addr} {p : Int × Int} (h : RunsAt K H ts ps) (q : SqT K H t [.int p.1, .int p.2]) : RunsAt K H (ts ++ [t]) (ps ++ [p]) := Paired.snoc (F := fun (t : Addr) (p : Int × Int) => SqT K H t [.int p.1, .int p.2]) q h
section
variable {P : Program} {w : World} {K : PySem.W.Frag} {mg : Str → Option Value} {base : Heap}
theorem scRunsOf : FnScope ["windows", "begin", "count", "taken", "place", "later", "window"] ["windows", "begin", "count"] (defScope sRunsOf) := ⟨rfl, rfl, rfl, by decide +kernel, rfl, by decide +kernel, by decide +kernel⟩
def spRunsOf (K : PySem.W.Frag) : Sp := fun vs H Q _ => ∃ (a : Addr) (ts : List Addr) (ws : List Win) (b : Int) (n : Nat), vs = [.ref a, .int b, .int (n : Int)] ∧ SqL K H a (ts.map V.ref) ∧ WinsAt K H ts ws ∧ (∀ w ∈ ws, WB w b) ∧ b ≤ 100 ∧ n < 64 ∧
  ∀ (H' : Hp) (l : Addr) (us : List Addr), Same H H' → H l = none → H' l = some (.lst (us.map V.ref)) → RunsAt K H' us (runsL ws b n) → Q (.ref l) H'
theorem ok_runsof {f fP : Addr} {fd fdP : FuncData} {k : Nat} (F : Fun K "runs_of" "runs_of" sRunsOf f fd) (hsorted : mg "sorted" = none) (hzip : mg "zip" = none) (GP : Callee P w K mg base 1 "places_of" ["window", "begin", "count"] (spPlaces K) fP fdP) : FnOk P w K mg base CX0 (k + 2) f fd ["windows", "begin", "count"] (spRunsOf K) := by
  refine F.ok scRunsOf (fun vs H Q E h => ?_) (fun cdv A0 outer s0 H vs Q E hr h => ?_)
  · obtain ⟨a, ts, ws, b, n, rfl, _⟩ := h
    rfl
  · obtain ⟨a, ts, ws, b, n, rfl, ha, hw, wb, hb, hn, q⟩ := h
    have nd := scRunsOf.nd
    have hr1 : Room 1 _ := hr.mono (by omega)
    refine ⟨_, pss_cons (ps_set (i := 3) nd rfl (.inl rfl) (pe_op op_cat (pe_callB (cr_sortedSet rfl) (by rfl) hsorted (by decide +kernel) (pa_cons (pe_set2 (own := [("window", 6), ("place", 4)]) (vs1 := [4]) (g := gName 6) (g1 := gName 4) (tt := tYes) (tt1 := tYes) rfl nd (pi_list (pv 0)) (blkOk_by (own := [("window", 6), ("place", 4)]) (N := ["windows", "begin", "count", "taken", "place", "later", "window"]) (sc := defScope sRunsOf) (by decide +kernel)) (by decide) (fun _ _ _ _ _ => pg_name (i := 6) nd rfl (Or.inl rfl)) (fun _ _ _ _ _ => pts_nil) (fun _ _ _ _ _ => (pi_listK (K := K) (pe_call GP.ok hr1 (by rfl) GP.mg GP.kp GP.b .nil pass0 (pa_cons (pv 6) (pa_cons (pv 1) (pa_cons (pv 2) pa_nil)))))) (fun _ _ _ _ _ => pg_name (i := 4) nd rfl (Or.inl rfl)) (fun _ _ _ _ _ => pts_nil) (fun _ _ _ _ _ => (pv 4))) pa_nil)) (pe_lst (pa_cons (pv 2) pa_nil)))) <| pss_one (ps_ret (pe_lc (own := [("place", 4), ("later", 5)]) (g := (gTup K 2 (gCons (gName 4) (gCons (gName 5) gNil)))) rfl nd (pi_zip (by rfl) hzip (pa_cons (pv 3) (pa_cons (pe_slice sl_list (pv 3) (po_some pe_int) po_none) pa_nil))) (blkOk_by (own := [("place", 4), ("later", 5)]) (N := ["windows", "begin", "count", "taken", "place", "later", "window"]) (sc := defScope sRunsOf) (by decide +kernel)) (fun _ _ _ _ _ => pg_tupK (K := K) rfl (pgs_cons (pg_name (i := 4) nd rfl (Or.inl rfl)) (pgs_cons (pg_name (i := 5) nd rfl (Or.inl rfl)) pgs_nil))) (fun _ _ _ _ _ => pts_one (pt_cmpR op_lt (pe_op op_add (pv 4) pe_int) (pv 5) (nomark _))) (fun _ _ _ _ _ => (pe_tup (pa_cons (pe_op op_add (pv 4) pe_int) (pa_cons (pv 5) pa_nil)))))), ?_⟩
    refine ⟨_, rfl, a, rfl, ⟨_, ha⟩, fun D nD => ?_⟩
    refine steps walk_list (fun i G => Same H G ∧ ∃ L : List Int, SetL w G D L ∧ L.Nodup ∧ ∀ x, x ∈ L ↔ 0 ≤ x ∧ x < n ∧ (ws.take i).any (hasT · (b + x)) = true) ⟨same_new nD, [], ⟨fun _ => false, upd_same, fun k => ⟨fun z => absurd z Bool.false_ne_true, fun z => absurd z List.not_mem_nil⟩⟩, List.nodup_nil, fun x => ⟨fun z => absurd z List.not_mem_nil, fun z => absurd z.2.2 Bool.false_ne_true⟩⟩ (fun i G _ p => Same.seq p.1 ha) ?_ ?_
    · rintro i x G _ hi ⟨sm, L, hL, nL, mL⟩ ⟨rfl, hx⟩
      obtain ⟨t, et, rfl⟩ := refs_at hx
      obtain ⟨u, eu, hT⟩ := Paired.at hw et
      refine ⟨rfl, ?_⟩
      refine ⟨_, rfl, _, rfl, _, rfl, t, u, b, n, rfl, ?_, wb u (List.mem_of_getElem? eu), hb, by omega, fun G1 l xs s1 hl mx => ?_⟩
      · exact same_tup sm hT
      · refine ⟨l, rfl, ⟨_, SqL.of hl⟩, ?_⟩
        have nlD : ∀ {G2 : Hp} {L2 : List Int}, G2 l = some (.lst (xs.map V.int)) → SetL w G2 D L2 → l ≠ D := fun e1 e2 => by
          obtain ⟨S, e2, _⟩ := e2
          exact ne_of e1 e2 (by intro z; cases z)
        refine steps walk_list (fun j G2 => Same H G2 ∧ G2 l = some (.lst (xs.map V.int)) ∧ ∃ L2 : List Int, SetL w G2 D L2 ∧ L2.Nodup ∧ ∀ x, x ∈ L2 ↔ x ∈ L ∨ x ∈ xs.take j) ⟨sm.trans s1, hl, L, ?_, nL, fun x => ⟨.inl, fun z => z.elim id fun z => absurd z List.not_mem_nil⟩⟩ (fun j G2 _ p => SqL.of p.2.1) ?_ ?_
        · obtain ⟨S, h1, h2⟩ := hL
          exact ⟨S, s1 _ _ h1, h2⟩
        · rintro j x G2 _ hj ⟨sm2, hl2, L2, hL2, nL2, mL2⟩ ⟨rfl, hx⟩
          rw [List.getElem?_map] at hx
          obtain ⟨k, ek, rfl⟩ := Option.map_eq_some_iff.mp hx
          refine ⟨rfl, ?_⟩
          refine ⟨_, rfl, ?_⟩
          refine add_L (w := w) (k := k) (Nx := fun G2 => Same H G2 ∧ G2 l = some (.lst (xs.map V.int)) ∧ ∃ L2 : List Int, SetL w G2 D L2 ∧ L2.Nodup ∧ ∀ x, x ∈ L2 ↔ x ∈ L ∨ x ∈ xs.take (j + 1)) hL2 ?_ fun G3 b3 h3 => ?_
          · have := few_L (n := n) nL2 fun x hx => by
              rcases (mL2 x).mp hx with z | z
              · exact ⟨((mL x).mp z).1, ((mL x).mp z).2.1⟩
              · have z := List.mem_of_mem_take z
                exact ⟨((mx x).mp z).1, ((mx x).mp z).2.1⟩
            omega
          · refine ⟨fun b' o e => (b3 b' (ne_of_none e nD)).trans (sm2 b' o e), (b3 l (nlD hl2 hL2)).trans hl2, insL L2 k, h3, ins_nd nL2, fun x => ?_⟩
            rw [mem_ins, mL2, take_snoc ek, List.mem_append, List.mem_singleton, or_assoc]
        · rintro G2 ⟨sm2, hl2, L2, hL2, nL2, mL2⟩
          refine ⟨sm2, L2, hL2, nL2, fun x => ?_⟩
          rw [mL2, mL, List.length_map, List.take_length, mx, take_snoc eu, List.any_append, Bool.or_eq_true]
          have e1 : ([u].any fun y => hasT y (b + x)) = hasT u (b + x) := by
            rw [List.any_cons, List.any_nil, Bool.or_false]
          rw [e1]
          constructor
          · rintro (⟨h0, h1, h2⟩ | ⟨h0, h1, h2⟩)
            · exact ⟨h0, h1, .inl h2⟩
            · exact ⟨h0, h1, .inr h2⟩
          · rintro ⟨h0, h1, h2 | h2⟩
            · exact .inl ⟨h0, h1, h2⟩
            · exact .inr ⟨h0, h1, h2⟩
    · rintro G ⟨sm, L, hL, nL, mL⟩
      have ln := few_L (n := n) nL fun x hx => ⟨((mL x).mp hx).1, ((mL x).mp hx).2.1⟩
      obtain ⟨S, h1, h2⟩ := hL
      refine ⟨D, S, L.length, rfl, h1, by omega, fun ns p asc hm hlen np => ?_⟩
      have ens : ns = (tkL ws b n).map fun (p : Nat) => (p : Int) := by
        refine asc_uniq asc (tk_asc ws b n) fun x => ?_
        rw [hm, h2, mL, tk_mem, List.length_map, hw.length, List.take_length]
      have lns : ns.length < 64 := by omega
      rw [ens] at lns ⊢
      have s2 := same_new (o := .lst (((tkL ws b n).map fun (p : Nat) => (p : Int)).map V.int)) np
      have hp := upd_same (H := G) (a := p) (o := .lst (((tkL ws b n).map fun (p : Nat) => (p : Int)).map V.int))
      generalize upd G p (.lst (((tkL ws b n).map fun (p : Nat) => (p : Int)).map V.int)) = G1 at s2 hp ⊢
      refine ⟨_, rfl, (by show 1 ≤ sizeLine; decide), fun p2 n2 => ?_⟩
      have s3 := same_new (o := .lst [V.int (n : Int)]) n2
      have hp2 := upd_same (H := G1) (a := p2) (o := .lst [V.int (n : Int)])
      refine ⟨p, p2, _, _, rfl, rfl, s3 _ _ hp, hp2, ?_, fun p3 n3 => ?_⟩
      · rw [List.length_map]
        exact Nat.le_of_lt (szl (by show _ + 1 < _; omega))
      have s4 := same_new (o := .lst (((tkL ws b n).map fun (p : Nat) => (p : Int)).map V.int ++ [V.int (n : Int)])) n3
      have hp3 := upd_same (H := upd G1 p2 (.lst [V.int (n : Int)])) (a := p3) (o := .lst (((tkL ws b n).map fun (p : Nat) => (p : Int)).map V.int ++ [V.int (n : Int)]))
      have el : ((tkL ws b n).map fun (p : Nat) => (p : Int)).map V.int ++ [V.int (n : Int)] = (((tkL ws b n).map fun (p : Nat) => (p : Int)) ++ [(n : Int)]).map V.int := by rw [List.map_append]; rfl
      rw [el] at s4 hp3 ⊢
      obtain ⟨l, hl⟩ : ∃ l, ((tkL ws b n).map fun (p : Nat) => (p : Int)) ++ [(n : Int)] = l := ⟨_, rfl⟩
      have ll : 1 ≤ l.length ∧ l.length ≤ 64 := by
        rw [← hl, List.length_append]
        have : [(n : Int)].length = 1 := rfl
        omega
      have q : ∀ (H' : Hp) (r : Addr) (us : List Addr), Same H H' → H r = none → H' r = some (.lst (us.map V.ref)) → RunsAt K H' us (pairsUp l) → Q (.ref r) H' := by
        rw [← hl]
        exact q
      rw [hl] at s4 hp3 ⊢
      have s5 := (((sm.trans s2).trans s3).trans s4)
      generalize upd (upd G1 p2 (.lst [V.int (n : Int)])) p3 (.lst (l.map V.int)) = G2 at s4 hp3 s5 ⊢
      refine ⟨_, rfl, _, rfl, _, rfl, p3, _, rfl, SqL.of hp3, fun p4 n4 => ?_⟩
      rw [cut_one, ← List.map_drop]
      have s6 := same_new (o := .lst ((l.drop 1).map V.int)) n4
      have hp4 := upd_same (H := G2) (a := p4) (o := .lst ((l.drop 1).map V.int))
      have g3 := s6 _ _ hp3
      have s7 := s5.trans s6
      generalize upd G2 p4 (.lst ((l.drop 1).map V.int)) = G3 at s6 hp4 g3 s7 ⊢
      refine ⟨p3, p4, _, _, rfl, SqL.of g3, SqL.of hp4, fun D2 n5 => ?_⟩
      refine lc_it (walk_zip (n := l.length - 1) (by rw [List.length_map, List.length_map, List.length_drop]; omega)) (fun i G4 => ∃ us : List Addr, Same G3 G4 ∧ G4 D2 = some (.lst (us.map V.ref)) ∧ us.length ≤ i ∧ RunsAt K G4 us (pairsUp (l.take (i + 1)))) ⟨[], same_new n5, upd_same, Nat.le_refl _, ?_⟩ (fun i G4 _ ⟨us, sm, _⟩ => ⟨SqL.of (sm _ _ g3), SqL.of (sm _ _ hp4)⟩) ?_ ?_
      · cases l with
        | nil => exact absurd ll.1 (by decide)
        | cons x r => exact .nil
      · rintro i x G4 _ hi ⟨us, sm, hus, lus, pus⟩ ⟨t, y, z, rfl, nt, rfl, hy, hz⟩
        have hy : (l.map V.int)[i]? = some y := hy
        have hz : ((l.drop 1).map V.int)[i]? = some z := hz
        rw [List.getElem?_map] at hy hz
        obtain ⟨y, ey, rfl⟩ := Option.map_eq_some_iff.mp hy
        obtain ⟨z, ez, rfl⟩ := Option.map_eq_some_iff.mp hz
        rw [List.getElem?_drop, Nat.add_comm] at ez
        have st := same_new (o := .tup [V.int y, V.int z]) nt
        have ep : pairsUp (l.take (i + 1 + 1)) = pairsUp (l.take (i + 1)) ++ (if y + 1 < z then [(y + 1, z)] else []) := by
          rw [take_snoc ez, take_snoc ey, pairs_snoc]
        refine ⟨t, _, rfl, SqT.of upd_same, rfl, _, _, rfl, _, _, rfl, rfl, rfl, ?_⟩
        refine ⟨_, rfl, _, _, rfl, rfl, _, rfl, _, _, rfl, rfl, _, rfl, ?_⟩
        rw [ep]
        dsimp only
        by_cases lt : y + 1 < z
        · rw [if_pos (decide_eq_true lt), if_pos lt]
          refine ⟨_, rfl, _, _, rfl, rfl, _, rfl, (by show 2 ≤ sizeLine; decide), fun t2 n6 => ?_⟩
          have s8 := same_new (o := .tup [V.int (y + 1), V.int z]) n6
          have hu := s8 _ _ (st _ _ hus)
          have sN := (sm.trans st).trans s8
          have l64 : us.length < 64 := by omega
          refine ⟨_, hu, szl (by rw [List.length_map]; omega), us ++ [t2], same_but sN n5 but_self, by rw [upd_same, List.map_append]; rfl, by rw [List.length_append]; exact Nat.succ_le_succ lus, ?_⟩
          exact runs_snoc (p := (y + 1, z)) (runs_but (runs_same pus (st.trans s8)) hu but_self) (But.tupL but_self hu (SqT.of upd_same))
        · rw [if_neg (fun z => lt (of_decide_eq_true z)), if_neg lt, List.append_nil]
          exact ⟨us, sm.trans st, st _ _ hus, by omega, runs_same pus st⟩
      · rintro G4 ⟨us, sm, hus, lus, pus⟩
        refine q G4 D2 us (s7.trans sm) (s7.free n5) hus ?_
        rw [show l.length - 1 + 1 = l.length by omega, List.take_length] at pus
        exact pus
end
end My
namespace My
open PySem PySem.Spec PyProof.Rows L2
abbrev sFree : Stmt := top 7 /-FreeTicks-/
abbrev sFtInit : Stmt := inClass sFree 0 /-FreeTicks.__init__-/
abbrev sEarliest : Stmt := inClass sFree 1 /-FreeTicks.earliest_start-/
abbrev sStart : Stmt := inClass sFree 2 /-FreeTicks.start_in_phase-/
abbrev sPattern : Stmt := inClass sFree 4 /-FreeTicks.pattern_of-/
def ftF (wl bl el d : Addr) : List (Str × V) := [(("windows" : Str), .ref wl), ("begins", .ref bl), ("ends", .ref el), ("patterns", .ref d)]
theorem ff1 {wl : Addr} : putF "windows" (.ref wl) [] = [(("windows" : Str), V.ref wl)] := rfl
theorem ff2 {wl bl : Addr} : putF "begins" (.ref bl) [(("windows" : Str), V.ref wl)] = [(("windows" : Str), V.ref wl), ("begins", .ref bl)] := rfl
theorem ff3 {wl bl el : Addr} : putF "ends" (.ref el) [(("windows" : Str), V.ref wl), ("begins", .ref bl)] = [(("windows" : Str), V.ref wl), ("begins", .ref bl), ("ends", .ref el)] := rfl
theorem ff4 {wl bl el d : Addr} : putF "patterns" (.ref d) [(("windows" : Str), V.ref wl), ("begins", .ref bl), ("ends", .ref el)] = ftF wl bl el d := rfl
section
variable {wl bl el d : Addr}
theorem fg1 : (ftF wl bl el d).lookup ("windows" : Str) = some (.ref wl) := rfl
theorem fg2 : (ftF wl bl el d).lookup ("begins" : Str) = some (.ref bl) := rfl
theorem fg3 : (ftF wl bl el d).lookup ("ends" : Str) = some (.ref el) := rfl
theorem fg4 : (ftF wl bl el d).lookup ("patterns" : Str) = some (.ref d) := rfl
theorem fm1 : (ftF wl bl el d).lookup ("earliest_start" : Str) = none := rfl
theorem fm2 : (ftF wl bl el d).lookup ("start_in_phase" : Str) = none := rfl
theorem fm3 : (ftF wl bl el d).lookup ("pattern_of" : Str) = none := rfl
theorem fm4 : (ftF wl bl el d).lookup ("last_runs" : Str) = none := rfl
end
structure FtC (K : PySem.W.Frag) (C : Addr) : Prop where
  cl : Cls K C
  n1 : NoAttr K C "windows"
  n2 : NoAttr K C "begins"
  n3 : NoAttr K C "ends"
  n4 : NoAttr K C "patterns"
/-- windows as the laws draw them, those of length 0 left out -/
structure GW (ws : List Win) : Prop where
  o : ∀ w ∈ ws, 0 ≤ w.1 ∧ w.1 ≤ 60
  l : ∀ w ∈ ws, 1 ≤ w.2.1 ∧ w.2.1 ≤ 60
  p : ∀ w ∈ ws, 1 ≤ w.2.2 ∧ w.2.2 ≤ 60
  m : ∃ M : Nat, 1 ≤ M ∧ M ≤ 24 ∧ ∀ w ∈ ws, w.2.2.natAbs ∣ M
  n : ws.length ≤ 8
/-- the begins of the phases -/
structure Beg (ws : List Win) (bs : List Int) : Prop where
  asc : bs.Pairwise (· < ·)
  mem : ∀ x, x ∈ bs ↔ ∃ w ∈ ws, w.1 = x
def bgn (ws : List Win) (b : Int) : List Win := ws.filter fun w => decide (w.1 ≤ b)
def perL (ws : List Win) (b : Int) : Nat := lcmW (bgn ws b)
def cntL (ws : List Win) (b : Int) : Option Int → Nat
  | none => 2 * perL ws b
  | some e => min (2 * perL ws b) (e - b).toNat
def optI : Option Int → V
  | none => .non
  | some i => .int i
/-- the pattern of a phase stands at t -/
def PatAt (av : Addr → Prop) (K : PySem.W.Frag) (H : Hp) (t : Addr) (ws : List Win) (b : Int) (e : Option Int) : Prop := ∃ (r : Addr) (us : List Addr), SqT K H t [.int ((perL ws b : Nat) : Int), .ref r] ∧ SqL K H r (us.map V.ref) ∧ RunsAt K H us (runsL (bgn ws b) b (cntL ws b e)) ∧ ¬ av r
theorem PatAt.same {av : Addr → Prop} {K : PySem.W.Frag} {H H' : Hp} {t : Addr} {ws : List Win} {b : Int} {e : Option Int} (h : PatAt av K H t ws b e) (s : Same H H') : PatAt av K H' t ws b e := by
  obtain ⟨r, us, h1, h2, h3, h4⟩ := h
  exact ⟨r, us, same_tup s h1, s.seq h2, runs_same h3 s, h4⟩
/-- the class's object: all but its dict stands still -/
def FtAt (av : Addr → Prop) (K : PySem.W.Frag) (C : Addr) (H : Hp) (p d : Addr) (ws : List Win) (bs : List Int) : Prop := GW ws ∧ Beg ws bs ∧ ∃ (dx wl bl el : Addr) (us : List Addr) (kvs : List (Key × V)), H p = some (.ins C dx (ftF wl bl el d)) ∧ H wl = some (.lst (us.map V.ref)) ∧ WinsAt K H us ws ∧ H bl = some (.lst (bs.map V.int)) ∧
  H el = some (.lst ((bs.drop 1).map V.int ++ [V.non])) ∧ H d = some (.dK kvs) ∧ (kvs.map (·.1)).Nodup ∧ (∀ k ∈ kvs.map (·.1), ∃ i : Nat, i < bs.length ∧ k = Sum.inl (i : Int)) ∧
  (∀ (i : Nat) (b : Int) (v : V), bs[i]? = some b → valV kvs (Sum.inl (i : Int)) = some v → ∃ t, v = .ref t ∧ PatAt av K H t ws b bs[i + 1]?) ∧ (¬ av wl ∧ ¬ av bl ∧ ¬ av el) ∧ ∀ x, av x → ∃ o, H x = some o
theorem FtAt.same {av : Addr → Prop} {K : PySem.W.Frag} {C : Addr} {H H' : Hp} {p d : Addr} {ws : List Win} {bs : List Int} (h : FtAt av K C H p d ws bs) (s : Same H H') : FtAt av K C H' p d ws bs := by
  obtain ⟨g, b, dx, wl, bl, el, us, kvs, h1, h2, h3, h4, h5, h6, h7, h8, h9, ha, hx⟩ := h
  exact ⟨g, b, dx, wl, bl, el, us, kvs, s _ _ h1, s _ _ h2, WinsAt.same h3 s, s _ _ h4, s _ _ h5, s _ _ h6, h7, h8, fun i b v e1 e2 => let ⟨t, z1, z2⟩ := h9 i b v e1 e2; ⟨t, z1, z2.same s⟩, ha, fun x z => let ⟨o, z1⟩ := hx x z; ⟨o, s _ _ z1⟩⟩
theorem wins_snoc {K : PySem.W.Frag} {H : Hp} {ts : List Addr} {ws : List Win} {t : Addr} {u : Win} (h : WinsAt K H ts ws) (q : SqT K H t (winV u)) : WinsAt K H (ts ++ [t]) (ws ++ [u]) := Paired.snoc (F := fun (t : Addr) (w : Win) => SqT K H t (winV w)) q h
theorem filt_snoc {ws : List Win} {i : Nat} {u : Win} (f : Win → Bool) (h : ws[i]? = some u) : (ws.take (i + 1)).filter f = (ws.take i).filter f ++ (if f u = true then [u] else []) := by
  rw [take_snoc h, List.filter_append]
  congr 1
  by_cases z : f u = true
  · rw [if_pos z, List.filter_cons_of_pos z, List.filter_nil]
  · rw [if_neg z, List.filter_cons_of_neg z, List.filter_nil]
/-- the windows of a list that pass -/
def FiltAt (K : PySem.W.Frag) (H0 : Hp) (D : Addr) (ws : List Win) (f : Win → Bool) (i : Nat) (G : Hp) : Prop := ∃ us : List Addr, Same H0 G ∧ G D = some (.lst (us.map V.ref)) ∧ us.length ≤ i ∧ WinsAt K G us ((ws.take i).filter f)
theorem filt_yes {K : PySem.W.Frag} {H0 G : Hp} {D t : Addr} {ws : List Win} {f : Win → Bool} {i : Nat} {u : Win} (n0 : H0 D = none) (h : FiltAt K H0 D ws f i G) (e : ws[i]? = some u) (hT : SqT K G t (winV u)) (yes : f u = true) (few : i < 1000) : ∃ acc, G D = some (.lst acc) ∧ acc.length < sizeLine ∧ FiltAt K H0 D ws f (i + 1) (upd G D (.lst (acc ++ [V.ref t]))) := by
  obtain ⟨us, sm, hD, l, hw⟩ := h
  refine ⟨_, hD, szl (by rw [List.length_map]; omega), us ++ [t], same_but sm n0 but_self, by rw [upd_same, List.map_append]; rfl, by rw [List.length_append]; exact Nat.succ_le_succ l, ?_⟩
  rw [filt_snoc f e, if_pos yes]
  exact wins_snoc (WinsAt.butL hw hD but_self) (But.tupL but_self hD hT)
theorem filt_no {K : PySem.W.Frag} {H0 G : Hp} {D : Addr} {ws : List Win} {f : Win → Bool} {i : Nat} {u : Win} (h : FiltAt K H0 D ws f i G) (e : ws[i]? = some u) (no : ¬ f u = true) : FiltAt K H0 D ws f (i + 1) G := by
  obtain ⟨us, sm, hD, l, hw⟩ := h
  refine ⟨us, sm, hD, by omega, ?_⟩
  rw [filt_snoc f e, if_neg no, List.append_nil]
  exact hw
theorem but_tupI {K : PySem.W.Frag} {H H' : Hp} {p a C dx : Addr} {fs : List (Str × V)} {xs : List V} (kb : But p H H') (hp : H p = some (.ins C dx fs)) (q : SqT K H a xs) : SqT K H' a xs := by
  rcases q with (q | ⟨o, q⟩) | q
  · exact .inl (.inl (kb _ _ q (ne_of q hp (by intro z; cases z))))
  · exact .inl (.inr ⟨o, kb _ _ q (ne_of q hp (by intro z; cases z))⟩)
  · exact .inr q
theorem but_lstI {H H' : Hp} {p a C dx : Addr} {fs : List (Str × V)} {xs : List V} (kb : But p H H') (hp : H p = some (.ins C dx fs)) (q : H a = some (.lst xs)) : H' a = some (.lst xs) := kb _ _ q (ne_of q hp (by intro z; cases z))
theorem wins_butI {K : PySem.W.Frag} {H H' : Hp} {p C dx : Addr} {fs : List (Str × V)} {ts : List Addr} {ws : List Win} (kb : But p H H') (hp : H p = some (.ins C dx fs)) (q : WinsAt K H ts ws) : WinsAt K H' ts ws := Paired.imp q fun _ _ z => but_tupI kb hp z
theorem but_upd {H H' : Hp} {p : Addr} {o : HO} (h : But p H H') : But p H (upd H' p o) := fun b x e n => by
  rw [upd_ne n]; exact h b x e n
theorem but_of {H H' : Hp} {p : Addr} (h : Same H H') : But p H H' := fun b x e _ => h b x e
theorem but_tr {H H1 H2 : Hp} {p : Addr} (h : But p H H1) (g : But p H1 H2) : But p H H2 := fun b x e n => g b x (h b x e n) n
section
variable {P : Program} {w : World} {K : PySem.W.Frag} {mg : Str → Option Value} {base : Heap}
/-! ### __init__ -/
theorem scFtInit : FnScope ["self", "windows", "window"] ["self", "windows"] (defScope sFtInit) := ⟨rfl, rfl, rfl, by decide +kernel, rfl, by decide +kernel, by decide +kernel⟩
def spFtInit (K : PySem.W.Frag) (C : Addr) : Sp := fun vs H Q _ => ∃ (p dx a : Addr) (ts : List Addr) (ws : List Win), vs = [.ref p, .ref a] ∧ H p = some (.ins C dx []) ∧ SqL K H a (ts.map V.ref) ∧ WinsAt K H ts ws ∧ GW (ws.filter fun u => decide (u.2.1 > 0)) ∧ ws.length ≤ 8 ∧
  ∀ (H' : Hp) (d : Addr) (bs : List Int), But p H H' → H d = none → (∀ (av : Addr → Prop) (G : Hp), Same H' G → (∀ x, av x → H' x = none) → (∀ x, av x → ∃ o, G x = some o) → FtAt av K C G p d (ws.filter fun u => decide (u.2.1 > 0)) bs) → Q .non H'
theorem ok_ftinit {f C : Addr} {fd : FuncData} {k : Nat} (F : Fun K "__init__" "FreeTicks.__init__" sFtInit f fd) (hsorted : mg "sorted" = none) (c : FtC K C) : FnOk P w K mg base CX0 (k + 1) f fd ["self", "windows"] (spFtInit K C) := by
  refine F.ok scFtInit (fun vs H Q E h => ?_) (fun cdv A0 outer s0 H vs Q E hr h => ?_)
  · obtain ⟨p, dx, a, ts, ws, rfl, _⟩ := h
    rfl
  · obtain ⟨p, dx, a, ts, ws, rfl, hp, ha, hw, gw, hn, q⟩ := h
    have nd := scFtInit.nd
    refine ⟨_, PSs.nox (pss_cons (ps_fld (pv 0) (pe_lc (own := [("window", 2)]) (g := gName 2) rfl nd (pi_list (pv 1)) (blkOk_by (own := [("window", 2)]) (N := ["self", "windows", "window"]) (sc := defScope sFtInit) (by decide +kernel)) (fun _ _ _ _ _ => pg_name (i := 2) nd rfl (Or.inl rfl)) (fun _ _ _ _ _ => pts_one (pt_cmpR op_gt (pe_ix (ix_tupK (K := K)) (pv 2) pe_int (fun _ _ => rfl)) pe_int (nomark _))) (fun _ _ _ _ _ => (pv 2))) rfl) <| pss_cons (ps_fld (pv 0) (pe_callB (cr_sortedSet rfl) (by rfl) hsorted (by decide +kernel) (pa_cons (pe_set1 (own := [("window", 2)]) (g := gName 2) (tt := tYes) rfl nd (pi_list (pe_fld (pv 0) rfl)) (blkOk_by (own := [("window", 2)]) (N := ["self", "windows", "window"]) (sc := defScope sFtInit) (by decide +kernel)) (fun _ _ _ _ _ => pg_name (i := 2) nd rfl (Or.inl rfl)) (fun _ _ _ _ _ => pts_nil) (fun _ _ _ _ _ => (pe_ix (ix_tupK (K := K)) (pv 2) pe_int (fun _ _ => rfl)))) pa_nil)) rfl) <| pss_cons (ps_fld (pv 0) (pe_op op_cat (pe_slice sl_list (pe_fld (pv 0) rfl) (po_some pe_int) po_none) (pe_lst (pa_cons pe_non pa_nil))) rfl) <| pss_one (ps_fld (pv 0) pe_dnewK rfl)), ?_⟩
    refine ⟨_, rfl, a, rfl, ⟨_, ha⟩, fun D nD => ?_⟩
    refine lc_it walk_list (FiltAt K H D ws fun u => decide (u.2.1 > 0)) ⟨[], same_new nD, upd_same, Nat.le_refl _, .nil⟩ (fun i G _ ⟨us, sm, _⟩ => Same.seq sm ha) ?_ ?_
    · intro i x G0 G hi pG y
      obtain ⟨e, hx⟩ := y
      subst e
      obtain ⟨t, et, rfl⟩ := refs_at hx
      obtain ⟨u, eu, hT⟩ := Paired.at hw et
      have sm : Same H G := by obtain ⟨us, sm, _⟩ := pG; exact sm
      have hi8 : i < ts.length := (List.getElem?_eq_some_iff.mp et).1
      rw [hw.length] at hi8
      refine ⟨rfl, ?_⟩
      refine ⟨_, rfl, t, _, _, _, rfl, rfl, same_tup sm hT, rfl, _, _, rfl, rfl, _, rfl, ?_⟩
      dsimp only
      by_cases z : decide (u.2.1 > 0) = true
      · rw [if_pos z]
        exact ⟨_, rfl, filt_yes (f := fun u => decide (u.2.1 > 0)) nD pG eu (same_tup sm hT) z (by omega)⟩
      · rw [if_neg z]
        exact filt_no (f := fun u => decide (u.2.1 > 0)) pG eu z
    · rintro G pG
      obtain ⟨us, sm, hD, lus, hus⟩ := pG
      have len8 : ws.length ≤ 8 := hn
      rw [List.length_map, hw.length, List.take_length] at hus
      obtain ⟨ks, eks⟩ : ∃ ks, ws.filter (fun u => decide (u.2.1 > 0)) = ks := ⟨_, rfl⟩
      rw [eks] at hus gw q
      have lk : ks.length ≤ 8 := gw.n
      have hpG : G p = some (.ins C dx []) := sm _ _ hp
      have nDp : D ≠ p := ne_of hD hpG (by intro z; cases z)
      refine ⟨_, rfl, p, C, dx, [], rfl, hpG, c.cl, c.n1, (by show 0 < 1000; decide), ?_⟩
      rw [ff1]
      have kb1 : But p G (upd G p (.ins C dx [(("windows" : Str), V.ref D)])) := but_self
      have hp1 := upd_same (H := G) (a := p) (o := .ins C dx [(("windows" : Str), V.ref D)])
      generalize upd G p (.ins C dx [(("windows" : Str), V.ref D)]) = H1 at kb1 hp1 ⊢
      have hD1 := but_lstI kb1 hpG hD
      have hus1 := wins_butI kb1 hpG hus
      refine ⟨_, rfl, p, C, dx, _, _, rfl, hp1, c.cl, c.n1, rfl, D, rfl, ⟨_, SqL.of hD1⟩, fun S nS => ?_⟩
      refine steps walk_list (fun i G2 => Same H1 G2 ∧ ∃ L : List Int, SetL w G2 S L ∧ L.Nodup ∧ L.length ≤ i ∧ ∀ x, x ∈ L ↔ ∃ u ∈ ks.take i, u.1 = x) ⟨same_new nS, [], ⟨fun _ => false, upd_same, fun k => ⟨fun z => absurd z Bool.false_ne_true, fun z => absurd z List.not_mem_nil⟩⟩, List.nodup_nil, Nat.le_refl _, fun x => ⟨fun z => absurd z List.not_mem_nil, fun ⟨u, z, _⟩ => absurd z List.not_mem_nil⟩⟩ (fun i G2 _ p => Same.seq p.1 (SqL.of hD1)) ?_ ?_
      · intro i x G0 G2 hi pv y
        obtain ⟨e, hx⟩ := y
        subst e
        obtain ⟨sm2, L, hL, nL, lL, mL⟩ := pv
        obtain ⟨t, et, rfl⟩ := refs_at hx
        obtain ⟨u, eu, hT⟩ := Paired.at hus1 et
        have hi8 : i < ks.length := (List.getElem?_eq_some_iff.mp eu).1
        refine ⟨rfl, ?_⟩
        refine ⟨_, rfl, t, _, _, _, rfl, rfl, same_tup sm2 hT, rfl, ?_⟩
        refine add_L (w := w) (k := u.1) (Nx := fun G2 => Same H1 G2 ∧ ∃ L : List Int, SetL w G2 S L ∧ L.Nodup ∧ L.length ≤ i + 1 ∧ ∀ x, x ∈ L ↔ ∃ u ∈ ks.take (i + 1), u.1 = x) hL (by omega) fun G3 b3 h3 => ?_
        refine ⟨fun b' o e => (b3 b' (ne_of_none e nS)).trans (sm2 b' o e), insL L u.1, h3, ins_nd nL, Nat.le_trans (ins_len _ _) (by omega), fun x => ?_⟩
        rw [mem_ins, mL, take_snoc eu]
        constructor
        · rintro (⟨v, hv, rfl⟩ | rfl)
          · exact ⟨v, List.mem_append_left _ hv, rfl⟩
          · exact ⟨u, List.mem_append_right _ (List.mem_singleton.mpr rfl), rfl⟩
        · rintro ⟨v, hv, rfl⟩
          rcases List.mem_append.mp hv with z | z
          · exact .inl ⟨v, z, rfl⟩
          · rw [List.mem_singleton.mp z]
            exact .inr rfl
      · rintro G2 ⟨sm2, L, hL, nL, lL, mL⟩
        rw [List.length_map, hus1.length] at lL mL
        rw [List.take_length] at mL
        obtain ⟨S', h1, h2⟩ := hL
        refine ⟨S, S', L.length, rfl, h1, by omega, fun bs bl asc hm hlen nb => ?_⟩
        have hB : Beg ks bs := ⟨asc, fun x => by rw [hm, h2, mL]⟩
        have s3 := same_new (o := .lst (bs.map V.int)) nb
        have hbl := upd_same (H := G2) (a := bl) (o := .lst (bs.map V.int))
        generalize upd G2 bl (.lst (bs.map V.int)) = H3 at s3 hbl ⊢
        have hp3 := s3 _ _ (sm2 _ _ hp1)
        have k13 : But p G H3 := but_tr kb1 (but_of (sm2.trans s3))
        refine ⟨_, rfl, p, C, dx, _, rfl, hp3, c.cl, c.n2, (by show 1 < 1000; decide), ?_⟩
        rw [ff2]
        have kb4 : But p H3 (upd H3 p (.ins C dx [(("windows" : Str), V.ref D), ("begins", .ref bl)])) := but_self
        have hp4 := upd_same (H := H3) (a := p) (o := .ins C dx [(("windows" : Str), V.ref D), ("begins", .ref bl)])
        generalize upd H3 p (.ins C dx [(("windows" : Str), V.ref D), ("begins", .ref bl)]) = H4 at kb4 hp4 ⊢
        have hbl4 := but_lstI kb4 hp3 hbl
        refine ⟨_, rfl, p, C, dx, _, _, rfl, hp4, c.cl, c.n2, rfl, _, rfl, bl, _, rfl, SqL.of hbl4, fun p4 n4 => ?_⟩
        rw [cut_one, ← List.map_drop]
        have s5 := same_new (o := .lst ((bs.drop 1).map V.int)) n4
        have hp5 := upd_same (H := H4) (a := p4) (o := .lst ((bs.drop 1).map V.int))
        generalize upd H4 p4 (.lst ((bs.drop 1).map V.int)) = H5 at s5 hp5 ⊢
        refine ⟨(by show 1 ≤ sizeLine; decide), fun p5 n5 => ?_⟩
        have s6 := same_new (o := .lst [V.non]) n5
        have hp6 := upd_same (H := H5) (a := p5) (o := .lst [V.non])
        generalize upd H5 p5 (.lst [V.non]) = H6 at s6 hp6 ⊢
        have lb : bs.length ≤ 8 := by omega
        refine ⟨p4, p5, _, _, rfl, rfl, s6 _ _ hp5, hp6, Nat.le_of_lt (szl (by rw [List.length_map, List.length_drop]; show _ + 1 < _; omega)), fun el n7 => ?_⟩
        have s7 := same_new (o := .lst ((bs.drop 1).map V.int ++ [V.non])) n7
        have hel := upd_same (H := H6) (a := el) (o := .lst ((bs.drop 1).map V.int ++ [V.non]))
        generalize upd H6 el (.lst ((bs.drop 1).map V.int ++ [V.non])) = H7 at s7 hel ⊢
        have s47 := (s5.trans s6).trans s7
        have hp7 := s47 _ _ hp4
        refine ⟨_, rfl, p, C, dx, _, rfl, hp7, c.cl, c.n3, (by show 2 < 1000; decide), ?_⟩
        rw [ff3]
        have kb8 : But p H7 (upd H7 p (.ins C dx [(("windows" : Str), V.ref D), ("begins", .ref bl), ("ends", .ref el)])) := but_self
        have hp8 := upd_same (H := H7) (a := p) (o := .ins C dx [(("windows" : Str), V.ref D), ("begins", .ref bl), ("ends", .ref el)])
        generalize upd H7 p (.ins C dx [(("windows" : Str), V.ref D), ("begins", .ref bl), ("ends", .ref el)]) = H8 at kb8 hp8 ⊢
        have kG8 : But p G H8 := but_tr k13 (but_tr kb4 (but_tr (but_of s47) kb8))
        refine fun d nd => ?_
        have s9 := same_new (o := .dK []) nd
        have hd9 := upd_same (H := H8) (a := d) (o := .dK [])
        generalize upd H8 d (.dK []) = H9 at s9 hd9 ⊢
        refine ⟨_, rfl, p, C, dx, _, rfl, s9 _ _ hp8, c.cl, c.n4, (by show 3 < 1000; decide), ?_⟩
        rw [ff4]
        have kA : But p H9 (upd H9 p (.ins C dx (ftF D bl el d))) := but_self
        have hpA := upd_same (H := H9) (a := p) (o := .ins C dx (ftF D bl el d))
        generalize upd H9 p (.ins C dx (ftF D bl el d)) = HA at kA hpA ⊢
        have kGA : But p G HA := but_tr kG8 (but_tr (but_of s9) kA)
        have k4A : But p H4 HA := but_tr (but_of s47) (but_tr kb8 (but_tr (but_of s9) kA))
        have k7A : But p H7 HA := but_tr kb8 (but_tr (but_of s9) kA)
        have hp9 := s9 _ _ hp8
        have nH : H d = none := by
          cases z : H d with
          | none => rfl
          | some o =>
            have : d ≠ p := fun e => by rw [e, hp8] at nd; cases nd
            have := kG8 _ _ (sm _ _ z) this
            rw [nd] at this
            cases this
        have hDA := but_lstI kGA hpG hD
        have hblA := but_lstI k4A hp4 hbl4
        have helA := but_lstI k7A hp7 hel
        have hdA : HA d = some (.dK []) := kA _ _ hd9 (ne_of hd9 hp9 (by intro z; cases z))
        have no : ∀ {av : Addr → Prop} {x : Addr} {o : HO}, (∀ x, av x → HA x = none) → HA x = some o → ¬ av x := fun h e z => by
          rw [h _ z] at e
          cases e
        refine q HA d bs (but_tr (but_of sm) kGA) nH fun av G sG hav hx => ⟨gw, hB, dx, D, bl, el, us, [], sG _ _ hpA, sG _ _ hDA, WinsAt.same (wins_butI kGA hpG hus) sG, sG _ _ hblA, sG _ _ helA, sG _ _ hdA, List.nodup_nil, fun k hk => absurd hk List.not_mem_nil, fun i b v _ e => (by cases e), ⟨no hav hDA, no hav hblA, no hav helA⟩, hx⟩
end
end My
namespace My
open PySem PySem.Spec PyProof.Rows L2
theorem lcm_dvd {M : Nat} : ∀ (ws : List Win), (∀ w ∈ ws, w.2.2.natAbs ∣ M) → lcmW ws ∣ M := by
  intro ws
  unfold lcmW
  have gen : ∀ (ws : List Win) (a : Nat), a ∣ M → (∀ w ∈ ws, w.2.2.natAbs ∣ M) → ws.foldl (fun a w => a.lcm w.2.2.natAbs) a ∣ M := by
    intro ws
    induction ws with
    | nil => intro a h _; exact h
    | cons w r ih =>
      intro a h h2
      rw [List.foldl_cons]
      exact ih _ (Nat.lcm_dvd h (h2 w List.mem_cons_self)) fun x hx => h2 x (List.mem_cons_of_mem _ hx)
  exact gen ws 1 (Nat.one_dvd _)
theorem GW.bgn {ws : List Win} (g : GW ws) (b : Int) : GW (bgn ws b) :=
  have f : ∀ w ∈ My.bgn ws b, w ∈ ws := fun w h => (List.mem_filter.mp h).1
  ⟨fun w h => g.o w (f w h), fun w h => g.l w (f w h), fun w h => g.p w (f w h), let ⟨M, h1, h2, h3⟩ := g.m; ⟨M, h1, h2, fun w h => h3 w (f w h)⟩, Nat.le_trans (List.length_filter_le _ _) g.n⟩
theorem GW.per {ws : List Win} (g : GW ws) : 1 ≤ lcmW ws ∧ lcmW ws ≤ 24 := by
  obtain ⟨M, h1, h2, h3⟩ := g.m
  have d := lcm_dvd ws h3
  exact ⟨Nat.pos_of_dvd_of_pos d (by omega), Nat.le_trans (Nat.le_of_dvd (by omega) d) h2⟩
theorem GW.perL {ws : List Win} (g : GW ws) (b : Int) : 1 ≤ perL ws b ∧ perL ws b ≤ 24 := (g.bgn b).per
theorem GW.beg {ws : List Win} {bs : List Int} (g : GW ws) (h : Beg ws bs) {b : Int} (hb : b ∈ bs) : 0 ≤ b ∧ b ≤ 60 := by
  obtain ⟨w, hw, rfl⟩ := (h.mem b).mp hb
  exact g.o w hw
theorem Beg.lt {ws : List Win} {bs : List Int} (h : Beg ws bs) {i j : Nat} {a b : Int} (ha : bs[i]? = some a) (hb : bs[j]? = some b) (lt : i < j) : a < b := by
  obtain ⟨h1, rfl⟩ := List.getElem?_eq_some_iff.mp ha
  obtain ⟨h2, rfl⟩ := List.getElem?_eq_some_iff.mp hb
  exact List.pairwise_iff_getElem.mp h.asc i j h1 h2 lt
section
variable {K : PySem.W.Frag} {H H' : Hp} {d : Addr} {kvs : List (Key × V)}
theorem lst_butK {a : Addr} {xs : List V} (h : H a = some (.lst xs)) (hd : H d = some (.dK kvs)) (kb : But d H H') : H' a = some (.lst xs) := kb _ _ h (ne_of h hd (by intro z; cases z))
theorem tup_butK {a : Addr} {xs : List V} (h : SqT K H a xs) (hd : H d = some (.dK kvs)) (kb : But d H H') : SqT K H' a xs := by
  rcases h with (h | ⟨o, h⟩) | h
  · exact .inl (.inl (kb _ _ h (ne_of h hd (by intro z; cases z))))
  · exact .inl (.inr ⟨o, kb _ _ h (ne_of h hd (by intro z; cases z))⟩)
  · exact .inr h
theorem seq_butK {a : Addr} {xs : List V} (h : SqL K H a xs) (hd : H d = some (.dK kvs)) (kb : But d H H') : SqL K H' a xs := by
  rcases h with (h | ⟨o, h⟩) | h
  · exact .inl (.inl (kb _ _ h (ne_of h hd (by intro z; cases z))))
  · exact .inl (.inr ⟨o, kb _ _ h (ne_of h hd (by intro z; cases z))⟩)
  · exact .inr h
theorem wins_butK {ts : List Addr} {ws : List Win} (h : WinsAt K H ts ws) (hd : H d = some (.dK kvs)) (kb : But d H H') : WinsAt K H' ts ws := Paired.imp h fun _ _ q => tup_butK q hd kb
theorem PatAt.butK {av : Addr → Prop} {t : Addr} {ws : List Win} {b : Int} {e : Option Int} (h : PatAt av K H t ws b e) (hd : H d = some (.dK kvs)) (kb : But d H H') : PatAt av K H' t ws b e := by
  obtain ⟨r, us, h1, h2, h3, h4⟩ := h
  exact ⟨r, us, tup_butK h1 hd kb, seq_butK h2 hd kb, Paired.imp h3 fun _ _ q => tup_butK q hd kb, h4⟩
end
theorem keys_few : ∀ {l : List Key} {n : Nat}, l.Nodup → (∀ k ∈ l, ∃ i : Nat, i < n ∧ k = Sum.inl (i : Int)) → l.length ≤ n := by
  intro l n nd h
  have e : (l.map fun (k : Key) => match k with | .inl z => z.toNat | .inr _ => 0).Nodup := by
    refine List.pairwise_map.mpr (List.Pairwise.imp_of_mem (fun {a b} ha hb z => ?_) nd)
    obtain ⟨i, _, rfl⟩ := h a ha
    obtain ⟨j, _, rfl⟩ := h b hb
    intro y
    have y : ((i : Int)).toNat = ((j : Int)).toNat := y
    exact z (by rw [show i = j by omega])
  have := nodup_lt n _ e fun x hx => by
    obtain ⟨k, hk, rfl⟩ := List.mem_map.mp hx
    obtain ⟨i, hi, rfl⟩ := h k hk
    show ((i : Int)).toNat < n
    omega
  rw [List.length_map] at this
  exact this
theorem ends_at {bs : List Int} {i : Nat} (h : i < bs.length) : ((bs.drop 1).map V.int ++ [V.non])[i]? = some (optI bs[i + 1]?) := by
  by_cases lt : i + 1 < bs.length
  · rw [List.getElem?_append_left (by rw [List.length_map, List.length_drop]; omega), List.getElem?_map, List.getElem?_drop, Nat.add_comm 1 i, List.getElem?_eq_getElem lt]
    rfl
  · have e : i = (((bs.drop 1).map V.int)).length := by rw [List.length_map, List.length_drop]; omega
    rw [List.getElem?_append_right (Nat.le_of_eq e.symm), e, Nat.sub_self, ← e, List.getElem?_eq_none (l := bs) (by omega)]
    rfl
theorem if_read {t : TT} {ta tb : TE} {σ : L2.St} {H : Hp} {Q : VK} {c : Bool} {v : V} (ht : ∀ Q : Bool → Hp → Prop, Q c H → t σ H Q) (ha : c = true → ∀ Q : VK, Q v H → ta σ H Q) (hb : c = false → ∀ Q : VK, Q v H → tb σ H Q) (h : Q v H) : tIf t ta tb σ H Q := by
  refine ht _ ?_
  cases c with
  | true => exact ha rfl _ h
  | false => exact hb rfl _ h
theorem optI_non (e : Option Int) : decide (optI e = .non) = e.isNone := by
  cases e with
  | none => rfl
  | some i => exact decide_eq_false (by intro z; cases z)
section
variable {P : Program} {w : World} {K : PySem.W.Frag} {mg : Str → Option Value} {base : Heap}
/-! ### pattern_of -/
theorem scPattern : FnScope ["self", "phase", "begin", "end", "begun", "period", "count", "window"] ["self", "phase"] (defScope sPattern) := ⟨rfl, rfl, rfl, by decide +kernel, rfl, by decide +kernel, by decide +kernel⟩
def spPattern (K : PySem.W.Frag) (C : Addr) : Sp := fun vs H Q _ => ∃ (av : Addr → Prop) (p d : Addr) (i : Nat) (b : Int) (ws : List Win) (bs : List Int), vs = [.ref p, .int (i : Int)] ∧ FtAt av K C H p d ws bs ∧ bs[i]? = some b ∧
  ∀ (H' : Hp) (t : Addr), But d H H' → FtAt av K C H' p d ws bs → PatAt av K H' t ws b bs[i + 1]? → Q (.ref t) H'
theorem ok_pattern {f C fP fR : Addr} {fd fdP fdR : FuncData} {k : Nat} (F : Fun K "pattern_of" "FreeTicks.pattern_of" sPattern f fd) (hmin : mg "min" = none) (c : FtC K C) (GPe : Callee P w K mg base 1 "common_period" ["windows"] (spPeriod K) fP fdP) (GR : Callee P w K mg base 2 "runs_of" ["windows", "begin", "count"] (spRunsOf K) fR fdR) : FnOk P w K mg base CX0 (k + 3) f fd ["self", "phase"] (spPattern K C) := by
  refine F.ok scPattern (fun vs H Q E h => ?_) (fun cdv A0 outer s0 H vs Q E hr h => ?_)
  · obtain ⟨av, p, d, i, b, ws, bs, rfl, _⟩ := h
    rfl
  · obtain ⟨av, p, d, i, b, ws, bs, rfl, hF, hb, q⟩ := h
    have nd := scPattern.nd
    have hu := hu_of hr
    have hr1 : Room 1 _ := hr.mono (by omega)
    have hr2 : Room 2 _ := hr.mono (by omega)
    refine ⟨_, pss_cons (ps_if (pt_cmp (pc_dnotin hu (pv 1) (pe_fld (pv 0) rfl))) (pss_cons (ps_asg (pe_tup (pa_cons (pe_ix ix_list (pe_fld (pv 0) rfl) (pv 1) (fun _ _ => rfl)) (pa_cons (pe_ix ix_list (pe_fld (pv 0) rfl) (pv 1) (fun _ _ => rfl)) pa_nil))) (pg_tup rfl (pgs_cons (pg_name (i := 2) nd rfl (.inr rfl)) (pgs_cons (pg_name (i := 3) nd rfl (.inl rfl)) pgs_nil)))) <| pss_cons (ps_setLc (i := 4) (own := [("window", 7)]) (g := gName 7) rfl nd rfl rfl (sw_true rfl rfl rfl (by decide +kernel)) (pi_list (pe_fld (pv 0) rfl)) (blkOk_by (own := [("window", 7)]) (N := ["self", "phase", "begin", "end", "begun", "period", "count", "window"]) (sc := defScope sPattern) (by decide +kernel)) (fun _ _ _ _ _ => pg_name (i := 7) nd rfl (Or.inl rfl)) (fun _ _ _ _ _ => pts_one (pt_cmpR op_le (pe_ix (ix_tupK (K := K)) (pv 7) pe_int (fun _ _ => rfl)) (pv 2) (nomark _))) (fun _ _ _ _ _ => (pv 7))) <| pss_cons (ps_set (i := 5) nd rfl (.inl rfl) (pe_call GPe.ok hr1 (by rfl) GPe.mg GPe.kp GPe.b .nil pass0 (pa_cons (pv 4) pa_nil))) <| pss_cons (ps_set (i := 6) nd rfl (.inl rfl) (pe_ifExp (pt_cmpR op_isN (pv 3) pe_non (nomark _)) (pe_op op_mul pe_int (pv 5)) (pe_callB (call_min2 rfl) (by rfl) hmin (by decide +kernel) (pa_cons (pe_op op_mul pe_int (pv 5)) (pa_cons (pe_op op_sub (pv 3) (pv 2)) pa_nil))))) <| pss_one (ps_dput hu (pe_fld (pv 0) rfl) (pv 1) (pe_tup (pa_cons (pv 5) (pa_cons (pe_call GR.ok hr2 (by rfl) GR.mg GR.kp GR.b .nil pass0 (pa_cons (pv 4) (pa_cons (pv 2) (pa_cons (pv 6) pa_nil)))) pa_nil))) rfl)) (pss_nil)) <| pss_one (ps_ret (pe_dget hu (pe_fld (pv 0) rfl) (pv 1) (fun _ _ => rfl))), ?_⟩
    obtain ⟨gw, beg, dx, wl, bl, el, us, kvs, h1, h2, h3, h4, h5, h6, h7, h8, h9, ha, hx⟩ := id hF
    have lt : i < bs.length := (List.getElem?_eq_some_iff.mp hb).1
    refine ⟨_, rfl, _, rfl, p, C, dx, _, _, rfl, h1, c.cl, c.n4, fg4, d, _, rfl, DGet.k (k := Sum.inl (i : Int)) h6, _, rfl, ?_⟩
    cases ev : valV kvs (Sum.inl (i : Int)) with
    | some v =>
      obtain ⟨t, rfl, hP⟩ := h9 i b v hb ev
      refine ⟨_, rfl, p, C, dx, _, _, rfl, h1, c.cl, c.n4, fg4, _, rfl, d, _, rfl, ev ▸ DGet.k (k := Sum.inl (i : Int)) h6, ?_⟩
      exact q H t (But.refl d H) hF hP
    | none =>
      have atb : atI (bs.map V.int) (i : Int) = some (.int b) := atI_nat (by rw [List.getElem?_map, hb]; rfl)
      have ate : atI ((bs.drop 1).map V.int ++ [V.non]) (i : Int) = some (optI bs[i + 1]?) := atI_nat (ends_at lt)
      refine ⟨_, rfl, p, C, dx, _, _, rfl, h1, c.cl, c.n2, fg2, _, rfl, bl, _, _, _, rfl, rfl, SqL.of h4, atb, _, rfl, p, C, dx, _, _, rfl, h1, c.cl, c.n3, fg3, _, rfl, el, _, _, _, rfl, rfl, SqL.of h5, ate, (by show 2 ≤ sizeLine; decide), fun t0 n0 => ?_⟩
      have s1 := same_new (o := .tup [V.int b, optI bs[i + 1]?]) n0
      have ht0 := upd_same (H := H) (a := t0) (o := .tup [V.int b, optI bs[i + 1]?])
      generalize upd H t0 (.tup [V.int b, optI bs[i + 1]?]) = H1 at s1 ht0 ⊢
      refine ⟨t0, _, rfl, SqT.of ht0, rfl, _, _, rfl, _, _, rfl, rfl, ?_⟩
      refine ⟨_, rfl, p, C, dx, _, _, rfl, s1 _ _ h1, c.cl, c.n1, fg1, wl, rfl, ⟨_, SqL.of (s1 _ _ h2)⟩, fun D nD => ?_⟩
      have hw1 := WinsAt.same h3 s1
      refine lc_it walk_list (FiltAt K H1 D ws fun u => decide (u.1 ≤ b)) ⟨[], same_new nD, upd_same, Nat.le_refl _, .nil⟩ (fun i G _ ⟨us, sm, _⟩ => SqL.of (sm _ _ (s1 _ _ h2))) ?_ ?_
      · intro j x G0 G hj pG y
        obtain ⟨e, hx⟩ := y
        subst e
        obtain ⟨t, et, rfl⟩ := refs_at hx
        obtain ⟨u, eu, hT⟩ := Paired.at hw1 et
        have sm : Same H1 G := by obtain ⟨us, sm, _⟩ := pG; exact sm
        have hj8 : j < ws.length := (List.getElem?_eq_some_iff.mp eu).1
        have lw := gw.n
        refine ⟨rfl, ?_⟩
        refine ⟨_, rfl, t, _, _, _, rfl, rfl, same_tup sm hT, rfl, _, rfl, _, _, rfl, rfl, _, rfl, ?_⟩
        dsimp only
        by_cases z : decide (u.1 ≤ b) = true
        · rw [if_pos z]
          exact ⟨_, rfl, filt_yes (f := fun u => decide (u.1 ≤ b)) nD pG eu (same_tup sm hT) z (by omega)⟩
        · rw [if_neg z]
          exact filt_no (f := fun u => decide (u.1 ≤ b)) pG eu z
      · rintro G ⟨us2, sm, hD, lus, hus⟩
        rw [List.length_map, hw1.length, List.take_length] at hus
        have eB : (ws.filter fun u => decide (u.1 ≤ b)) = bgn ws b := rfl
        rw [eB] at hus
        have gB := gw.bgn b
        have pB := gw.perL b
        have bB := gw.beg beg (List.mem_of_getElem? hb)
        refine ⟨_, rfl, D, us2, bgn ws b, rfl, SqL.of hD, hus, fun u hu => gB.p u hu, gB.n, ?_⟩
        have nlt : ∀ e1, bs[i + 1]? = some e1 → b < e1 := fun e1 h => beg.lt hb h (by omega)
        dsimp only [gName, tSeq, tAsg]
        refine if_read (c := (bs[i + 1]?).isNone) (v := .int ((cntL ws b bs[i + 1]? : Nat) : Int)) (fun Q q => ⟨_, rfl, rfl, _, rfl, by rw [optI_non]; exact q⟩) (fun z Q q => ?_) (fun z Q q => ?_) ?_
        · rw [Option.isNone_iff_eq_none.mp z] at q
          refine ⟨_, rfl, _, _, rfl, rfl, .inl ⟨by decide, by decide⟩, ?_⟩
          have e : ((cntL ws b none : Nat) : Int) = 2 * ((lcmW (bgn ws b) : Nat) : Int) := by
            show ((2 * lcmW (bgn ws b) : Nat) : Int) = _
            rw [Int.natCast_mul]
            rfl
          rw [e] at q
          exact q
        · obtain ⟨e1, he1⟩ : ∃ e1, bs[i + 1]? = some e1 := by
            cases y : bs[i + 1]? with
            | none => rw [y] at z; cases z
            | some e1 => exact ⟨e1, rfl⟩
          have := nlt e1 he1
          rw [he1] at q ⊢
          have pB : 1 ≤ lcmW (bgn ws b) ∧ lcmW (bgn ws b) ≤ 24 := pB
          refine ⟨_, rfl, _, _, rfl, rfl, .inl ⟨by decide, by decide⟩, _, rfl, _, rfl, _, _, rfl, rfl, _, _, rfl, ?_⟩
          have e : ((cntL ws b (some e1) : Nat) : Int) = if e1 - b < 2 * ((lcmW (bgn ws b) : Nat) : Int) then e1 - b else 2 * ((lcmW (bgn ws b) : Nat) : Int) := by
            show ((min (2 * lcmW (bgn ws b)) (e1 - b).toNat : Nat) : Int) = _
            split <;> omega
          rw [e] at q
          exact q
        · have cn : cntL ws b bs[i + 1]? ≤ 48 := by
            have pB : 1 ≤ lcmW (bgn ws b) ∧ lcmW (bgn ws b) ≤ 24 := pB
            cases bs[i + 1]? with
            | none => show 2 * lcmW (bgn ws b) ≤ 48; omega
            | some e1 => show min (2 * lcmW (bgn ws b)) (e1 - b).toNat ≤ 48; omega
          obtain ⟨n, hn⟩ : ∃ n, cntL ws b bs[i + 1]? = n := ⟨_, rfl⟩
          rw [hn] at cn ⊢
          have s2 := s1.trans sm
          refine ⟨_, rfl, _, rfl, _, rfl, _, rfl, D, us2, bgn ws b, b, n, rfl, SqL.of hD, hus, fun u hu => ⟨(gB.o u hu).1, of_decide_eq_true (List.mem_filter.mp hu).2, by have := (gB.l u hu).1; omega, by have := (gB.l u hu).2; omega, (gB.p u hu).1, by have := (gB.p u hu).2; omega⟩, by omega, by omega, fun H4 r us4 s4 nr hr4 hR4 => ?_⟩
          refine ⟨(by show 2 ≤ sizeLine; decide), fun t nt => ?_⟩
          have s5 := same_new (o := .tup [V.int ((lcmW (bgn ws b) : Nat) : Int), V.ref r]) nt
          have ht5 := upd_same (H := H4) (a := t) (o := .tup [V.int ((lcmW (bgn ws b) : Nat) : Int), V.ref r])
          generalize upd H4 t (.tup [V.int ((lcmW (bgn ws b) : Nat) : Int), V.ref r]) = H5 at s5 ht5 ⊢
          have s6 := (s2.trans s4).trans s5
          have hP : PatAt av K H5 t ws b bs[i + 1]? := ⟨r, us4, SqT.of ht5, SqL.of (s5 _ _ hr4), by rw [hn]; exact runs_same hR4 s5, fun z => by
            obtain ⟨o, ho⟩ := hx r z
            rw [s2.free nr] at ho
            cases ho⟩
          have d5 := s6 _ _ h6
          have lk : kvs.length ≤ bs.length := by
            have := keys_few h7 h8
            rw [List.length_map] at this
            exact this
          have lb : bs.length ≤ 61 := by
            have := few_L (n := 61) (beg.asc.imp fun h => by omega) fun x hx => by
              have := gw.beg beg hx
              omega
            exact this
          refine ⟨_, rfl, p, C, dx, _, _, rfl, s6 _ _ h1, c.cl, c.n4, fg4, _, rfl, d, _, rfl, DPut.k (k := Sum.inl (i : Int)) d5 (szl (by omega)), ?_⟩
          have k7 : But d H5 (upd H5 d (.dK (putK kvs (Sum.inl (i : Int)) (.ref t)))) := but_self
          have d7 := upd_same (H := H5) (a := d) (o := .dK (putK kvs (Sum.inl (i : Int)) (.ref t)))
          generalize upd H5 d (.dK (putK kvs (Sum.inl (i : Int)) (.ref t))) = H7 at k7 d7 ⊢
          have p5 := s6 _ _ h1
          have p7 : H7 p = some (.ins C dx (ftF wl bl el d)) := k7 _ _ p5 (ne_of p5 d5 (by intro z; cases z))
          have kH7 : But d H H7 := But.trans (but_of s6) k7
          have hP7 := hP.butK d5 k7
          have get : valV (putK kvs (Sum.inl (i : Int)) (.ref t)) (Sum.inl (i : Int)) = some (.ref t) := by rw [valV_put, if_pos rfl]
          have hF7 : FtAt av K C H7 p d ws bs := by
            refine ⟨gw, beg, dx, wl, bl, el, us, putK kvs (Sum.inl (i : Int)) (.ref t), p7, lst_butK (s6 _ _ h2) d5 k7, wins_butK (WinsAt.same h3 s6) d5 k7, lst_butK (s6 _ _ h4) d5 k7, lst_butK (s6 _ _ h5) d5 k7, d7, nd_putK _ h7 ev, fun k hk => ?_, fun j b' v hb' hv => ?_, ha, fun x z => ?_⟩
            · rw [putK_new _ ev, List.map_append] at hk
              rcases List.mem_append.mp hk with z | z
              · exact h8 k z
              · exact ⟨i, lt, List.mem_singleton.mp z⟩
            · rw [valV_put] at hv
              by_cases z : (Sum.inl (j : Int) : Key) = Sum.inl (i : Int)
              · rw [if_pos z] at hv
                injection z with z
                have z : j = i := by omega
                subst z
                rw [hb] at hb'
                cases hb'
                cases hv
                exact ⟨t, rfl, hP7⟩
              · rw [if_neg z] at hv
                obtain ⟨t', z1, z2⟩ := h9 j b' v hb' hv
                exact ⟨t', z1, (z2.same s6).butK d5 k7⟩
            · obtain ⟨o, ho⟩ := hx x z
              by_cases e : x = d
              · exact ⟨_, e ▸ d7⟩
              · exact ⟨o, k7 _ _ (s6 _ _ ho) e⟩
          refine ⟨_, rfl, p, C, dx, _, _, rfl, p7, c.cl, c.n4, fg4, _, rfl, d, _, rfl, get ▸ DGet.k (k := Sum.inl (i : Int)) d7, ?_⟩
          exact q H7 t kH7 hF7 hP7
end
end My
namespace My
open PySem PySem.Spec PyProof.Rows L2
def waitD (place : Int) (r : Int × Int) : Int := if 0 > r.1 - place then 0 else r.1 - place
def fitsD (place len : Int) (r : Int × Int) : Bool := decide (place + waitD place r + len ≤ r.2)
def endsBy (s len : Int) : Option Int → Bool
  | none => true
  | some e => decide (s + len ≤ e)
def sipD (ws : List Win) (b : Int) (e : Option Int) (tick len : Int) : Option Int :=
  if endsBy tick len e = true then
    match (runsL (bgn ws b) b (cntL ws b e)).find? (fitsD ((tick - b) % ((perL ws b : Nat) : Int)) len) with
    | none => none
    | some r => if endsBy (tick + waitD ((tick - b) % ((perL ws b : Nat) : Int)) r) len e = true then some (tick + waitD ((tick - b) % ((perL ws b : Nat) : Int)) r) else none
  else none
theorem or_readC {t u : TT} {σ : L2.St} {H : Hp} {Q : Bool → Hp → Prop} {a b : Bool} (ht : ∀ Q : Bool → Hp → Prop, Q a H → t σ H Q) (hu : a = false → ∀ Q : Bool → Hp → Prop, Q b H → u σ H Q) (h : Q (a || b) H) : tOr t u σ H Q := by
  refine ht _ ?_
  cases a with
  | true => exact h
  | false => exact hu rfl _ h
theorem some_of {o : Option Int} (h : o.isNone = false) : ∃ e, o = some e := by
  cases o with
  | none => cases h
  | some e => exact ⟨e, rfl⟩
theorem find_at {α : Type} {l : List α} {f : α → Bool} {j : Nat} {x : α} (n : (l.take j).find? f = none) (e : l[j]? = some x) (y : f x = true) : l.find? f = some x := by
  have h : (l.take (j + 1)).find? f = some x := by
    rw [take_snoc e, List.find?_append, n, List.find?_cons, y]
    rfl
  rw [← List.take_append_drop (j + 1) l, List.find?_append, h]
  rfl
theorem find_next {α : Type} {l : List α} {f : α → Bool} {j : Nat} {x : α} (n : (l.take j).find? f = none) (e : l[j]? = some x) (y : f x = false) : (l.take (j + 1)).find? f = none := by
  rw [take_snoc e, List.find?_append, n, List.find?_cons, y]
  rfl
section
variable {P : Program} {w : World} {K : PySem.W.Frag} {mg : Str → Option Value} {base : Heap}
structure MethOf (P : Program) (w : World) (K : PySem.W.Frag) (mg : Str → Option Value) (base : Heap) (k : Nat) (ps : List Str) (sp : Sp) (f : Addr) (fd : FuncData) : Prop where
  ok : FnOk P w K mg base CX0 k f fd ps sp
  b : Binds K fd ps []
/-! ### start_in_phase -/
theorem scStart : FnScope ["self", "phase", "tick", "length", "end", "period", "runs", "place", "first", "behind", "wait"] ["self", "phase", "tick", "length"] (defScope sStart) := ⟨rfl, rfl, rfl, by decide +kernel, rfl, by decide +kernel, by decide +kernel⟩
-- ["self", "phase", "tick", "length", "end", "period", "runs", "place", "first", "behind", "wait"]
def spStart (K : PySem.W.Frag) (C : Addr) : Sp := fun vs H Q _ => ∃ (av : Addr → Prop) (p d : Addr) (i : Nat) (b tick len : Int) (ws : List Win) (bs : List Int), vs = [.ref p, .int (i : Int), .int tick, .int len] ∧ FtAt av K C H p d ws bs ∧ bs[i]? = some b ∧
  ∀ (H' : Hp), But d H H' → FtAt av K C H' p d ws bs → Q (optI (sipD ws b bs[i + 1]? tick len)) H'
theorem ok_start {f C fP : Addr} {fd fdP : FuncData} {k : Nat} (F : Fun K "start_in_phase" "FreeTicks.start_in_phase" sStart f fd) (hmax : mg "max" = none) (c : FtC K C) (mPa : Meth K C "pattern_of" fP) (GPa : MethOf P w K mg base 3 ["self", "phase"] (spPattern K C) fP fdP) : FnOk P w K mg base CX0 (k + 4) f fd ["self", "phase", "tick", "length"] (spStart K C) := by
  refine F.ok scStart (fun vs H Q E h => ?_) (fun cdv A0 outer s0 H vs Q E hr h => ?_)
  · obtain ⟨av, p, d, i, b, tick, len, ws, bs, rfl, _⟩ := h
    rfl
  · obtain ⟨av, p, d, i, b, tick, len, ws, bs, rfl, hF, hb, q⟩ := h
    have nd := scStart.nd
    have hr3 : Room 3 _ := hr.mono (by omega)
    refine ⟨_, pss_cons (ps_set (i := 4) nd rfl (.inl rfl) (pe_ix ix_list (pe_fld (pv 0) rfl) (pv 1) (fun _ _ => rfl))) <| pss_cons (ps_if (PW.pt (pw_and (pt_cmpR op_notN (pv 4) pe_non (nomark _)) (pw_and1 (pt_cmpR op_gt (pe_op op_add (pv 2) (pv 3)) (pv 4) (nomark _))))) (pss_one (ps_ret pe_non)) (pss_nil)) <| pss_cons (ps_asg (pe_meth (pv 0) c.cl mPa GPa.ok hr3 GPa.b .nil pass0 (pa_cons (pv 1) pa_nil)) (pg_tup rfl (pgs_cons (pg_name (i := 5) nd rfl (.inl rfl)) (pgs_cons (pg_name (i := 6) nd rfl (.inl rfl)) pgs_nil)))) <| pss_cons (ps_set (i := 7) nd rfl (.inl rfl) (pe_op op_mod (pe_op op_sub (pv 2) (pe_ix ix_list (pe_fld (pv 0) rfl) (pv 1) (fun _ _ => rfl))) (pv 5))) <| pss_cons (ps_for PassesOwn.never rfl (pi_list (pv 6)) (pg_tup rfl (pgs_cons (pg_name (i := 8) nd rfl (.inl rfl)) (pgs_cons (pg_name (i := 9) nd rfl (.inl rfl)) pgs_nil))) (pss_cons (ps_set (i := 10) nd rfl (.inl rfl) (pe_callB (call_max2 rfl) (by rfl) hmax (by decide +kernel) (pa_cons (pe_op op_sub (pv 8) (pv 7)) (pa_cons pe_int pa_nil)))) <| pss_one (ps_if (pt_cmpR op_le (pe_op op_add (pe_op op_add (pv 7) (pv 10)) (pv 3)) (pv 9) (nomark _)) (pss_one (ps_ret (pe_ifExp (PW.pt (pw_or (pt_cmpR op_isN (pv 4) pe_non (nomark _)) (pw_or1 (pt_cmpR op_le (pe_op op_add (pe_op op_add (pv 2) (pv 10)) (pv 3)) (pv 4) (nomark _))))) (pe_op op_add (pv 2) (pv 10)) pe_non))) (pss_nil)))) <| pss_one (ps_ret pe_non), ?_⟩
    obtain ⟨gw, beg, dx, wl, bl, el, us, kvs, h1, h2, h3, h4, h5, h6, h7, h8, h9⟩ := id hF
    have lt : i < bs.length := (List.getElem?_eq_some_iff.mp hb).1
    have ate : atI ((bs.drop 1).map V.int ++ [V.non]) (i : Int) = some (optI bs[i + 1]?) := atI_nat (ends_at lt)
    refine ⟨_, rfl, p, C, dx, _, _, rfl, h1, c.cl, c.n3, fg3, _, rfl, el, _, _, _, rfl, rfl, SqL.of h5, ate, ?_⟩
    dsimp only [gName, tSeq, tIfS]
    refine and_read (a := !(bs[i + 1]?).isNone) (b := !endsBy tick len bs[i + 1]?) (fun Q q => ⟨_, rfl, rfl, _, rfl, by rw [optI_non]; exact q⟩) (fun z Q q => ?_) ?_
    · obtain ⟨e1, he1⟩ := some_of (by rw [Bool.not_eq_true'] at z; exact z)
      rw [he1] at q ⊢
      refine ⟨_, rfl, _, rfl, _, _, rfl, rfl, _, rfl, _, _, rfl, rfl, _, rfl, ?_⟩
      have e : (!endsBy tick len (some e1)) = decide (e1 < tick + len) := by
        show (!decide (tick + len ≤ e1)) = _
        rw [← decide_not]
        exact decide_eq_decide.mpr (by omega)
      rw [e] at q
      exact q
    have e0 : (!(bs[i + 1]?).isNone && !endsBy tick len bs[i + 1]?) = !endsBy tick len bs[i + 1]? := by
      cases bs[i + 1]? <;> rfl
    rw [e0]
    obtain ⟨e, he⟩ : ∃ e, bs[i + 1]? = e := ⟨_, rfl⟩
    rw [he] at q ⊢
    by_cases z : endsBy tick len e = true
    · rw [z]
      refine ⟨_, rfl, p, dx, _, rfl, h1, fm3, _, rfl, av, p, d, i, b, ws, bs, rfl, hF, hb, fun H1 t kb hF1 hP => ?_⟩
      rw [he] at hP
      obtain ⟨r, us2, hT, hr', hR, _⟩ := hP
      obtain ⟨_, _, dx1, wl1, bl1, el1, us1, kvs1, k1, _, _, k4, _⟩ := id hF1
      have pB := gw.perL b
      have atb : atI (bs.map V.int) (i : Int) = some (.int b) := atI_nat (by rw [List.getElem?_map, hb]; rfl)
      refine ⟨t, _, rfl, hT, rfl, _, _, rfl, _, _, rfl, rfl, ?_⟩
      refine ⟨_, rfl, _, rfl, p, C, dx1, _, _, rfl, k1, c.cl, c.n2, fg2, _, rfl, bl1, _, _, _, rfl, rfl, SqL.of k4, atb, _, _, rfl, rfl, _, rfl, _, _, rfl, rfl, (by omega), ?_⟩
      obtain ⟨pl, hpl⟩ : ∃ pl, (tick - b) % ((perL ws b : Nat) : Int) = pl := ⟨_, rfl⟩
      have q : Q (optI (match (runsL (bgn ws b) b (cntL ws b e)).find? (fitsD pl len) with
        | none => none
        | some r => if endsBy (tick + waitD pl r) len e = true then some (tick + waitD pl r) else none)) H1 := by
        have q := q H1 kb hF1
        unfold sipD at q
        rw [if_pos z, hpl] at q
        exact q
      obtain ⟨rs, hrs⟩ : ∃ rs, runsL (bgn ws b) b (cntL ws b e) = rs := ⟨_, rfl⟩
      rw [hrs] at q hR
      dsimp only
      rw [hpl]
      refine ⟨_, rfl, r, rfl, ⟨_, hr'⟩, for_list (K := K) (a := r) (xs := us2.map V.ref) (fun j σ H' => ∃ v8 v9 v10 : Option V, σ = [some (.ref p), some (.int (i : Int)), some (.int tick), some (.int len), some (optI e), some (.int ((perL ws b : Nat) : Int)), some (.ref r), some (.int pl), v8, v9, v10] ∧ H' = H1 ∧ (rs.take j).find? (fitsD pl len) = none) ⟨none, none, none, rfl, rfl, rfl⟩ (fun j σ H' _ ⟨_, _, _, _, e, _⟩ => e ▸ hr') ?_ ?_⟩
      · rintro j x σ H' hx ⟨v8, v9, v10, rfl, rfl, hn⟩
        obtain ⟨t2, et, rfl⟩ := refs_at hx
        obtain ⟨u, eu, hT2⟩ := Paired.at hR et
        refine ⟨t2, _, rfl, hT2, rfl, _, _, rfl, _, _, rfl, rfl, ?_⟩
        refine ⟨_, rfl, _, rfl, _, _, rfl, rfl, _, _, rfl, ?_⟩
        refine ⟨_, rfl, _, rfl, _, _, rfl, rfl, _, rfl, _, _, rfl, rfl, _, rfl, _, _, rfl, rfl, _, rfl, ?_⟩
        dsimp only
        by_cases f : fitsD pl len u = true
        · have f' : decide (pl + (if 0 > u.1 - pl then 0 else u.1 - pl) + len ≤ u.2) = true := f
          rw [f', if_pos rfl]
          rw [find_at hn eu f] at q
          have q : Q (optI (if endsBy (tick + waitD pl u) len e = true then some (tick + waitD pl u) else none)) H' := q
          obtain ⟨wt, hwt⟩ : ∃ wt, waitD pl u = wt := ⟨_, rfl⟩
          have hwt' : (if 0 > u.1 - pl then 0 else u.1 - pl) = wt := hwt
          rw [hwt] at q
          rw [hwt']
          refine if_read (c := endsBy (tick + wt) len e) (fun Q q => ?_) (fun y Q q => ?_) (fun y Q q => ?_) q
          · refine or_readC (a := e.isNone) (b := endsBy (tick + wt) len e) (fun Q q => ⟨_, rfl, rfl, _, rfl, by rw [optI_non]; exact q⟩) (fun z Q q => ?_) ?_
            · obtain ⟨e1, rfl⟩ := some_of z
              exact ⟨_, rfl, _, rfl, _, _, rfl, rfl, _, rfl, _, _, rfl, rfl, _, rfl, _, _, rfl, rfl, _, rfl, q⟩
            · cases e with
              | none => exact q
              | some e1 => exact q
          · rw [if_pos y] at q
            exact ⟨_, rfl, _, rfl, _, _, rfl, rfl, q⟩
          · rw [if_neg (by rw [y]; exact Bool.false_ne_true)] at q
            exact q
        · have f' : decide (pl + (if 0 > u.1 - pl then 0 else u.1 - pl) + len ≤ u.2) = false := by
            have : fitsD pl len u = false := by
              cases y : fitsD pl len u with
              | true => exact absurd y f
              | false => rfl
            exact this
          rw [f']
          exact ⟨_, _, _, rfl, rfl, find_next hn eu f'⟩
      · rintro σ H' ⟨v8, v9, v10, rfl, rfl, hn⟩
        rw [List.length_map, hR.length, List.take_length] at hn
        rw [hn] at q
        exact q
    · have z : endsBy tick len e = false := by
        cases y : endsBy tick len e with
        | true => exact absurd y z
        | false => rfl
      rw [z]
      have q := q H (But.refl d H) hF
      unfold sipD at q
      rw [if_neg (by rw [z]; exact Bool.false_ne_true)] at q
      exact q
end
end My
namespace My
open PySem PySem.Spec PyProof.Rows L2
abbrev sSend : Stmt := top 4 /-send_others-/
def phaseD (ws : List Win) (bs : List Int) (tick len : Int) (i : Nat) : Option Int :=
  match bs[i]? with
  | none => none
  | some b => sipD ws b bs[i + 1]? (if b > tick then b else tick) len
def earlD (ws : List Win) (bs : List Int) (tick len : Int) : Option Int :=
  match bs with
  | [] => some tick
  | b0 :: _ => if tick + len ≤ b0 then some tick else (List.range bs.length).findSome? (phaseD ws bs tick len)
theorem fs_at {β : Type} {f : Nat → Option β} {i n : Nat} {s : β} (h : (List.range i).findSome? f = none) (e : f i = some s) (lt : i < n) : (List.range n).findSome? f = some s := by
  have h2 : (List.range (i + 1)).findSome? f = some s := by
    rw [List.range_succ, List.findSome?_append, h, List.findSome?_cons, e]
    rfl
  have t : (List.range n).take (i + 1) = List.range (i + 1) := by
    rw [List.take_range]
    congr 1
    omega
  rw [← List.take_append_drop (i + 1) (List.range n), List.findSome?_append, t, h2]
  rfl
theorem fs_next {β : Type} {f : Nat → Option β} {i : Nat} (h : (List.range i).findSome? f = none) (e : f i = none) : (List.range (i + 1)).findSome? f = none := by
  rw [List.range_succ, List.findSome?_append, h, List.findSome?_cons, e]
  rfl
section
variable {P : Program} {w : World} {K : PySem.W.Frag} {mg : Str → Option Value} {base : Heap}
/-! ### earliest_start -/
theorem scEarliest : FnScope ["self", "tick", "length", "phase", "begin", "start"] ["self", "tick", "length"] (defScope sEarliest) := ⟨rfl, rfl, rfl, by decide +kernel, rfl, by decide +kernel, by decide +kernel⟩
-- ["self", "tick", "length", "phase", "begin", "start"]
def spEarl (K : PySem.W.Frag) (C : Addr) : Sp := fun vs H Q _ => ∃ (av : Addr → Prop) (p d : Addr) (tick len : Int) (ws : List Win) (bs : List Int), vs = [.ref p, .int tick, .int len] ∧ FtAt av K C H p d ws bs ∧
  ∀ (H' : Hp), But d H H' → FtAt av K C H' p d ws bs → Q (optI (earlD ws bs tick len)) H'
theorem ok_earl {f C fS : Addr} {fd fdS : FuncData} {k : Nat} (F : Fun K "earliest_start" "FreeTicks.earliest_start" sEarliest f fd) (hmax : mg "max" = none) (henum : mg "enumerate" = none) (c : FtC K C) (mSt : Meth K C "start_in_phase" fS) (GSt : MethOf P w K mg base 4 ["self", "phase", "tick", "length"] (spStart K C) fS fdS) : FnOk P w K mg base CX0 (k + 5) f fd ["self", "tick", "length"] (spEarl K C) := by
  refine F.ok scEarliest (fun vs H Q E h => ?_) (fun cdv A0 outer s0 H vs Q E hr h => ?_)
  · obtain ⟨av, p, d, tick, len, ws, bs, rfl, _⟩ := h
    rfl
  · obtain ⟨av, p, d, tick, len, ws, bs, rfl, hF, q⟩ := h
    have nd := scEarliest.nd
    have hr4 : Room 4 _ := hr.mono (by omega)
    refine ⟨_, pss_cons (ps_if (PW.pt (pw_or (pt_not (pt_truth (pe_fld (pv 0) rfl) (by intro _; rfl))) (pw_or1 (pt_cmpR op_le (pe_op op_add (pv 1) (pv 2)) (pe_ix ix_list (pe_fld (pv 0) rfl) pe_int (fun _ _ => rfl)) (nomark _))))) (pss_one (ps_ret (pv 1))) (pss_nil)) <| pss_cons (ps_for PassesOwn.never rfl (pi_enum (by rfl) henum (pa_cons (pe_fld (pv 0) rfl) pa_nil)) (pg_tup rfl (pgs_cons (pg_name (i := 3) nd rfl (.inl rfl)) (pgs_cons (pg_name (i := 4) nd rfl (.inl rfl)) pgs_nil))) (pss_cons (ps_set (i := 5) nd rfl (.inl rfl) (pe_meth (pv 0) c.cl mSt GSt.ok hr4 GSt.b .nil pass0 (pa_cons (pv 3) (pa_cons (pe_callB (call_max2 rfl) (by rfl) hmax (by decide +kernel) (pa_cons (pv 1) (pa_cons (pv 4) pa_nil))) (pa_cons (pv 2) pa_nil))))) <| pss_one (ps_if (pt_cmpR op_notN (pv 5) pe_non (nomark _)) (pss_one (ps_ret (pv 5))) (pss_nil)))) <| pss_one (ps_ret pe_non), ?_⟩
    obtain ⟨gw, beg, dx, wl, bl, el, us, kvs, h1, h2, h3, h4, h5, h6, h7, h8, h9⟩ := id hF
    dsimp only [gName, tSeq, tIfS]
    obtain ⟨g, hg⟩ : ∃ g : Bool, g = (match bs with | [] => true | b0 :: _ => decide (tick + len ≤ b0)) := ⟨_, rfl⟩
    have hG : FtAt av K C H p d ws bs ∧ But d H H := ⟨hF, But.refl d H⟩
    refine or_readC (a := bs.isEmpty) (b := g) (fun Q q => ?_) (fun z Q q1 => ?_) ?_
    · refine ⟨_, rfl, p, C, dx, _, _, rfl, h1, c.cl, c.n2, fg2, !bs.isEmpty, .inl ⟨_, SqL.of h4, ?_⟩, ?_⟩
      · cases bs <;> rfl
      · show Q (!(!bs.isEmpty)) H
        rw [Bool.not_not]
        exact q
    · cases bs with
      | nil => cases z
      | cons b0 r =>
        refine ⟨_, rfl, _, rfl, _, _, rfl, rfl, _, rfl, p, C, dx, _, _, rfl, h1, c.cl, c.n2, fg2, bl, _, _, _, rfl, rfl, SqL.of h4, atI_int (ns := b0 :: r) (i := 0) (Nat.succ_pos _), _, _, rfl, rfl, _, rfl, ?_⟩
        rw [hg] at q1
        exact q1
    by_cases y : (bs.isEmpty || g) = true
    · rw [if_pos y]
      have q := q H (But.refl d H) hF
      have e : earlD ws bs tick len = some tick := by
        cases bs with
        | nil => rfl
        | cons b0 r =>
          rw [hg] at y
          have y : decide (tick + len ≤ b0) = true := y
          show (if tick + len ≤ b0 then some tick else _) = _
          rw [if_pos (of_decide_eq_true y)]
      rw [e] at q
      exact ⟨_, rfl, q⟩
    · rw [if_neg y]
      have e : earlD ws bs tick len = (List.range bs.length).findSome? (phaseD ws bs tick len) := by
        cases bs with
        | nil => exact absurd rfl y
        | cons b0 r =>
          rw [hg] at y
          have y : ¬ decide (tick + len ≤ b0) = true := y
          show (if tick + len ≤ b0 then some tick else _) = _
          rw [if_neg (fun z => y (decide_eq_true z))]
      rw [e] at q
      refine ⟨_, rfl, p, C, dx, _, _, rfl, h1, c.cl, c.n2, fg2, bl, _, rfl, SqL.of h4, for_it (walk_enum (K := K) (a := bl) (xs := bs.map V.int)) (fun i σ H' => ∃ v3 v4 v5 : Option V, σ = [some (.ref p), some (.int tick), some (.int len), v3, v4, v5] ∧ But d H H' ∧ FtAt av K C H' p d ws bs ∧ (List.range i).findSome? (phaseD ws bs tick len) = none) ⟨none, none, none, rfl, But.refl d H, hF, rfl⟩ (fun i σ H' _ ⟨_, _, _, _, kb, _⟩ => SqL.of (lst_butK h4 h6 kb)) ?_ ?_⟩
      · rintro i x σ H2 H3 hi ⟨v3, v4, v5, rfl, kb, hF2, hn⟩ ⟨t, y, z, rfl, nt, rfl, hy, hz⟩
        cases hy
        have hz : (bs.map V.int)[i]? = some z := hz
        rw [List.getElem?_map] at hz
        obtain ⟨b, hb, rfl⟩ := Option.map_eq_some_iff.mp hz
        have lt : i < bs.length := (List.getElem?_eq_some_iff.mp hb).1
        have st := same_new (o := .tup [V.int ((i : Nat) : Int), V.int b]) nt
        have hF3 := hF2.same st
        have kb3 := But.trans kb (but_of st)
        have ht := upd_same (H := H2) (a := t) (o := .tup [V.int ((i : Nat) : Int), V.int b])
        generalize upd H2 t (.tup [V.int ((i : Nat) : Int), V.int b]) = H3 at st hF3 kb3 ht ⊢
        obtain ⟨_, _, dx3, wl3, bl3, el3, us3, kvs3, p3, _⟩ := id hF3
        refine ⟨t, _, rfl, SqT.of ht, rfl, _, _, rfl, _, _, rfl, rfl, ?_⟩
        refine ⟨_, rfl, p, dx3, _, rfl, p3, fm2, _, rfl, _, rfl, _, rfl, _, _, rfl, _, rfl, av, p, d, i, b, _, len, ws, bs, rfl, hF3, hb, fun H4 kb4 hF4 => ?_⟩
        have eph : phaseD ws bs tick len i = sipD ws b bs[i + 1]? (if b > tick then b else tick) len := by
          unfold phaseD
          rw [hb]
        rw [← eph]
        obtain ⟨o, ho⟩ : ∃ o, phaseD ws bs tick len i = o := ⟨_, rfl⟩
        rw [ho]
        refine ⟨_, rfl, rfl, _, rfl, ?_⟩
        rw [optI_non]
        cases o with
        | none => exact ⟨_, _, _, rfl, But.trans kb3 kb4, hF4, fs_next hn ho⟩
        | some v =>
          refine ⟨_, rfl, ?_⟩
          have q := q H4 (But.trans kb3 kb4) hF4
          rw [fs_at hn ho lt] at q
          exact q
      · rintro σ H' ⟨v3, v4, v5, rfl, kb, hF2, hn⟩
        rw [List.length_map] at hn
        have q := q H' kb hF2
        rw [hn] at q
        exact q
end
end My
namespace My
open PySem PySem.Spec PyProof.Rows L2
theorem same_make {H1 H' : Hp} {x dx : Addr} {o1 o2 : HO} (nx : H1 x = none) (ndx : H1 dx = none) (kb : ∀ b o, (upd (upd H1 dx o1) x o2) b = some o → b ≠ x → H' b = some o) : Same H1 H' := fun b u e => kb b u (by rw [upd_ne (ne_of_none e nx), upd_ne (ne_of_none e ndx)]; exact e) (ne_of_none e nx)
theorem same_make0 {H1 : Hp} {x dx : Addr} {o1 o2 : HO} (nx : H1 x = none) (ndx : H1 dx = none) : Same H1 (upd (upd H1 dx o1) x o2) := fun b u e => by rw [upd_ne (ne_of_none e nx), upd_ne (ne_of_none e ndx)]; exact e
theorem seq_butN {K : PySem.W.Frag} {H H' : Hp} {l a : Addr} {xs : List V} (h : SqL K H a xs) (ne : a ≠ l) (kb : But l H H') : SqL K H' a xs := by
  rcases h with (h | ⟨o, h⟩) | h
  · exact .inl (.inl (kb _ _ h ne))
  · exact .inl (.inr ⟨o, kb _ _ h ne⟩)
  · exact .inr h
/-- a foreign list changes -/
theorem FtAt.butL {av : Addr → Prop} {K : PySem.W.Frag} {C : Addr} {H H' : Hp} {p d l : Addr} {ws : List Win} {bs : List Int} {ys : List V} {o' : HO} (h : FtAt av K C H p d ws bs) (hv : av l) (hl : H l = some (.lst ys)) (kb : But l H H') (hl' : H' l = some o') : FtAt av K C H' p d ws bs := by
  obtain ⟨g, b, dx, wl, bl, el, us, kvs, h1, h2, h3, h4, h5, h6, h7, h8, h9, ⟨a1, a2, a3⟩, hx⟩ := h
  have nv : ∀ {x : Addr}, ¬ av x → x ≠ l := fun n e => n (e ▸ hv)
  refine ⟨g, b, dx, wl, bl, el, us, kvs, kb _ _ h1 (ne_of h1 hl (by intro z; cases z)), kb _ _ h2 (nv a1), WinsAt.butL h3 hl kb, kb _ _ h4 (nv a2), kb _ _ h5 (nv a3), kb _ _ h6 (ne_of h6 hl (by intro z; cases z)), h7, h8, fun i b v e1 e2 => ?_, ⟨a1, a2, a3⟩, fun x z => ?_⟩
  · obtain ⟨t, z1, r, us, z2, z3, z4, z5⟩ := h9 i b v e1 e2
    exact ⟨t, z1, r, us, kb.tupL hl z2, seq_butN z3 (nv z5) kb, runs_but z4 hl kb, z5⟩
  · by_cases e : x = l
    · exact ⟨_, e ▸ hl'⟩
    · obtain ⟨o, z1⟩ := hx x z
      exact ⟨o, kb _ _ z1 e⟩
def stOf (f : Int → Int → Option Int) (r : Option Int) (x : Int × Int) : Option Int :=
  match r with
  | none => none
  | some r => f (if r > x.1 then r else x.1) x.2
def stepD (f : Int → Int → Option Int) (a : List (Option Int) × Option Int) (x : Int × Int) : List (Option Int) × Option Int := (a.1 ++ [stOf f a.2 x], (stOf f a.2 x).map (· + x.2))
def sendD (f : Int → Int → Option Int) (fr : List (Int × Int)) : List (Option Int) × Option Int := fr.foldl (stepD f) ([], some 0)
theorem sendD_snoc (f : Int → Int → Option Int) (fr : List (Int × Int)) (x : Int × Int) : sendD f (fr ++ [x]) = stepD f (sendD f fr) x := by
  unfold sendD
  rw [List.foldl_append]
  rfl
theorem sendD_len (f : Int → Int → Option Int) (fr : List (Int × Int)) : (sendD f fr).1.length = fr.length := by
  unfold sendD
  have gen : ∀ (fr : List (Int × Int)) (a : List (Option Int) × Option Int), (fr.foldl (stepD f) a).1.length = a.1.length + fr.length := by
    intro fr
    induction fr with
    | nil => intro a; rfl
    | cons x r ih =>
      intro a
      rw [List.foldl_cons, ih, List.length_cons]
      show (a.1 ++ [_]).length + r.length = _
      rw [List.length_append]
      have : [stOf f a.2 x].length = 1 := rfl
      omega
  rw [gen]
  exact Nat.zero_add _
/-- how the class's object is made -/
structure FtMk (P : Program) (w : World) (K : PySem.W.Frag) (mg : Str → Option Value) (base : Heap) (C f : Addr) (fd : FuncData) : Prop where
  ok : FnOk P w K mg base CX0 1 f fd ["self", "windows"] (spFtInit K C)
  mg : mg "FreeTicks" = some (.ref C)
  mkC : Mk K C f
  b : Binds K fd ["self", "windows"] []
theorem if_readH {t : TT} {ta tb : TE} {σ : L2.St} {H : Hp} {Q : VK} {c : Bool} {v : V} {G : Hp → Prop} (ht : ∀ Q : Bool → Hp → Prop, Q c H → t σ H Q) (ha : c = true → ∀ Q : VK, (∀ H1, G H1 → Q v H1) → ta σ H Q) (hb : c = false → ∀ Q : VK, (∀ H1, G H1 → Q v H1) → tb σ H Q) (h : ∀ H1, G H1 → Q v H1) : tIf t ta tb σ H Q := by
  refine ht _ ?_
  cases c with
  | true => exact ha rfl _ h
  | false => exact hb rfl _ h
section
variable {P : Program} {w : World} {K : PySem.W.Frag} {mg : Str → Option Value} {base : Heap}
/-! ### send_others -/
theorem scSend : FnScope ["windows", "frames", "free", "starts", "ready", "tick", "length", "start"] ["windows", "frames"] (defScope sSend) := ⟨rfl, rfl, rfl, by decide +kernel, rfl, by decide +kernel, by decide +kernel⟩
-- ["windows", "frames", "free", "starts", "ready", "tick", "length", "start"]
def spSend (K : PySem.W.Frag) : Sp := fun vs H Q _ => ∃ (a fl : Addr) (ts us : List Addr) (ws : List Win) (fr : List (Int × Int)), vs = [.ref a, .ref fl] ∧ SqL K H a (ts.map V.ref) ∧ WinsAt K H ts ws ∧ SqL K H fl (us.map V.ref) ∧ RunsAt K H us fr ∧ GW (ws.filter fun u => decide (u.2.1 > 0)) ∧ ws.length ≤ 8 ∧ fr.length ≤ 100 ∧
  ∀ (H' : Hp) (l : Addr) (bs : List Int), Same H H' → Beg (ws.filter fun u => decide (u.2.1 > 0)) bs → H l = none → H' l = some (.lst ((sendD (earlD (ws.filter fun u => decide (u.2.1 > 0)) bs) fr).1.map optI)) → Q (.ref l) H'
theorem ok_send {f C fI fE : Addr} {fd fdI fdE : FuncData} {k : Nat} (F : Fun K "send_others" "send_others" sSend f fd) (hmax : mg "max" = none) (c : FtC K C) (GF : FtMk P w K mg base C fI fdI) (mEa : Meth K C "earliest_start" fE) (GEa : MethOf P w K mg base 5 ["self", "tick", "length"] (spEarl K C) fE fdE) : FnOk P w K mg base CX0 (k + 6) f fd ["windows", "frames"] (spSend K) := by
  refine F.ok scSend (fun vs H Q E h => ?_) (fun cdv A0 outer s0 H vs Q E hr h => ?_)
  · obtain ⟨a, fl, ts, us, ws, fr, rfl, _⟩ := h
    rfl
  · obtain ⟨a, fl, ts, us, ws, fr, rfl, ha, hw, hfl, hR, gw, hn, hm, q⟩ := h
    have nd := scSend.nd
    have hr5 : Room 5 _ := hr.mono (by omega)
    have hr2 : Room 2 _ := hr.mono (by omega)
    refine ⟨_, pss_cons (ps_set (i := 2) nd rfl (.inl rfl) (pe_make GF.mkC GF.ok hr2 (by rfl) GF.mg GF.b .nil pass0 (pa_cons (pv 0) pa_nil))) <| pss_cons (ps_set (i := 3) nd rfl (.inl rfl) (pe_lst pa_nil)) <| pss_cons (ps_set (i := 4) nd rfl (.inl rfl) pe_int) <| pss_cons (ps_for PassesOwn.never rfl (pi_list (pv 1)) (pg_tup rfl (pgs_cons (pg_name (i := 5) nd rfl (.inl rfl)) (pgs_cons (pg_name (i := 6) nd rfl (.inl rfl)) pgs_nil))) (pss_cons (ps_set (i := 7) nd rfl (.inl rfl) (pe_ifExp (pt_cmpR op_isN (pv 4) pe_non (nomark _)) pe_non (pe_meth (pv 2) c.cl mEa GEa.ok hr5 GEa.b .nil pass0 (pa_cons (pe_callB (call_max2 rfl) (by rfl) hmax (by decide +kernel) (pa_cons (pv 5) (pa_cons (pv 4) pa_nil))) (pa_cons (pv 6) pa_nil))))) <| pss_cons (ps_set (i := 4) nd rfl (.inl rfl) (pe_ifExp (pt_cmpR op_isN (pv 7) pe_non (nomark _)) pe_non (pe_op op_add (pv 7) (pv 6)))) <| pss_one (ps_expr (pe_bm PySem.F.plainAttrs_list PySem.F.slot_list_append PySem.F.type_list_append mt_append (pv 3) (pa_cons (pv 7) pa_nil))))) <| pss_one (ps_ret (pv 3)), ?_⟩
    refine ⟨_, rfl, ?_⟩
    refine fun p dx np ndx nex => ⟨p, dx, a, ts, ws, rfl, upd_same, Same.seq (same_make0 np ndx) ha, WinsAt.same hw (same_make0 np ndx), gw, hn, fun H1 d bs kb nd1 hF => ⟨rfl, ?_⟩⟩
    have s1 := same_make np ndx kb
    obtain ⟨ks, eks⟩ : ∃ ks, ws.filter (fun u => decide (u.2.1 > 0)) = ks := ⟨_, rfl⟩
    rw [eks] at q gw
    have hF : ∀ (av : Addr → Prop) (G : Hp), Same H1 G → (∀ x, av x → H1 x = none) → (∀ x, av x → ∃ o, G x = some o) → FtAt av K C G p d ks bs := by rw [← eks]; exact hF
    obtain ⟨g, hg⟩ : ∃ g, earlD ks bs = g := ⟨_, rfl⟩
    have hB : Beg ks bs := (hF (fun _ => False) H1 (Same.refl _) (fun x z => z.elim) (fun x z => z.elim)).2.1
    have ndH : H d = none := by
      cases z : H d with
      | none => rfl
      | some o => rw [same_make0 np ndx _ _ z] at nd1; cases nd1
    have q := fun H' l e1 nl e2 => q H' l bs e1 hB nl e2
    rw [hg] at q
    dsimp only [gName, tSeq, tAsg]
    refine ⟨Nat.zero_le _, fun l nl => ?_⟩
    have s2 := same_new (o := .lst []) nl
    have hl := upd_same (H := H1) (a := l) (o := .lst [])
    have hF2 := hF (fun x => x = l) _ s2 (fun x e => by rw [e]; exact nl) (fun x e => ⟨.lst [], by rw [e]; exact hl⟩)
    have s12 := s1.trans s2
    generalize upd H1 l (.lst []) = H2 at s2 hl hF2 s12 ⊢
    have nlH : H l = none := s1.free nl
    have dk : ∀ {H3 : Hp}, FtAt (fun x => x = l) K C H3 p d ks bs → ∃ kvs, H3 d = some (.dK kvs) := fun h => by
      obtain ⟨_, _, _, _, _, _, _, kvs, _, _, _, _, _, h, _⟩ := h
      exact ⟨kvs, h⟩
    refine ⟨_, rfl, fl, rfl, ⟨_, Same.seq s12 hfl⟩, for_list (K := K) (a := fl) (xs := us.map V.ref) (fun i σ H' => ∃ v5 v6 v7 : Option V, σ = [some (.ref a), some (.ref fl), some (.ref p), some (.ref l), some (optI (sendD g (fr.take i)).2), v5, v6, v7] ∧ Same H H' ∧ FtAt (fun x => x = l) K C H' p d ks bs ∧ H' l = some (.lst ((sendD g (fr.take i)).1.map optI))) ⟨none, none, none, rfl, s12, hF2, hl⟩ (fun i σ H' _ ⟨_, _, _, _, sm, _⟩ => Same.seq sm hfl) ?_ ?_⟩
    · rintro i x σ H3 hx ⟨v5, v6, v7, rfl, sm, hF3, hl3⟩
      obtain ⟨t, et, rfl⟩ := refs_at hx
      obtain ⟨u, eu, hT⟩ := Paired.at hR et
      have hi : i < fr.length := (List.getElem?_eq_some_iff.mp eu).1
      refine ⟨t, _, rfl, same_tup sm hT, rfl, _, _, rfl, _, _, rfl, rfl, ?_⟩
      have esn := sendD_snoc g (fr.take i) u
      rw [← take_snoc eu] at esn
      have eln := sendD_len g (fr.take i)
      rw [List.length_take] at eln
      obtain ⟨⟨L, r⟩, hLr⟩ : ∃ a, sendD g (fr.take i) = a := ⟨_, rfl⟩
      rw [hLr] at esn hl3 eln ⊢
      have hl3 : H3 l = some (.lst (L.map optI)) := hl3
      have esn : sendD g (fr.take (i + 1)) = (L ++ [stOf g r u], (stOf g r u).map (· + u.2)) := esn
      have eln : L.length = min i fr.length := eln
      refine if_readH (c := r.isNone) (v := optI (stOf g r u)) (G := fun H4 => But d H3 H4 ∧ FtAt (fun x => x = l) K C H4 p d ks bs) (fun Q q => ⟨_, rfl, rfl, _, rfl, by rw [optI_non]; exact q⟩) (fun z Q q => ?_) (fun z Q q => ?_) ?_
      · rw [Option.isNone_iff_eq_none.mp z] at q
        exact q H3 ⟨But.refl d H3, hF3⟩
      · obtain ⟨r1, rfl⟩ := some_of z
        obtain ⟨_, _, dx3, wl3, bl3, el3, us3, kvs3, p3, _⟩ := id hF3
        refine ⟨_, rfl, p, dx3, _, rfl, p3, fm1, _, rfl, _, rfl, _, _, rfl, _, rfl, _, p, d, _, u.2, ks, bs, rfl, hF3, fun H4 kb4 hF4 => ?_⟩
        rw [hg]
        exact q H4 ⟨kb4, hF4⟩
      · rintro H4 ⟨kb4, hF4⟩
        obtain ⟨s, hs⟩ : ∃ s, stOf g r u = s := ⟨_, rfl⟩
        rw [hs] at esn ⊢
        dsimp only [gName, tSeq, tAsg]
        refine if_read (c := s.isNone) (v := optI (s.map (· + u.2))) (fun Q q => ⟨_, rfl, rfl, _, rfl, by rw [optI_non]; exact q⟩) (fun z Q q => ?_) (fun z Q q => ?_) ?_
        · rw [Option.isNone_iff_eq_none.mp z] at q
          exact q
        · obtain ⟨s1, rfl⟩ := some_of z
          exact ⟨_, rfl, _, rfl, _, _, rfl, rfl, q⟩
        · obtain ⟨kvs3, d3⟩ := dk hF3
          have hl4 := lst_butK hl3 d3 kb4
          have lL : (L.map optI).length < 1000 := by rw [List.length_map]; omega
          have kb5 : But l H4 (upd H4 l (.lst (L.map optI ++ [optI s]))) := but_self
          have hl5 := upd_same (H := H4) (a := l) (o := .lst (L.map optI ++ [optI s]))
          refine ⟨_, rfl, .inl ⟨rfl, _, SqL.of hl4⟩, _, rfl, l, _, _, rfl, rfl, hl4, small1000 (Nat.le_of_lt lL), ?_⟩
          rw [esn]
          refine ⟨_, _, _, rfl, same_but (same_but sm ndH kb4) nlH kb5, hF4.butL rfl hl4 kb5 hl5, ?_⟩
          rw [hl5, List.map_append]
          rfl
    · rintro σ H' ⟨v5, v6, v7, rfl, sm, hF3, hl3⟩
      rw [List.length_map, hR.length, List.take_length] at hl3
      exact ⟨_, rfl, q H' l sm nlH hl3⟩
end
end My
/-! The math of the free ticks. No row, no def of the program. -/
namespace My
open PySem PySem.Spec PyProof.Rows L2
/-! ### runs -/
theorem pu_mem : ∀ {l : List Int}, l.Pairwise (· < ·) → ∀ r ∈ pairsUp l, (∃ a ∈ l, r.1 = a + 1) ∧ r.2 ∈ l ∧ ∀ x ∈ l, ¬ (r.1 ≤ x ∧ x < r.2)
  | [], _, r, h => by cases h
  | [a], _, r, h => by cases h
  | a :: c :: t, hl, r, h => by
    have hl' := List.pairwise_cons.mp hl
    have hc := List.pairwise_cons.mp hl'.2
    have h : r ∈ (if a + 1 < c then [(a + 1, c)] else []) ++ pairsUp (c :: t) := h
    rcases List.mem_append.mp h with z | z
    · by_cases lt : a + 1 < c
      · rw [if_pos lt] at z
        rw [List.mem_singleton.mp z]
        refine ⟨⟨a, List.mem_cons_self, rfl⟩, List.mem_cons_of_mem _ List.mem_cons_self, fun x hx => ?_⟩
        show ¬ (a + 1 ≤ x ∧ x < c)
        rcases List.mem_cons.mp hx with y | y
        · omega
        · rcases List.mem_cons.mp y with y | y
          · omega
          · have := hc.1 x y
            omega
      · rw [if_neg lt] at z
        cases z
    · obtain ⟨⟨a', ha', e⟩, h2, h3⟩ := pu_mem hl'.2 r z
      refine ⟨⟨a', List.mem_cons_of_mem _ ha', e⟩, List.mem_cons_of_mem _ h2, fun x hx => ?_⟩
      rcases List.mem_cons.mp hx with y | y
      · have := hl'.1 a' ha'
        omega
      · exact h3 x y
theorem pu_has : ∀ {l : List Int}, l.Pairwise (· < ·) → ∀ {a : Int}, l.head? = some a → ∀ {p len : Int}, 1 ≤ len → a < p → (∃ y ∈ l, p + len ≤ y) → (∀ x ∈ l, ¬ (p ≤ x ∧ x < p + len)) → ∃ r ∈ pairsUp l, r.1 ≤ p ∧ p + len ≤ r.2
  | [], _, _, h, _, _, _, _, _, _ => by cases h
  | [b], _, a, h, p, len, l1, lt, ⟨y, hy, le⟩, _ => by
    cases h
    rw [List.mem_singleton.mp hy] at le
    omega
  | b :: c :: t, hl, a, h, p, len, l1, lt, ⟨y, hy, le⟩, no => by
    cases h
    have hl' := List.pairwise_cons.mp hl
    show ∃ r ∈ (if b + 1 < c then [(b + 1, c)] else []) ++ pairsUp (c :: t), r.1 ≤ p ∧ p + len ≤ r.2
    by_cases z : c < p
    · have hy' : y ∈ c :: t := by
        rcases List.mem_cons.mp hy with e | e
        · omega
        · exact e
      obtain ⟨r, hr, h1, h2⟩ := pu_has hl'.2 (a := c) rfl l1 z ⟨y, hy', le⟩ fun x hx => no x (List.mem_cons_of_mem _ hx)
      exact ⟨r, List.mem_append_right _ hr, h1, h2⟩
    · have := no c (List.mem_cons_of_mem _ List.mem_cons_self)
      refine ⟨(b + 1, c), List.mem_append_left _ ?_, by show b + 1 ≤ p; omega, by show p + len ≤ c; omega⟩
      rw [if_pos (by omega)]
      exact List.mem_singleton.mpr rfl
theorem pu_asc : ∀ {l : List Int}, l.Pairwise (· < ·) → (pairsUp l).Pairwise fun r s => r.1 ≤ s.1
  | [], _ => List.Pairwise.nil
  | [a], _ => List.Pairwise.nil
  | a :: c :: t, hl => by
    have hl' := List.pairwise_cons.mp hl
    show ((if a + 1 < c then [(a + 1, c)] else []) ++ pairsUp (c :: t)).Pairwise _
    refine List.pairwise_append.mpr ⟨?_, pu_asc hl'.2, fun r hr s hs => ?_⟩
    · split
      · exact List.pairwise_singleton _ _
      · exact List.Pairwise.nil
    · obtain ⟨⟨a', ha', e⟩, _⟩ := pu_mem hl'.2 s hs
      have := hl'.1 a' ha'
      split at hr
      · rw [List.mem_singleton.mp hr]
        show a + 1 ≤ s.1
        omega
      · cases hr
/-- no tick of a stretch of places is taken -/
def FreeP (ws : List Win) (b p len : Int) : Prop := ∀ x, p ≤ x → x < p + len → ws.any (hasT · (b + x)) = false
section
variable {ws : List Win} {b : Int} {n : Nat}
theorem rl_asc : (((tkL ws b n).map fun (p : Nat) => (p : Int)) ++ [(n : Int)]).Pairwise (· < ·) := by
  refine List.pairwise_append.mpr ⟨tk_asc ws b n, List.pairwise_singleton _ _, fun x hx y hy => ?_⟩
  rw [List.mem_singleton.mp hy]
  exact (tk_mem.mp hx).2.1
theorem rl_mem {x : Int} : x ∈ ((tkL ws b n).map fun (p : Nat) => (p : Int)) ++ [(n : Int)] ↔ (0 ≤ x ∧ x < n ∧ ws.any (hasT · (b + x)) = true) ∨ x = n := by
  rw [List.mem_append, List.mem_singleton, tk_mem]
theorem run_free {r : Int × Int} (hr : r ∈ runsL ws b n) : 1 ≤ r.1 ∧ r.2 ≤ n ∧ ∀ x, r.1 ≤ x → x < r.2 → ws.any (hasT · (b + x)) = false := by
  obtain ⟨⟨a, ha, e⟩, h2, h3⟩ := pu_mem rl_asc r hr
  have a0 : 0 ≤ a := by
    rcases rl_mem.mp ha with z | z
    · exact z.1
    · omega
  have r2 : r.2 ≤ n := by
    rcases rl_mem.mp h2 with z | z
    · omega
    · omega
  refine ⟨by omega, r2, fun x hx lt => ?_⟩
  cases y : ws.any (hasT · (b + x)) with
  | false => rfl
  | true => exact absurd ⟨hx, lt⟩ (h3 x (rl_mem.mpr (.inl ⟨by omega, by omega, y⟩)))
theorem run_has (n0 : 0 < n) (t0 : ws.any (hasT · b) = true) {p len : Int} (l1 : 1 ≤ len) (p0 : 0 ≤ p) (le : p + len ≤ n) (f : FreeP ws b p len) : ∃ r ∈ runsL ws b n, r.1 ≤ p ∧ p + len ≤ r.2 := by
  have hd : (((tkL ws b n).map fun (p : Nat) => (p : Int)) ++ [(n : Int)]).head? = some 0 := by
    have m : (0 : Int) ∈ ((tkL ws b n).map fun (p : Nat) => (p : Int)) ++ [(n : Int)] := rl_mem.mpr (.inl ⟨by omega, by omega, by rw [Int.add_zero]; exact t0⟩)
    have asc := rl_asc (ws := ws) (b := b) (n := n)
    have all := fun x (hx : x ∈ ((tkL ws b n).map fun (p : Nat) => (p : Int)) ++ [(n : Int)]) => show 0 ≤ x from by
      rcases rl_mem.mp hx with z | z
      · exact z.1
      · omega
    generalize ((tkL ws b n).map fun (p : Nat) => (p : Int)) ++ [(n : Int)] = l at m asc all
    cases l with
    | nil => cases m
    | cons a t =>
      have := all a List.mem_cons_self
      rcases List.mem_cons.mp m with z | z
      · rw [← z]
        rfl
      · have := (List.pairwise_cons.mp asc).1 0 z
        omega
  have p1 : 0 < p := by
    rcases Int.lt_or_eq_of_le p0 with z | z
    · exact z
    · have := f 0 (by omega) (by omega)
      rw [Int.add_zero, t0] at this
      cases this
  refine pu_has rl_asc hd l1 p1 ⟨n, rl_mem.mpr (.inr rfl), le⟩ fun x hx z => ?_
  rcases rl_mem.mp hx with y | y
  · rw [f x z.1 z.2] at y
    cases y.2.2
  · omega
theorem fits_iff {place len : Int} {r : Int × Int} : fitsD place len r = true ↔ place + waitD place r + len ≤ r.2 := by
  unfold fitsD
  exact decide_eq_true_iff
theorem wait_le (place : Int) (r : Int × Int) : place ≤ place + waitD place r ∧ r.1 ≤ place + waitD place r ∧ (place + waitD place r = place ∨ place + waitD place r = r.1) := by
  unfold waitD
  split <;> omega
theorem core_some {place len : Int} {r : Int × Int} (n0 : 0 < n) (t0 : ws.any (hasT · b) = true) (l1 : 1 ≤ len) (p0 : 0 ≤ place) (h : (runsL ws b n).find? (fitsD place len) = some r) :
    place + waitD place r + len ≤ n ∧ FreeP ws b (place + waitD place r) len ∧ ∀ p, place ≤ p → p + len ≤ n → FreeP ws b p len → place + waitD place r ≤ p := by
  have fit := fits_iff.mp (List.find?_some h)
  have mem := List.mem_of_find?_eq_some h
  obtain ⟨h1, h2, h3⟩ := run_free mem
  have w := wait_le place r
  refine ⟨by omega, fun x hx lt => h3 x (by omega) (by omega), fun p hp le f => ?_⟩
  obtain ⟨r', hr', e1, e2⟩ := run_has n0 t0 l1 (by omega) le f
  obtain ⟨_, as, bs, e, no⟩ := List.find?_eq_some_iff_append.mp h
  have asc : (runsL ws b n).Pairwise fun r s => r.1 ≤ s.1 := pu_asc rl_asc
  have w' := wait_le place r'
  have fit' : fitsD place len r' = true := fits_iff.mpr (by omega)
  have le2 : r.1 ≤ r'.1 := by
    rw [e] at hr' asc
    rcases List.mem_append.mp hr' with z | z
    · have := no r' z
      rw [fit'] at this
      cases this
    · rcases List.mem_cons.mp z with z | z
      · rw [z]
        exact Int.le_refl _
      · exact (List.pairwise_cons.mp (List.pairwise_append.mp asc).2.1).1 r' z
  omega
theorem core_none {place len : Int} (n0 : 0 < n) (t0 : ws.any (hasT · b) = true) (l1 : 1 ≤ len) (p0 : 0 ≤ place) (h : (runsL ws b n).find? (fitsD place len) = none) : ∀ p, place ≤ p → p + len ≤ n → ¬ FreeP ws b p len := fun p hp le f => by
  obtain ⟨r', hr', e1, e2⟩ := run_has n0 t0 l1 (by omega) le f
  have w' := wait_le place r'
  exact absurd (fits_iff.mpr (by omega)) (List.find?_eq_none.mp h r' hr')
end
/-! ### phases -/
theorem has_shift {w : Win} {b x L : Int} (h0 : w.1 ≤ b) (hx : 0 ≤ x) (hL : 0 ≤ L) (d : w.2.2 ∣ L) : hasT w (b + (x + L)) = hasT w (b + x) := by
  obtain ⟨c, rfl⟩ := d
  unfold hasT
  have e : b + (x + w.2.2 * c) - w.1 = (b + x - w.1) + w.2.2 * c := by omega
  rw [e, Int.add_mul_emod_self_left]
  congr 1
  exact decide_eq_decide.mpr (by omega)
theorem any_shift {ws : List Win} {b x L : Int} (h0 : ∀ w ∈ ws, w.1 ≤ b) (hx : 0 ≤ x) (hL : 0 ≤ L) (d : ∀ w ∈ ws, w.2.2 ∣ L) : ws.any (hasT · (b + (x + L))) = ws.any (hasT · (b + x)) := by
  induction ws with
  | nil => rfl
  | cons w r ih =>
    rw [List.any_cons, List.any_cons, has_shift (h0 w List.mem_cons_self) hx hL (d w List.mem_cons_self), ih (fun y hy => h0 y (List.mem_cons_of_mem _ hy)) fun y hy => d y (List.mem_cons_of_mem _ hy)]
theorem per_dvd {ws : List Win} (g : GW ws) : ∀ w ∈ ws, w.2.2 ∣ ((lcmW ws : Nat) : Int) := fun w hw => by
  have p := g.p w hw
  have e : w.2.2 = ((w.2.2.natAbs : Nat) : Int) := by omega
  rw [e]
  exact Int.natCast_dvd_natCast.mpr (lcmW_dvd.mp (Nat.dvd_refl _) w hw)
theorem free_shift {ws : List Win} {b p len L : Int} (h0 : ∀ w ∈ ws, w.1 ≤ b) (hp : 0 ≤ p) (hL : 0 ≤ L) (d : ∀ w ∈ ws, w.2.2 ∣ L) : FreeP ws b (p + L) len ↔ FreeP ws b p len := by
  constructor
  · intro f x h1 h2
    rw [← any_shift h0 (by omega) hL d]
    exact f (x + L) (by omega) (by omega)
  · intro f x h1 h2
    have e : x = (x - L) + L := by omega
    rw [e, any_shift h0 (by omega) hL d]
    exact f (x - L) (by omega) (by omega)
theorem at_begin {ws : List Win} {bs : List Int} (g : GW ws) (B : Beg ws bs) {b : Int} (hb : b ∈ bs) : (bgn ws b).any (hasT · b) = true := by
  obtain ⟨w, hw, e⟩ := (B.mem b).mp hb
  refine List.any_eq_true.mpr ⟨w, List.mem_filter.mpr ⟨hw, decide_eq_true (by omega)⟩, ?_⟩
  unfold hasT
  have := g.l w hw
  have := g.p w hw
  rw [Bool.and_eq_true, decide_eq_true_eq, decide_eq_true_eq]
  refine ⟨by omega, ?_⟩
  rw [show b - w.1 = 0 by omega, Int.zero_emod]
  omega
/-- in a phase no other window counts -/
theorem in_phase {ws : List Win} {bs : List Int} (B : Beg ws bs) {i : Nat} {b x : Int} (hb : bs[i]? = some b) (hx : ∀ e, bs[i + 1]? = some e → x < e) : ws.any (hasT · x) = (bgn ws b).any (hasT · x) := by
  have h : ∀ w ∈ ws, hasT w x = true → decide (w.1 ≤ b) = true := fun w hw y => by
    refine decide_eq_true (Classical.byContradiction fun n => ?_)
    unfold hasT at y
    rw [Bool.and_eq_true, decide_eq_true_eq, decide_eq_true_eq] at y
    obtain ⟨j, hj⟩ := List.getElem?_of_mem ((B.mem w.1).mpr ⟨w, hw, rfl⟩)
    have ij : i < j := by
      rcases Nat.lt_trichotomy i j with z | z | z
      · exact z
      · rw [z, hj] at hb
        cases hb
        omega
      · have := B.lt hj hb z
        omega
    have lj := (List.getElem?_eq_some_iff.mp hj).1
    obtain ⟨e1, he⟩ : ∃ e, bs[i + 1]? = some e := ⟨_, List.getElem?_eq_getElem (by omega)⟩
    have := hx _ he
    by_cases z : i + 1 = j
    · rw [z, hj] at he
      have := Option.some.inj he
      omega
    · have := B.lt he hj (by omega)
      omega
  unfold bgn
  rw [List.any_filter]
  clear B
  induction ws with
  | nil => rfl
  | cons w r ih =>
    rw [List.any_cons, List.any_cons, ih fun y hy => h y (List.mem_cons_of_mem _ hy)]
    congr 1
    cases y : hasT w x with
    | false => rw [Bool.and_false]
    | true => rw [h w List.mem_cons_self y]; rfl
/-- no tick of a stretch is in a window -/
def Fr (ws : List Win) (s len : Int) : Prop := ∀ x, s ≤ x → x < s + len → ws.any (hasT · x) = false
theorem ends_le {s s' len : Int} {e : Option Int} (h : endsBy s' len e = true) (le : s ≤ s') : endsBy s len e = true := by
  cases e with
  | none => rfl
  | some e =>
    have h := of_decide_eq_true h
    exact decide_eq_true (by omega)
theorem fr_phase {ws : List Win} {bs : List Int} (B : Beg ws bs) {i : Nat} {b s len : Int} (hb : bs[i]? = some b) (l1 : 1 ≤ len) (h : endsBy s len bs[i + 1]? = true) : Fr ws s len ↔ FreeP (bgn ws b) b (s - b) len := by
  have h' : ∀ x, x < s + len → ∀ e, bs[i + 1]? = some e → x < e := fun x lt e he => by
    rw [he] at h
    have := of_decide_eq_true h
    omega
  constructor
  · intro f x h1 h2
    rw [← in_phase B hb (h' _ (by omega))]
    exact f _ (by omega) (by omega)
  · intro f x h1 h2
    rw [in_phase B hb (h' _ (by omega)), show x = b + (x - b) by omega]
    exact f _ (by omega) (by omega)
/-- s is the least start in a phase -/
def OkS (ws : List Win) (e : Option Int) (tick len s : Int) : Prop := tick ≤ s ∧ endsBy s len e = true ∧ Fr ws s len
theorem sip_spec {ws : List Win} {bs : List Int} (g : GW ws) (B : Beg ws bs) {i : Nat} {b tick len : Int} (hb : bs[i]? = some b) (ht : b ≤ tick) (l1 : 1 ≤ len) :
    match sipD ws b bs[i + 1]? tick len with
    | some s => OkS ws bs[i + 1]? tick len s ∧ ∀ s', OkS ws bs[i + 1]? tick len s' → s ≤ s'
    | none => ∀ s', ¬ OkS ws bs[i + 1]? tick len s' := by
  have hbm := List.mem_of_getElem? hb
  have t0 := at_begin g B hbm
  have gB := g.bgn b
  have pB := g.perL b
  have h0 : ∀ w ∈ bgn ws b, w.1 ≤ b := fun w hw => of_decide_eq_true (List.mem_filter.mp hw).2
  have dv := per_dvd gB
  have fp : ∀ s, endsBy s len bs[i + 1]? = true → (Fr ws s len ↔ FreeP (bgn ws b) b (s - b) len) := fun s h => fr_phase B hb l1 h
  have nb : ∀ e1, bs[i + 1]? = some e1 → b < e1 := fun e1 h => B.lt hb h (by omega)
  obtain ⟨e, he⟩ : ∃ e, bs[i + 1]? = e := ⟨_, rfl⟩
  rw [he] at fp nb ⊢
  obtain ⟨L, hL⟩ : ∃ L : Int, ((perL ws b : Nat) : Int) = L := ⟨_, rfl⟩
  have dv : ∀ w ∈ bgn ws b, w.2.2 ∣ L := by rw [← hL]; exact dv
  have L1 : 1 ≤ L ∧ L ≤ 24 := by omega
  obtain ⟨n, hn⟩ : ∃ n, cntL ws b e = n := ⟨_, rfl⟩
  have n0 : 0 < n ∧ (n : Int) ≤ 2 * L ∧ ((n : Int) = 2 * L ∨ ∃ e1, e = some e1 ∧ (n : Int) = e1 - b) := by
    cases e with
    | none =>
      have hn : 2 * perL ws b = n := hn
      omega
    | some e1 =>
      have hn : min (2 * perL ws b) (e1 - b).toNat = n := hn
      have := nb e1 rfl
      refine ⟨by omega, by omega, ?_⟩
      by_cases z : 2 * perL ws b ≤ (e1 - b).toNat
      · exact .inl (by omega)
      · exact .inr ⟨e1, rfl, by omega⟩
  obtain ⟨n0, n1, n2⟩ := n0
  have pl0 := Int.emod_nonneg (tick - b) (show L ≠ 0 by omega)
  have pl1 := Int.emod_lt_of_pos (tick - b) (show 0 < L by omega)
  have eT := Int.mul_ediv_add_emod (tick - b) L
  have k0 : 0 ≤ (tick - b) / L := Int.ediv_nonneg (by omega) (by omega)
  unfold sipD
  rw [hn, hL]
  obtain ⟨pl, hpl⟩ : ∃ pl, (tick - b) % L = pl := ⟨_, rfl⟩
  rw [hpl] at pl0 pl1 eT ⊢
  obtain ⟨M, hM⟩ : ∃ M, L * ((tick - b) / L) = M := ⟨_, rfl⟩
  have M0 : 0 ≤ M := by rw [← hM]; exact Int.mul_nonneg (by omega) k0
  have Md : ∀ w ∈ bgn ws b, w.2.2 ∣ M := fun w hw => by rw [← hM]; exact Int.dvd_trans (dv w hw) (Int.dvd_mul_right _ _)
  rw [hM] at eT
  have hc : ∀ p, 0 ≤ p → ∀ N, 0 ≤ N → (∀ w ∈ bgn ws b, w.2.2 ∣ N) → (FreeP (bgn ws b) b (p + N) len ↔ FreeP (bgn ws b) b p len) := fun p hp N hN d => free_shift h0 hp hN d
  -- a place for each start
  have key : ∀ s', OkS ws e tick len s' → ∃ p, pl ≤ p ∧ p ≤ s' - b - M ∧ p + len ≤ n ∧ FreeP (bgn ws b) b p len := fun s' ⟨o1, o2, o3⟩ => by
    have f := (fp s' o2).mp o3
    obtain ⟨q, hq⟩ : ∃ q, s' - b - M = q := ⟨_, rfl⟩
    have fq : FreeP (bgn ws b) b q len := by
      rw [show s' - b = q + M by omega] at f
      exact (hc q (by omega) M M0 Md).mp f
    rw [hq]
    by_cases z : q + len ≤ n
    · exact ⟨q, by omega, Int.le_refl _, z, fq⟩
    · have n3 : (n : Int) = 2 * L := by
        rcases n2 with y | ⟨e1, y1, y2⟩
        · exact y
        · rw [y1] at o2
          have := of_decide_eq_true o2
          omega
      have tk : ∀ p, 0 ≤ p → FreeP (bgn ws b) b p len → ¬ (p ≤ 2 * L ∧ 2 * L < p + len) := fun p hp f y => by
        have y1 := f (2 * L) y.1 y.2
        have d2 : ∀ w ∈ bgn ws b, w.2.2 ∣ 2 * L := fun w hw => Int.dvd_trans (dv w hw) (Int.dvd_mul_left _ _)
        have y2 := any_shift (x := 0) h0 (Int.le_refl _) (show 0 ≤ 2 * L by omega) d2
        rw [Int.zero_add, Int.add_zero] at y2
        rw [y1, t0] at y2
        cases y2
      have q2 : 2 * L ≤ q := by
        have := tk q (by omega) fq
        omega
      have m0 := Int.emod_nonneg q (show L ≠ 0 by omega)
      have m1 := Int.emod_lt_of_pos q (show 0 < L by omega)
      have eq := Int.mul_ediv_add_emod q L
      have k2 : 2 ≤ q / L := by
        have : 2 * L / L ≤ q / L := Int.ediv_le_ediv (by omega) q2
        rw [Int.mul_ediv_cancel _ (by omega)] at this
        exact this
      have dN : ∀ w ∈ bgn ws b, w.2.2 ∣ L * (q / L - 1) := fun w hw => Int.dvd_trans (dv w hw) (Int.dvd_mul_right _ _)
      have eN : L * (q / L - 1) = L * (q / L) - L := by rw [Int.mul_sub, Int.mul_one]
      have N0 : L ≤ L * (q / L - 1) := by
        have := Int.mul_le_mul_of_nonneg_left (show (1 : Int) ≤ q / L - 1 by omega) (show 0 ≤ L by omega)
        rw [Int.mul_one] at this
        exact this
      have fp' : FreeP (bgn ws b) b (q % L + L) len := by
        have := hc (q % L + L) (by omega) (L * (q / L - 1)) (by omega) dN
        rw [show q % L + L + L * (q / L - 1) = q by omega] at this
        exact this.mp fq
      have := tk _ (by omega) fp'
      exact ⟨q % L + L, by omega, by omega, by omega, fp'⟩
  by_cases z : endsBy tick len e = true
  · rw [if_pos z]
    cases hf : (runsL (bgn ws b) b n).find? (fitsD pl len) with
    | none =>
      dsimp only
      intro s' o
      obtain ⟨p, p1, p2, p3, p4⟩ := key s' o
      exact core_none n0 t0 l1 pl0 hf p p1 p3 p4
    | some r =>
      dsimp only
      obtain ⟨c1, c2, c3⟩ := core_some n0 t0 l1 pl0 hf
      obtain ⟨wt, hwt⟩ : ∃ wt, waitD pl r = wt := ⟨_, rfl⟩
      have w0 := (wait_le pl r).1
      rw [hwt] at c1 c2 c3 w0 ⊢
      have low : ∀ s', OkS ws e tick len s' → tick + wt ≤ s' := fun s' o => by
        obtain ⟨p, p1, p2, p3, p4⟩ := key s' o
        have := c3 p p1 p3 p4
        omega
      by_cases y : endsBy (tick + wt) len e = true
      · rw [if_pos y]
        refine ⟨⟨by omega, y, (fp _ y).mpr ?_⟩, low⟩
        rw [show tick + wt - b = (pl + wt) + M by omega]
        exact (hc _ (by omega) M M0 Md).mpr c2
      · rw [if_neg y]
        exact fun s' o => y (ends_le o.2.1 (low s' o))
  · rw [if_neg z]
    exact fun s' o => z (ends_le o.2.1 o.1)
end My
/-! The earliest start of all; its bound. No row, no def of the program. -/
namespace My
open PySem PySem.Spec PyProof.Rows L2
theorem loc_ex : ∀ {bs : List Int} {b0 s : Int}, bs.head? = some b0 → b0 ≤ s → ∃ (i : Nat) (b : Int), bs[i]? = some b ∧ b ≤ s ∧ ∀ e, bs[i + 1]? = some e → s < e
  | [], _, _, h, _ => by cases h
  | [a], b0, s, h, le => by
    cases h
    exact ⟨0, a, rfl, le, fun e z => by cases z⟩
  | a :: c :: t, b0, s, h, le => by
    cases h
    by_cases z : c ≤ s
    · obtain ⟨i, b, h1, h2, h3⟩ := loc_ex (bs := c :: t) rfl z
      exact ⟨i + 1, b, h1, h2, h3⟩
    · exact ⟨0, a, rfl, le, fun e y => by cases y; omega⟩
theorem fs_none {β : Type} {f : Nat → Option β} {n : Nat} (h : (List.range n).findSome? f = none) {j : Nat} (lt : j < n) : f j = none :=
  List.findSome?_eq_none_iff.mp h j (List.mem_range.mpr lt)
theorem fs_some {β : Type} {f : Nat → Option β} {s : β} : ∀ {n : Nat}, (List.range n).findSome? f = some s → ∃ i, i < n ∧ f i = some s ∧ ∀ j, j < i → f j = none
  | 0, h => by cases h
  | n + 1, h => by
    rw [List.range_succ, List.findSome?_append] at h
    cases z : (List.range n).findSome? f with
    | some t =>
      rw [z] at h
      have e : t = s := Option.some.inj h
      subst e
      obtain ⟨i, h1, h2, h3⟩ := fs_some z
      exact ⟨i, by omega, h2, h3⟩
    | none =>
      rw [z, List.findSome?_cons] at h
      cases y : f n with
      | some t =>
        rw [y] at h
        have e : t = s := Option.some.inj h
        subst e
        exact ⟨n, Nat.lt_succ_self n, y, fun j lt => fs_none z lt⟩
      | none =>
        rw [y] at h
        cases h
theorem any_no {ws : List Win} {x : Int} (h : ∀ w ∈ ws, hasT w x = false) : ws.any (hasT · x) = false := by
  cases y : ws.any (hasT · x) with
  | false => rfl
  | true =>
    obtain ⟨w, hw, z⟩ := List.any_eq_true.mp y
    rw [h w hw] at z
    cases z
theorem taken_at {ws : List Win} {bs : List Int} (g : GW ws) (B : Beg ws bs) {b : Int} (hb : b ∈ bs) : ws.any (hasT · b) = true := by
  obtain ⟨w, hw, y⟩ := List.any_eq_true.mp (at_begin g B hb)
  exact List.any_eq_true.mpr ⟨w, (List.mem_filter.mp hw).1, y⟩
theorem earl_spec {ws : List Win} {bs : List Int} (g : GW ws) (B : Beg ws bs) {tick len : Int} (l1 : 1 ≤ len) :
    match earlD ws bs tick len with
    | some s => tick ≤ s ∧ Fr ws s len ∧ ∀ s', tick ≤ s' → Fr ws s' len → s ≤ s'
    | none => ∀ s', tick ≤ s' → ¬ Fr ws s' len := by
  cases hbs : bs with
  | nil =>
    have e : ws = [] := by
      cases ws with
      | nil => rfl
      | cons w r =>
        have := (B.mem w.1).mpr ⟨w, List.mem_cons_self, rfl⟩
        rw [hbs] at this
        cases this
    subst e
    exact ⟨Int.le_refl _, fun x _ _ => rfl, fun s' h _ => h⟩
  | cons b0 r =>
    rw [← hbs]
    have e0 : earlD ws bs tick len = if tick + len ≤ b0 then some tick else (List.range bs.length).findSome? (phaseD ws bs tick len) := by
      rw [hbs]
      rfl
    have least : ∀ w ∈ ws, b0 ≤ w.1 := fun w hw => by
      have m := (B.mem w.1).mpr ⟨w, hw, rfl⟩
      have asc := B.asc
      rw [hbs] at m asc
      rcases List.mem_cons.mp m with z | z
      · omega
      · have := (List.pairwise_cons.mp asc).1 _ z
        omega
    rw [e0]
    by_cases z : tick + len ≤ b0
    · rw [if_pos z]
      refine ⟨Int.le_refl _, fun x h1 h2 => any_no fun w hw => ?_, fun s' h _ => h⟩
      have := least w hw
      unfold hasT
      rw [decide_eq_false (by omega), Bool.false_and]
    · rw [if_neg z]
      have hb0 : bs[0]? = some b0 := by rw [hbs]; rfl
      have find : ∀ s', tick ≤ s' → Fr ws s' len → ∃ (j : Nat) (b : Int), j < bs.length ∧ bs[j]? = some b ∧ b ≤ s' ∧ OkS ws bs[j + 1]? (if b > tick then b else tick) len s' := fun s' h f => by
        have le : b0 ≤ s' := Classical.byContradiction fun n => by
          have := f b0 (by omega) (by omega)
          rw [taken_at g B (List.mem_of_getElem? hb0)] at this
          cases this
        obtain ⟨j, b, h1, h2, h3⟩ := loc_ex (bs := bs) (by rw [hbs]; rfl) le
        refine ⟨j, b, (List.getElem?_eq_some_iff.mp h1).1, h1, h2, by split <;> omega, ?_, f⟩
        cases he : bs[j + 1]? with
        | none => rfl
        | some e =>
          refine decide_eq_true (Classical.byContradiction fun n => ?_)
          have := f e (by have := h3 e he; omega) (by omega)
          rw [taken_at g B (List.mem_of_getElem? he)] at this
          cases this
      have sip : ∀ (j : Nat) (b : Int), bs[j]? = some b → phaseD ws bs tick len j = sipD ws b bs[j + 1]? (if b > tick then b else tick) len := fun j b h => by
        unfold phaseD
        rw [h]
      cases hf : (List.range bs.length).findSome? (phaseD ws bs tick len) with
      | none =>
        dsimp only
        intro s' h f
        obtain ⟨j, b, lt, hb, le, ok⟩ := find s' h f
        have sp := sip_spec g B hb (tick := if b > tick then b else tick) (by split <;> omega) l1
        rw [← sip j b hb, fs_none hf lt] at sp
        exact sp s' ok
      | some s =>
        dsimp only
        obtain ⟨i, lt, hi, hno⟩ := fs_some hf
        obtain ⟨b, hb⟩ : ∃ b, bs[i]? = some b := ⟨_, List.getElem?_eq_getElem lt⟩
        have sp := sip_spec g B hb (tick := if b > tick then b else tick) (by split <;> omega) l1
        rw [← sip i b hb, hi] at sp
        obtain ⟨⟨o1, o2, o3⟩, mn⟩ := sp
        refine ⟨by split at o1 <;> omega, o3, fun s' h f => ?_⟩
        obtain ⟨j, b', lt', hb', le', ok'⟩ := find s' h f
        rcases Nat.lt_trichotomy j i with y | y | y
        · have sp := sip_spec g B hb' (tick := if b' > tick then b' else tick) (by split <;> omega) l1
          rw [← sip j b' hb', hno j y] at sp
          exact absurd ok' (sp s')
        · subst y
          rw [hb] at hb'
          cases hb'
          exact mn s' ok'
        · obtain ⟨e, he⟩ : ∃ e, bs[i + 1]? = some e := ⟨_, List.getElem?_eq_getElem (by omega)⟩
          rw [he] at o2
          have o2 := of_decide_eq_true o2
          have : e ≤ b' := by
            by_cases q : i + 1 = j
            · rw [q, hb'] at he
              cases he
              exact Int.le_refl _
            · have := B.lt he hb' (by omega)
              omega
          omega
theorem fr_at {ws : List Win} {s len b : Int} : Fr ws s len ↔ FreeP ws b (s - b) len := by
  constructor
  · intro f x h1 h2
    exact f _ (by omega) (by omega)
  · intro f x h1 h2
    rw [show x = b + (x - b) by omega]
    exact f _ (by omega) (by omega)
theorem earl_bound {ws : List Win} {bs : List Int} (g : GW ws) (B : Beg ws bs) {tick len s m : Int} (l1 : 1 ≤ len) (h : earlD ws bs tick len = some s) (m1 : tick ≤ m) (m2 : 61 ≤ m) : s < m + 24 := by
  have sp := earl_spec g B (tick := tick) l1
  rw [h] at sp
  obtain ⟨h1, h2, h3⟩ := sp
  refine Classical.byContradiction fun n => ?_
  have p := g.per
  have f := (fr_at (b := 61)).mp h2
  have := (free_shift (b := 61) (L := ((lcmW ws : Nat) : Int)) (p := s - ((lcmW ws : Nat) : Int) - 61) (fun w hw => by have := g.o w hw; omega) (by omega) (by omega) (per_dvd g)).mp (by rw [show s - ((lcmW ws : Nat) : Int) - 61 + ((lcmW ws : Nat) : Int) = s - 61 by omega]; exact f)
  have := h3 (s - ((lcmW ws : Nat) : Int)) (by omega) (fr_at.mpr this)
  omega
/-- the least start among the first N ticks -/
def LeastN (ws : List Win) (N tick len : Int) (o : Option Int) : Prop :=
  match o with
  | some s => tick ≤ s ∧ s + len ≤ N ∧ Fr ws s len ∧ ∀ s', tick ≤ s' → s' + len ≤ N → Fr ws s' len → s ≤ s'
  | none => ∀ s', tick ≤ s' → s' + len ≤ N → ¬ Fr ws s' len
theorem least_uniq {ws : List Win} {N tick len : Int} {o o' : Option Int} (h : LeastN ws N tick len o) (h' : LeastN ws N tick len o') : o = o' := by
  cases o with
  | none =>
    cases o' with
    | none => rfl
    | some s => exact absurd h'.2.2.1 (h s h'.1 h'.2.1)
  | some s =>
    cases o' with
    | none => exact absurd h.2.2.1 (h' s h.1 h.2.1)
    | some s' =>
      have a := h.2.2.2 s' h'.1 h'.2.1 h'.2.2.1
      have b := h'.2.2.2 s h.1 h.2.1 h.2.2.1
      rw [show s = s' by omega]
theorem earl_least {ws : List Win} {bs : List Int} (g : GW ws) (B : Beg ws bs) {N tick len m : Int} (l1 : 1 ≤ len) (m1 : tick ≤ m) (m2 : 61 ≤ m) (hN : m + 23 + len ≤ N) : LeastN ws N tick len (earlD ws bs tick len) := by
  have sp := earl_spec g B (tick := tick) l1
  cases h : earlD ws bs tick len with
  | none =>
    rw [h] at sp
    exact fun s' a _ => sp s' a
  | some s =>
    rw [h] at sp
    have := earl_bound g B l1 h m1 m2
    exact ⟨sp.1, by omega, sp.2.1, fun s' a _ => sp.2.2 s' a⟩
/-- windows of length 0 don't count -/
theorem any_kept {ws : List Win} (h : ∀ w ∈ ws, 0 ≤ w.2.1 ∧ 1 ≤ w.2.2) (x : Int) : (ws.filter fun u => decide (u.2.1 > 0)).any (hasT · x) = ws.any (hasT · x) := by
  rw [List.any_filter]
  induction ws with
  | nil => rfl
  | cons w r ih =>
    rw [List.any_cons, List.any_cons, ih fun y hy => h y (List.mem_cons_of_mem _ hy)]
    congr 1
    have hw := h w List.mem_cons_self
    by_cases z : w.2.1 > 0
    · rw [decide_eq_true z, Bool.true_and]
    · rw [decide_eq_false z, Bool.false_and]
      unfold hasT
      have := Int.emod_nonneg (x - w.1) (show w.2.2 ≠ 0 by omega)
      rw [decide_eq_false (show ¬ (x - w.1) % w.2.2 < w.2.1 by omega), Bool.and_false]
theorem fr_kept {ws : List Win} (h : ∀ w ∈ ws, 0 ≤ w.2.1 ∧ 1 ≤ w.2.2) {s len : Int} : Fr (ws.filter fun u => decide (u.2.1 > 0)) s len ↔ Fr ws s len := by
  unfold Fr
  constructor
  · intro f x h1 h2
    rw [← any_kept h]
    exact f x h1 h2
  · intro f x h1 h2
    rw [any_kept h]
    exact f x h1 h2
theorem insert_ex : ∀ (bs : List Int) (x : Int), bs.Pairwise (· < ·) → ∃ cs : List Int, cs.Pairwise (· < ·) ∧ ∀ y, y ∈ cs ↔ y = x ∨ y ∈ bs
  | [], x, _ => ⟨[x], List.pairwise_singleton _ _, fun y => by rw [List.mem_singleton]; exact ⟨.inl, fun z => z.elim id fun z => absurd z List.not_mem_nil⟩⟩
  | a :: r, x, h => by
    have h' := List.pairwise_cons.mp h
    by_cases e : x = a
    · exact ⟨a :: r, h, fun y => ⟨.inr, fun z => z.elim (fun z => by rw [z, e]; exact List.mem_cons_self) id⟩⟩
    · by_cases lt : x < a
      · refine ⟨x :: a :: r, List.pairwise_cons.mpr ⟨fun y hy => ?_, h⟩, fun y => List.mem_cons⟩
        rcases List.mem_cons.mp hy with z | z
        · omega
        · have := h'.1 y z
          omega
      · obtain ⟨cs, c1, c2⟩ := insert_ex r x h'.2
        refine ⟨a :: cs, List.pairwise_cons.mpr ⟨fun y hy => ?_, c1⟩, fun y => ?_⟩
        · rcases (c2 y).mp hy with z | z
          · omega
          · exact h'.1 y z
        · rw [List.mem_cons, c2, List.mem_cons]
          constructor
          · rintro (z | z | z)
            · exact .inr (.inl z)
            · exact .inl z
            · exact .inr (.inr z)
          · rintro (z | z | z)
            · exact .inr (.inl z)
            · exact .inl z
            · exact .inr (.inr z)
theorem beg_ex : ∀ ws : List Win, ∃ bs, Beg ws bs
  | [] => ⟨[], List.Pairwise.nil, fun x => ⟨fun z => absurd z List.not_mem_nil, fun ⟨w, z, _⟩ => absurd z List.not_mem_nil⟩⟩
  | w :: r => by
    obtain ⟨bs, B⟩ := beg_ex r
    obtain ⟨cs, c1, c2⟩ := insert_ex bs w.1 B.asc
    refine ⟨cs, c1, fun x => ?_⟩
    rw [c2, B.mem]
    constructor
    · rintro (z | ⟨u, hu, e⟩)
      · exact ⟨w, List.mem_cons_self, z.symm⟩
      · exact ⟨u, List.mem_cons_of_mem _ hu, e⟩
    · rintro ⟨u, hu, e⟩
      rcases List.mem_cons.mp hu with z | z
      · exact .inl (by rw [← e, z])
      · exact .inr ⟨u, z, e⟩
theorem beg_uniq {ws : List Win} {bs cs : List Int} (h : Beg ws bs) (h' : Beg ws cs) : bs = cs := asc_uniq h.asc h'.asc fun x => by rw [h.mem, h'.mem]
end My
namespace My
open PySem PySem.Spec PyProof.Rows L2 PySem.W
section
variable {X : Cx}
/-- max(xs, default=d) of a list of ints -/
def rMaxLD (K : PySem.W.Frag) : List V → List V → Hp → VK → Prop := fun vs zs H Q => ∃ (a : Addr) (ns : List Int) (d : V), vs = [V.ref a] ∧ zs = [d] ∧ SqL K H a (ns.map V.int) ∧ (ns = [] → Q d H) ∧ (ns ≠ [] → ∀ m, m ∈ ns → (∀ y, y ∈ ns → y ≤ m) → Q (.int m) H)
theorem cr_maxLD (hc : X.calm = true) : CallRK X (.builtin "max") ["default"] (rMaxLD X.K) := by
  intro pins s σ H vs zs us ws Q I r r2 h
  obtain ⟨a, ns, d, rfl, rfl, hs, q0, q⟩ := h
  rw [Vals.ref1 r]
  obtain ⟨dv, rd, rfl⟩ : ∃ dv, RelV d dv ∧ ws = [dv] := by
    cases r2 with
    | cons r t => cases t with
      | nil => exact ⟨_, r, rfl⟩
  obtain ⟨its, rv, hl, _⟩ := I.list hs
  have hn : its.length = ns.length := by
    have := Paired.length rv
    rw [List.length_map] at this
    exact this.symm
  have hval : ∀ (i : Nat) (v : Value), its.toArray[i]? = some v → ∃ t, v = Value.int (ns.getD i 0) t := fun i v e => by
    rw [List.getElem?_toArray] at e
    have lt : i < ns.length := by
      have := (List.getElem?_eq_some_iff.mp e).1
      omega
    obtain ⟨y, ey, t, ry⟩ := Paired.at (F := RelV) rv (i := i) (x := V.int (ns.getD i 0)) (by rw [List.getElem?_map, List.getElem?_eq_getElem lt, List.getD_eq_getElem?_getD, List.getElem?_eq_getElem lt]; rfl)
    rw [e] at ey
    cases ey
    exact ⟨t, ry⟩
  show wpAny _ _ (call (.builtin "max") [.ref a] [("default", dv)]) _ _ _
  refine call_max_walkD (iter_listW (A := X.A.in1) (I.ok.hd hc) hl.isList fun s₂ e W st hfp hw hk => ?_)
  refine ⟨_, _, _, _, _, _, _, s.heap, _, rfl, W, st, hfp, hw, hk, fun hz s' m => ?_, fun hp => ⟨fun i j vi vj s Q E _ => CmpOf.ints_gt (fun i => ns.getD i 0) hval i j vi vj s Q E, fun v s' hP m => ?_⟩⟩
  · obtain ⟨h', tk, rfl, hk'⟩ := PySem.W.moved_old e rfl m
    have hz : its.toArray.size = 0 := hz
    rw [List.size_toArray] at hz
    exact ⟨d, H, I.kept (t' := tk) fun b u e => hk' b u e, rd, q0 (List.eq_nil_of_length_eq_zero (by omega))⟩
  · obtain ⟨h', tk, rfl, hk'⟩ := PySem.W.moved_old e rfl m
    obtain ⟨t, rfl⟩ := hval _ v hP
    have hp : 0 < its.toArray.size := hp
    rw [List.size_toArray] at hp
    obtain ⟨b1, b2⟩ := argBest_gt (fun i => ns.getD i 0) (its.toArray.size - 1)
    have sz : its.toArray.size = ns.length := by rw [List.size_toArray, hn]
    have hne : ns ≠ [] := fun z => by
      rw [z] at hn
      have : its.length = 0 := hn
      omega
    refine ⟨.int _, H, I.kept (t' := tk) fun b u e => hk' b u e, ⟨t, rfl⟩, q hne _ ?_ fun j hj => ?_⟩
    · have hb : argBest (fun i j => decide (ns.getD i 0 > ns.getD j 0)) (its.toArray.size - 1) < ns.length := by omega
      rw [List.getD_eq_getElem?_getD, List.getElem?_eq_getElem hb]
      exact List.getElem_mem hb
    · obtain ⟨i, hi, e⟩ := List.mem_iff_getElem.mp hj
      have e2 : ns.getD i 0 = j := by rw [List.getD_eq_getElem?_getD, List.getElem?_eq_getElem hi, ← e] <;> rfl
      rw [← e2]
      exact b2 i (by omega)
end
end My
namespace My
open PySem PySem.Spec PyProof.Rows L2
abbrev sGap : Stmt := top 5 /-gap-/
abbrev sLong : Stmt := top 6 /-longest_wait-/
abbrev sLast : Stmt := inClass sFree 3 /-FreeTicks.last_runs-/
/-- the runs of the last phase -/
abbrev lastR (ws : List Win) (b : Int) : List (Int × Int) := runsL (bgn ws b) b (cntL ws b none)
section
variable {P : Program} {w : World} {K : PySem.W.Frag} {mg : Str → Option Value} {base : Heap}
theorem scLast : FnScope ["self"] ["self"] (defScope sLast) := ⟨rfl, rfl, rfl, by decide +kernel, rfl, by decide +kernel, by decide +kernel⟩
def spLast (K : PySem.W.Frag) (C : Addr) : Sp := fun vs H Q _ => ∃ (av : Addr → Prop) (p d : Addr) (b : Int) (ws : List Win) (bs : List Int), vs = [.ref p] ∧ FtAt av K C H p d ws bs ∧ 0 < bs.length ∧ bs[bs.length - 1]? = some b ∧
  ∀ (H' : Hp) (r : Addr) (us : List Addr), But d H H' → FtAt av K C H' p d ws bs → SqL K H' r (us.map V.ref) → RunsAt K H' us (lastR ws b) → Q (.ref r) H'
theorem ok_last {f C fP : Addr} {fd fdP : FuncData} {k : Nat} (F : Fun K "last_runs" "FreeTicks.last_runs" sLast f fd) (hlen : mg "len" = none) (c : FtC K C) (mPa : Meth K C "pattern_of" fP) (GPa : MethOf P w K mg base 3 ["self", "phase"] (spPattern K C) fP fdP) : FnOk P w K mg base CX0 (k + 4) f fd ["self"] (spLast K C) := by
  refine F.ok scLast (fun vs H Q E h => ?_) (fun cdv A0 outer s0 H vs Q E hr h => ?_)
  · obtain ⟨av, p, d, b, ws, bs, rfl, _⟩ := h
    rfl
  · obtain ⟨av, p, d, b, ws, bs, rfl, hF, b0, hb, q⟩ := h
    have nd := scLast.nd
    have hr3 : Room 3 _ := hr.mono (by omega)
    refine ⟨_, pss_one (ps_ret (pe_ix ix_tup (pe_meth (pv 0) c.cl mPa GPa.ok hr3 GPa.b .nil pass0 (pa_cons (pe_op op_sub (pe_callB call_len_seq (by rfl) hlen PySem.boot_len (pa_cons (pe_fld (pv 0) rfl) pa_nil)) pe_int) pa_nil)) pe_int (fun _ _ => rfl))), ?_⟩
    obtain ⟨gw, beg, dx, wl, bl, el, us, kvs, h1, h2, h3, h4, h5, h6, h7, h8, h9⟩ := id hF
    refine ⟨_, rfl, p, dx, _, rfl, h1, fm3, _, rfl, p, C, dx, _, _, rfl, h1, c.cl, c.n2, fg2, bl, _, rfl, .inl (SqL.of h4), _, _, rfl, rfl, av, p, d, bs.length - 1, b, ws, bs, ?_, hF, hb, fun H1 t kb hF1 hP => ?_⟩
    · rw [List.length_map]
      show [V.ref p, V.int (((bs.length : Nat) : Int) - 1)] = _
      rw [show ((bs.length : Nat) : Int) - 1 = ((bs.length - 1 : Nat) : Int) by omega]
    · have e : bs[bs.length - 1 + 1]? = none := List.getElem?_eq_none (by omega)
      rw [e] at hP
      obtain ⟨r, us2, hT, hr', hR, _⟩ := hP
      refine ⟨t, _, _, _, rfl, rfl, hT, rfl, ?_⟩
      exact q H1 r us2 kb hF1 hr' hR
/-! ### gap -/
theorem scGap : FnScope ["windows", "free", "first", "behind"] ["windows"] (defScope sGap) := ⟨rfl, rfl, rfl, by decide +kernel, rfl, by decide +kernel, by decide +kernel⟩
-- ["windows", "free", "first", "behind"]
/-- the greatest number of free ticks in a row of the last phase -/
def GapO (ws : List Win) (bs : List Int) (o : Option Int) : Prop := match bs[bs.length - 1]? with
  | none => o = none
  | some b => ∃ m, o = some m ∧ (∀ r ∈ lastR ws b, r.2 - r.1 ≤ m) ∧ ((lastR ws b = [] ∧ m = 0) ∨ ∃ r ∈ lastR ws b, m = r.2 - r.1)
def spGap (K : PySem.W.Frag) : Sp := fun vs H Q _ => ∃ (a : Addr) (ts : List Addr) (ws : List Win), vs = [.ref a] ∧ SqL K H a (ts.map V.ref) ∧ WinsAt K H ts ws ∧ GW (ws.filter fun u => decide (u.2.1 > 0)) ∧ ws.length ≤ 8 ∧
  ∀ (H' : Hp) (o : Option Int) (bs : List Int), Same H H' → Beg (ws.filter fun u => decide (u.2.1 > 0)) bs → GapO (ws.filter fun u => decide (u.2.1 > 0)) bs o → Q (optI o) H'
theorem lastR_len (ws : List Win) (b : Int) (g : GW ws) : (lastR ws b).length ≤ 48 := by
  have h := g.perL b
  have l : (((tkL (bgn ws b) b (cntL ws b none)).map fun (p : Nat) => (p : Int)) ++ [((cntL ws b none : Nat) : Int)]).length ≤ 49 := by
    rw [List.length_append, List.length_map]
    have h1 : (tkL (bgn ws b) b (cntL ws b none)).length ≤ cntL ws b none := by
      have := List.length_filter_le (fun (p : Nat) => (bgn ws b).any (hasT · (b + (p : Int)))) (List.range (cntL ws b none))
      rw [List.length_range] at this
      exact this
    have h2 : cntL ws b none = 2 * perL ws b := rfl
    have : [((cntL ws b none : Nat) : Int)].length = 1 := rfl
    omega
  have pl : ∀ l : List Int, (pairsUp l).length ≤ l.length - 1 := by
    intro l
    induction l with
    | nil => exact Nat.le_refl _
    | cons a r ih =>
      cases r with
      | nil => exact Nat.le_refl _
      | cons c t =>
        show ((if a + 1 < c then [(a + 1, c)] else []) ++ pairsUp (c :: t)).length ≤ _
        rw [List.length_append]
        have : (if a + 1 < c then [(a + 1, c)] else []).length ≤ 1 := by
          split
          · exact Nat.le_refl 1
          · exact Nat.zero_le 1
        have e1 : (a :: c :: t).length = t.length + 2 := rfl
        have e2 : (c :: t).length = t.length + 1 := rfl
        omega
  have := pl (((tkL (bgn ws b) b (cntL ws b none)).map fun (p : Nat) => (p : Int)) ++ [((cntL ws b none : Nat) : Int)])
  show (pairsUp _).length ≤ 48
  omega
theorem ok_gap {f C fI fL : Addr} {fd fdI fdL : FuncData} {k : Nat} (F : Fun K "gap" "gap" sGap f fd) (hmax : mg "max" = none) (c : FtC K C) (GF : FtMk P w K mg base C fI fdI) (mLa : Meth K C "last_runs" fL) (GLa : MethOf P w K mg base 4 ["self"] (spLast K C) fL fdL) : FnOk P w K mg base CX0 (k + 5) f fd ["windows"] (spGap K) := by
  refine F.ok scGap (fun vs H Q E h => ?_) (fun cdv A0 outer s0 H vs Q E hr h => ?_)
  · obtain ⟨a, ts, ws, rfl, _⟩ := h
    rfl
  · obtain ⟨a, ts, ws, rfl, ha, hw, gw, hn, q⟩ := h
    have nd := scGap.nd
    have hr4 : Room 4 _ := hr.mono (by omega)
    have hr2 : Room 2 _ := hr.mono (by omega)
    refine ⟨_, pss_cons (ps_set (i := 1) nd rfl (.inl rfl) (pe_make GF.mkC GF.ok hr2 (by rfl) GF.mg GF.b .nil pass0 (pa_cons (pv 0) pa_nil))) <| pss_cons (ps_if (pt_not (pt_truth (pe_fld (pv 1) rfl) (by intro _; rfl))) (pss_one (ps_ret pe_non)) (pss_nil)) <| pss_one (ps_ret (pe_callBK (cr_maxLD rfl) (by rfl) hmax rfl (pa_cons (pe_lc (own := [("first", 2), ("behind", 3)]) (g := (gTup K 2 (gCons (gName 2) (gCons (gName 3) gNil)))) (tt := tYes) rfl nd (pi_list (pe_meth0 (pv 1) c.cl mLa GLa.ok hr4 GLa.b .nil pass0)) (blkOk_by (own := [("first", 2), ("behind", 3)]) (N := ["windows", "free", "first", "behind"]) (sc := defScope sGap) (by decide +kernel)) (fun _ _ _ _ _ => pg_tupK (K := K) rfl (pgs_cons (pg_name (i := 2) nd rfl (Or.inl rfl)) (pgs_cons (pg_name (i := 3) nd rfl (Or.inl rfl)) pgs_nil))) (fun _ _ _ _ _ => pts_nil) (fun _ _ _ _ _ => (pe_op op_sub (pv 3) (pv 2)))) pa_nil) (pk_cons pe_int pk_nil))), ?_⟩
    refine ⟨_, rfl, ?_⟩
    refine fun p dx np ndx nex => ⟨p, dx, a, ts, ws, rfl, upd_same, Same.seq (same_make0 np ndx) ha, WinsAt.same hw (same_make0 np ndx), gw, hn, fun H1 d bs kb nd1 hF => ⟨rfl, ?_⟩⟩
    have s1 := same_make np ndx kb
    obtain ⟨ks, eks⟩ : ∃ ks, ws.filter (fun u => decide (u.2.1 > 0)) = ks := ⟨_, rfl⟩
    rw [eks] at q gw
    have hF : FtAt (fun _ => False) K C H1 p d ks bs := by
      have := hF (fun _ => False) H1 (Same.refl _) (fun x z => z.elim) (fun x z => z.elim)
      rw [eks] at this
      exact this
    have hB : Beg ks bs := hF.2.1
    have ndH : H d = none := by
      cases z : H d with
      | none => rfl
      | some o => rw [same_make0 np ndx _ _ z] at nd1; cases nd1
    obtain ⟨_, _, dx1, wl, bl, el, us, kvs, h1, h2, h3, h4, h5, h6, _⟩ := id hF
    dsimp only [gName, tSeq, tIfS]
    refine ⟨_, rfl, p, C, dx1, _, _, rfl, h1, c.cl, c.n2, fg2, !bs.isEmpty, .inl ⟨_, SqL.of h4, ?_⟩, ?_⟩
    · cases bs <;> rfl
    dsimp only
    rw [Bool.not_not]
    cases hbs : bs.isEmpty with
    | true =>
      rw [if_pos rfl]
      have e : bs = [] := List.isEmpty_iff.mp hbs
      refine q H1 none bs s1 hB ?_
      rw [e]
      exact rfl
    | false =>
      rw [if_neg Bool.false_ne_true]
      have b0 : 0 < bs.length := by
        cases bs with
        | nil => cases hbs
        | cons a r => exact Nat.succ_pos _
      obtain ⟨b, hb⟩ : ∃ b, bs[bs.length - 1]? = some b := ⟨_, List.getElem?_eq_getElem (by omega)⟩
      refine ⟨_, rfl, p, dx1, _, rfl, h1, fm4, (fun _ => False), p, d, b, ks, bs, rfl, hF, b0, hb, fun H2 r us2 kb2 hF2 hr' hR => ?_⟩
      have lr := lastR_len ks b gw
      obtain ⟨RL, hRL⟩ : ∃ RL, lastR ks b = RL := ⟨_, rfl⟩
      rw [hRL] at hR lr
      have lu : us2.length = RL.length := hR.length
      refine ⟨r, rfl, ⟨_, hr'⟩, fun D nD => ?_⟩
      refine lc_it walk_list (fun i G => Same H2 G ∧ G D = some (.lst (((RL.take i).map fun x => x.2 - x.1).map V.int))) ⟨same_new nD, upd_same⟩ (fun i G _ z => Same.seq z.1 hr') ?_ ?_
      · intro i x G0 G hi pG y
        obtain ⟨e, hx⟩ := y
        subst e
        obtain ⟨sm, hD⟩ := pG
        obtain ⟨t2, et, rfl⟩ := refs_at hx
        obtain ⟨u, eu, hT2⟩ := Paired.at hR et
        have il : i < RL.length := (List.getElem?_eq_some_iff.mp eu).1
        refine ⟨t2, _, rfl, same_tup sm hT2, rfl, _, _, rfl, _, _, rfl, rfl, rfl, ?_⟩
        refine ⟨_, rfl, _, rfl, _, _, rfl, rfl, _, hD, szl (by rw [List.length_map, List.length_map, List.length_take]; omega), same_but sm nD but_self, ?_⟩
        rw [upd_same, take_snoc eu, List.map_append, List.map_append]
        rfl
      · rintro G ⟨sm, hD⟩
        rw [List.length_map, lu, List.take_length] at hD
        have fin : ∀ m, ((∀ r ∈ RL, r.2 - r.1 ≤ m) ∧ ((RL = [] ∧ m = 0) ∨ ∃ r ∈ RL, m = r.2 - r.1)) → Q (.int m) G := fun m hm => by
          refine q G (some m) bs (same_but s1 ndH (But.trans kb2 (but_of sm))) hB ?_
          unfold GapO
          rw [hb]
          show ∃ m', some m = some m' ∧ (∀ r ∈ lastR ks b, r.2 - r.1 ≤ m') ∧ ((lastR ks b = [] ∧ m' = 0) ∨ ∃ r ∈ lastR ks b, m' = r.2 - r.1)
          rw [hRL]
          exact ⟨m, rfl, hm⟩
        refine ⟨D, _, _, rfl, rfl, SqL.of hD, fun e => ?_, fun _ m h1 h2 => ?_⟩
        · have e : RL = [] := List.map_eq_nil_iff.mp e
          exact fin 0 ⟨fun r hr => (by rw [e] at hr; cases hr), .inl ⟨e, rfl⟩⟩
        · obtain ⟨r, hr, e⟩ := List.mem_map.mp h1
          exact fin m ⟨fun r hr => h2 _ (List.mem_map.mpr ⟨r, hr, rfl⟩), .inr ⟨r, hr, e.symm⟩⟩
end
end My
namespace My
open PySem PySem.Spec PyProof.Rows L2
/-! ### the runs of two common periods -/
section
variable {ws : List Win} {bs : List Int} {b : Int}
theorem taken_L (g : GW ws) (B : Beg ws bs) (hb : b ∈ bs) : (bgn ws b).any (hasT · (b + ((perL ws b : Nat) : Int))) = true := by
  have y := any_shift (x := 0) (b := b) (L := ((perL ws b : Nat) : Int)) (ws := bgn ws b) (fun w hw => of_decide_eq_true (List.mem_filter.mp hw).2) (Int.le_refl _) (by omega) (per_dvd (g.bgn b))
  rw [Int.zero_add, Int.add_zero] at y
  rw [y]
  exact at_begin g B hb
theorem run_side (g : GW ws) (B : Beg ws bs) (hb : b ∈ bs) {r : Int × Int} (hr : r ∈ lastR ws b) : (r.2 ≤ ((perL ws b : Nat) : Int) ∨ ((perL ws b : Nat) : Int) < r.1) ∧ 1 ≤ r.1 ∧ r.2 ≤ 2 * ((perL ws b : Nat) : Int) ∧ r.1 < r.2 := by
  obtain ⟨h1, h2, h3⟩ := run_free hr
  have t := taken_L g B hb
  have lt : r.1 < r.2 := by
    have gen : ∀ l : List Int, ∀ r ∈ pairsUp l, r.1 < r.2 := by
      intro l
      induction l with
      | nil => intro r h; cases h
      | cons a s ih =>
        cases s with
        | nil => intro r h; cases h
        | cons c t =>
          intro r h
          have h : r ∈ (if a + 1 < c then [(a + 1, c)] else []) ++ pairsUp (c :: t) := h
          rcases List.mem_append.mp h with z | z
          · split at z
            · rename_i q
              rw [List.mem_singleton.mp z]
              exact q
            · cases z
          · exact ih r z
    exact gen _ r hr
  have e : ((cntL ws b none : Nat) : Int) = 2 * ((perL ws b : Nat) : Int) := by
    show ((2 * perL ws b : Nat) : Int) = _
    rw [Int.natCast_mul]
    rfl
  refine ⟨Classical.byContradiction fun n => ?_, h1, by omega, lt⟩
  have := h3 ((perL ws b : Nat) : Int) (by omega) (by omega)
  rw [t] at this
  cases this
theorem run_up (g : GW ws) (B : Beg ws bs) (hb : b ∈ bs) {r : Int × Int} (hr : r ∈ lastR ws b) (le : r.2 ≤ ((perL ws b : Nat) : Int)) : ∃ r' ∈ lastR ws b, r'.1 ≤ r.1 + ((perL ws b : Nat) : Int) ∧ r.2 + ((perL ws b : Nat) : Int) ≤ r'.2 := by
  obtain ⟨h1, h2, h3⟩ := run_free hr
  obtain ⟨_, _, _, lt⟩ := run_side g B hb hr
  have p := g.perL b
  have f : FreeP (bgn ws b) b r.1 (r.2 - r.1) := fun x a c => h3 x a (by omega)
  have f2 := (free_shift (L := ((perL ws b : Nat) : Int)) (fun w hw => of_decide_eq_true (List.mem_filter.mp hw).2) (by omega) (by omega) (per_dvd (g.bgn b))).mpr f
  have e : ((cntL ws b none : Nat) : Int) = 2 * ((perL ws b : Nat) : Int) := by
    show ((2 * perL ws b : Nat) : Int) = _
    rw [Int.natCast_mul]
    rfl
  obtain ⟨r', hr', a1, a2⟩ := run_has (n := cntL ws b none) (by omega) (at_begin g B hb) (len := r.2 - r.1) (by omega) (by omega) (by omega) f2
  exact ⟨r', hr', a1, by omega⟩
theorem run_down (g : GW ws) (B : Beg ws bs) (hb : b ∈ bs) {r : Int × Int} (hr : r ∈ lastR ws b) (le : ((perL ws b : Nat) : Int) < r.1) : ∃ r' ∈ lastR ws b, r'.1 ≤ r.1 - ((perL ws b : Nat) : Int) ∧ r.2 - ((perL ws b : Nat) : Int) ≤ r'.2 := by
  obtain ⟨h1, h2, h3⟩ := run_free hr
  obtain ⟨_, _, _, lt⟩ := run_side g B hb hr
  have p := g.perL b
  have f : FreeP (bgn ws b) b (r.1 - ((perL ws b : Nat) : Int) + ((perL ws b : Nat) : Int)) (r.2 - r.1) := fun x a c => h3 x (by omega) (by omega)
  have f2 := (free_shift (L := ((perL ws b : Nat) : Int)) (fun w hw => of_decide_eq_true (List.mem_filter.mp hw).2) (by omega) (by omega) (per_dvd (g.bgn b))).mp f
  have e : ((cntL ws b none : Nat) : Int) = 2 * ((perL ws b : Nat) : Int) := by
    show ((2 * perL ws b : Nat) : Int) = _
    rw [Int.natCast_mul]
    rfl
  obtain ⟨r', hr', a1, a2⟩ := run_has (n := cntL ws b none) (by omega) (at_begin g B hb) (len := r.2 - r.1) (by omega) (by omega) (by omega) f2
  exact ⟨r', hr', a1, by omega⟩
/-- the runs that hold a frame -/
def bigR (ws : List Win) (b len : Int) : List (Int × Int) := (lastR ws b).filter fun r => decide (r.2 - r.1 ≥ len)
theorem bigR_mem {len : Int} {r : Int × Int} : r ∈ bigR ws b len ↔ r ∈ lastR ws b ∧ len ≤ r.2 - r.1 := by
  unfold bigR
  rw [List.mem_filter, decide_eq_true_eq]
theorem bigR_two (g : GW ws) (B : Beg ws bs) (hb : b ∈ bs) {len : Int} (h : bigR ws b len ≠ []) : 2 ≤ (bigR ws b len).length := by
  cases e : bigR ws b len with
  | nil => exact absurd e h
  | cons r t =>
    have hr : r ∈ bigR ws b len := by rw [e]; exact List.mem_cons_self
    obtain ⟨m1, m2⟩ := bigR_mem.mp hr
    obtain ⟨sd, _, _, lt⟩ := run_side g B hb m1
    have p := g.perL b
    have : ∃ r' ∈ bigR ws b len, r' ≠ r := by
      rcases sd with z | z
      · obtain ⟨r', a, c, d⟩ := run_up g B hb m1 z
        exact ⟨r', bigR_mem.mpr ⟨a, by omega⟩, fun y => by rw [y] at d; omega⟩
      · obtain ⟨r', a, c, d⟩ := run_down g B hb m1 z
        exact ⟨r', bigR_mem.mpr ⟨a, by omega⟩, fun y => by rw [y] at c; omega⟩
    obtain ⟨r', h', ne⟩ := this
    rw [e] at h'
    cases t with
    | nil => exact absurd (List.mem_singleton.mp h') ne
    | cons x y => show 2 ≤ y.length + 1 + 1; omega
end
def WaitO (ws : List Win) (bs : List Int) (len : Int) (o : Option Int) : Prop := match bs[bs.length - 1]? with
  | none => o = some 0
  | some b => (bigR ws b len = [] ∧ o = none) ∨ ∃ m, o = some (m + len - 1) ∧ (∃ (i : Nat) (r r' : Int × Int), (bigR ws b len)[i]? = some r ∧ (bigR ws b len)[i + 1]? = some r' ∧ m = r'.1 - r.2) ∧ ∀ (i : Nat) (r r' : Int × Int), (bigR ws b len)[i]? = some r → (bigR ws b len)[i + 1]? = some r' → r'.1 - r.2 ≤ m
theorem filtR_snoc {ws : List (Int × Int)} {i : Nat} {u : Int × Int} (f : Int × Int → Bool) (h : ws[i]? = some u) : (ws.take (i + 1)).filter f = (ws.take i).filter f ++ (if f u = true then [u] else []) := by
  rw [take_snoc h, List.filter_append]
  congr 1
  by_cases z : f u = true
  · rw [if_pos z, List.filter_cons_of_pos z, List.filter_nil]
  · rw [if_neg z, List.filter_cons_of_neg z, List.filter_nil]
section
variable {P : Program} {w : World} {K : PySem.W.Frag} {mg : Str → Option Value} {base : Heap}
theorem scLong : FnScope ["windows", "length", "free", "runs", "first", "behind", "run", "later"] ["windows", "length"] (defScope sLong) := ⟨rfl, rfl, rfl, by decide +kernel, rfl, by decide +kernel, by decide +kernel⟩
-- ["windows", "length", "free", "runs", "first", "behind", "run", "later"]
def spLong (K : PySem.W.Frag) : Sp := fun vs H Q _ => ∃ (a : Addr) (ts : List Addr) (ws : List Win) (len : Int), vs = [.ref a, .int len] ∧ SqL K H a (ts.map V.ref) ∧ WinsAt K H ts ws ∧ GW (ws.filter fun u => decide (u.2.1 > 0)) ∧ ws.length ≤ 8 ∧
  ∀ (H' : Hp) (o : Option Int) (bs : List Int), Same H H' → Beg (ws.filter fun u => decide (u.2.1 > 0)) bs → WaitO (ws.filter fun u => decide (u.2.1 > 0)) bs len o → Q (optI o) H'
theorem ok_long {f C fI fL : Addr} {fd fdI fdL : FuncData} {k : Nat} (F : Fun K "longest_wait" "longest_wait" sLong f fd) (hmax : mg "max" = none) (hzip : mg "zip" = none) (c : FtC K C) (GF : FtMk P w K mg base C fI fdI) (mLa : Meth K C "last_runs" fL) (GLa : MethOf P w K mg base 4 ["self"] (spLast K C) fL fdL) : FnOk P w K mg base CX0 (k + 5) f fd ["windows", "length"] (spLong K) := by
  refine F.ok scLong (fun vs H Q E h => ?_) (fun cdv A0 outer s0 H vs Q E hr h => ?_)
  · obtain ⟨a, ts, ws, len, rfl, _⟩ := h
    rfl
  · obtain ⟨a, ts, ws, len, rfl, ha, hw, gw, hn, q⟩ := h
    have nd := scLong.nd
    have hr4 : Room 4 _ := hr.mono (by omega)
    have hr2 : Room 2 _ := hr.mono (by omega)
    refine ⟨_, pss_cons (ps_set (i := 2) nd rfl (.inl rfl) (pe_make GF.mkC GF.ok hr2 (by rfl) GF.mg GF.b .nil pass0 (pa_cons (pv 0) pa_nil))) <| pss_cons (ps_if (pt_not (pt_truth (pe_fld (pv 2) rfl) (by intro _; rfl))) (pss_one (ps_ret pe_int)) (pss_nil)) <| pss_cons (ps_setLc (i := 3) (own := [("first", 4), ("behind", 5)]) (g := (gTup K 2 (gCons (gName 4) (gCons (gName 5) gNil)))) rfl nd rfl rfl (sw_true rfl rfl rfl (by decide +kernel)) (pi_list (pe_meth0 (pv 2) c.cl mLa GLa.ok hr4 GLa.b .nil pass0)) (blkOk_by (own := [("first", 4), ("behind", 5)]) (N := ["windows", "length", "free", "runs", "first", "behind", "run", "later"]) (sc := defScope sLong) (by decide +kernel)) (fun _ _ _ _ _ => pg_tupK (K := K) rfl (pgs_cons (pg_name (i := 4) nd rfl (Or.inl rfl)) (pgs_cons (pg_name (i := 5) nd rfl (Or.inl rfl)) pgs_nil))) (fun _ _ _ _ _ => pts_one (pt_cmpR op_ge (pe_op op_sub (pv 5) (pv 4)) (pv 1) (nomark _))) (fun _ _ _ _ _ => (pe_tup (pa_cons (pv 4) (pa_cons (pv 5) pa_nil))))) <| pss_cons (ps_if (pt_not (pt_truth (pv 3) (by intro _; rfl))) (pss_one (ps_ret pe_non)) (pss_nil)) <| pss_one (ps_ret (pe_op op_sub (pe_op op_add (pe_callB (cr_max rfl) (by rfl) hmax (by decide +kernel) (pa_cons (pe_lc (own := [("run", 6), ("later", 7)]) (g := (gTup K 2 (gCons (gName 6) (gCons (gName 7) gNil)))) (tt := tYes) rfl nd (pi_zip (by rfl) hzip (pa_cons (pv 3) (pa_cons (pe_slice sl_list (pv 3) (po_some pe_int) po_none) pa_nil))) (blkOk_by (own := [("run", 6), ("later", 7)]) (N := ["windows", "length", "free", "runs", "first", "behind", "run", "later"]) (sc := defScope sLong) (by decide +kernel)) (fun _ _ _ _ _ => pg_tupK (K := K) rfl (pgs_cons (pg_name (i := 6) nd rfl (Or.inl rfl)) (pgs_cons (pg_name (i := 7) nd rfl (Or.inl rfl)) pgs_nil))) (fun _ _ _ _ _ => pts_nil) (fun _ _ _ _ _ => (pe_op op_sub (pe_ix (ix_tupK (K := K)) (pv 7) pe_int (fun _ _ => rfl)) (pe_ix (ix_tupK (K := K)) (pv 6) pe_int (fun _ _ => rfl))))) pa_nil)) (pv 1)) pe_int)), ?_⟩
    refine ⟨_, rfl, ?_⟩
    refine fun p dx np ndx nex => ⟨p, dx, a, ts, ws, rfl, upd_same, Same.seq (same_make0 np ndx) ha, WinsAt.same hw (same_make0 np ndx), gw, hn, fun H1 d bs kb nd1 hF => ⟨rfl, ?_⟩⟩
    have s1 := same_make np ndx kb
    obtain ⟨ks, eks⟩ : ∃ ks, ws.filter (fun u => decide (u.2.1 > 0)) = ks := ⟨_, rfl⟩
    rw [eks] at q gw
    have hF : FtAt (fun _ => False) K C H1 p d ks bs := by
      have := hF (fun _ => False) H1 (Same.refl _) (fun x z => z.elim) (fun x z => z.elim)
      rw [eks] at this
      exact this
    have hB : Beg ks bs := hF.2.1
    have ndH : H d = none := by
      cases z : H d with
      | none => rfl
      | some o => rw [same_make0 np ndx _ _ z] at nd1; cases nd1
    obtain ⟨_, _, dx1, wl, bl, el, us, kvs, h1, h2, h3, h4, h5, h6, _⟩ := id hF
    dsimp only [gName, tSeq, tIfS]
    refine ⟨_, rfl, p, C, dx1, _, _, rfl, h1, c.cl, c.n2, fg2, !bs.isEmpty, .inl ⟨_, SqL.of h4, ?_⟩, ?_⟩
    · cases bs <;> rfl
    dsimp only
    rw [Bool.not_not]
    cases hbs : bs.isEmpty with
    | true =>
      rw [if_pos rfl]
      have e : bs = [] := List.isEmpty_iff.mp hbs
      refine q H1 (some 0) bs s1 hB ?_
      rw [e]
      exact rfl
    | false =>
      rw [if_neg Bool.false_ne_true]
      have b0 : 0 < bs.length := by
        cases bs with
        | nil => cases hbs
        | cons a r => exact Nat.succ_pos _
      obtain ⟨b, hb⟩ : ∃ b, bs[bs.length - 1]? = some b := ⟨_, List.getElem?_eq_getElem (by omega)⟩
      have hbm := List.mem_of_getElem? hb
      refine ⟨_, rfl, p, dx1, _, rfl, h1, fm4, (fun _ => False), p, d, b, ks, bs, rfl, hF, b0, hb, fun H2 r us2 kb2 hF2 hr' hR => ?_⟩
      have lr := lastR_len ks b gw
      have two := bigR_two gw hB hbm (len := len)
      have q : ∀ (H' : Hp) (o : Option Int), Same H2 H' → ((bigR ks b len = [] ∧ o = none) ∨ ∃ m, o = some (m + len - 1) ∧ (∃ (i : Nat) (r r' : Int × Int), (bigR ks b len)[i]? = some r ∧ (bigR ks b len)[i + 1]? = some r' ∧ m = r'.1 - r.2) ∧ ∀ (i : Nat) (r r' : Int × Int), (bigR ks b len)[i]? = some r → (bigR ks b len)[i + 1]? = some r' → r'.1 - r.2 ≤ m) → Q (optI o) H' := fun H' o s z => by
        refine q H' o bs (same_but s1 ndH (But.trans kb2 (but_of s))) hB ?_
        unfold WaitO
        rw [hb]
        exact z
      obtain ⟨R, hR2⟩ : ∃ R, bigR ks b len = R := ⟨_, rfl⟩
      rw [hR2] at q two
      obtain ⟨RL, hRL⟩ : ∃ RL, lastR ks b = RL := ⟨_, rfl⟩
      have eR : RL.filter (fun r => decide (r.2 - r.1 ≥ len)) = R := by rw [← hRL]; exact hR2
      rw [hRL] at hR lr
      have lu : us2.length = RL.length := hR.length
      refine ⟨r, rfl, ⟨_, hr'⟩, fun D nD => ?_⟩
      refine lc_it walk_list (fun i G => ∃ us3 : List Addr, Same H2 G ∧ G D = some (.lst (us3.map V.ref)) ∧ us3.length ≤ i ∧ RunsAt K G us3 ((RL.take i).filter fun r => decide (r.2 - r.1 ≥ len))) ⟨[], same_new nD, upd_same, Nat.le_refl _, .nil⟩ (fun i G _ ⟨_, z, _⟩ => Same.seq z hr') ?_ ?_
      · intro i x G0 G hi pG y
        obtain ⟨e, hx⟩ := y
        subst e
        obtain ⟨us3, sm, hD, l3, hR3⟩ := pG
        obtain ⟨t2, et, rfl⟩ := refs_at hx
        obtain ⟨u, eu, hT2⟩ := Paired.at hR et
        have il : i < RL.length := (List.getElem?_eq_some_iff.mp eu).1
        refine ⟨t2, _, rfl, same_tup sm hT2, rfl, _, _, rfl, _, _, rfl, rfl, rfl, ?_⟩
        refine ⟨_, rfl, _, rfl, _, _, rfl, rfl, _, rfl, _, _, rfl, rfl, _, rfl, ?_⟩
        dsimp only
        have fs := filtR_snoc (fun r => decide (r.2 - r.1 ≥ len)) eu
        by_cases z : decide (u.2 - u.1 ≥ len) = true
        · rw [if_pos z]
          rw [if_pos z] at fs
          refine ⟨_, rfl, _, rfl, (by show 2 ≤ sizeLine; decide), fun t3 n3 => ?_⟩
          have s3 := same_new (o := .tup [V.int u.1, V.int u.2]) n3
          have hD3 := s3 _ _ hD
          refine ⟨_, hD3, szl (by rw [List.length_map]; omega), us3 ++ [t3], same_but (sm.trans s3) nD but_self, by rw [upd_same, List.map_append]; rfl, by rw [List.length_append]; exact Nat.succ_le_succ l3, ?_⟩
          rw [fs]
          exact runs_snoc (runs_but (runs_same hR3 s3) hD3 but_self) (But.tupL but_self hD3 (SqT.of upd_same))
        · rw [if_neg z]
          rw [if_neg z, List.append_nil] at fs
          exact ⟨us3, sm, hD, by omega, by rw [fs]; exact hR3⟩
      · rintro G ⟨us3, sm, hD, l3, hR3⟩
        rw [List.length_map, lu, List.take_length, eR] at hR3
        have l3' : us3.length = R.length := hR3.length
        have lR : R.length ≤ 48 := by
          have := List.length_filter_le (fun r : Int × Int => decide (r.2 - r.1 ≥ len)) RL
          rw [eR] at this
          omega
        dsimp only [gName, tSeq, tIfS]
        refine ⟨_, rfl, !(us3.map V.ref).isEmpty, .inl ⟨_, SqL.of hD, rfl⟩, ?_⟩
        dsimp only
        rw [Bool.not_not]
        cases hE : (us3.map V.ref).isEmpty with
        | true =>
          rw [if_pos rfl]
          have e : us3 = [] := List.map_eq_nil_iff.mp (List.isEmpty_iff.mp hE)
          have e2 : R = [] := List.eq_nil_of_length_eq_zero (by rw [← l3', e]; rfl)
          exact q G none sm (.inl ⟨e2, rfl⟩)
        | false =>
          rw [if_neg Bool.false_ne_true]
          have ne : R ≠ [] := fun z => by
            rw [z] at l3'
            rw [List.eq_nil_of_length_eq_zero (l := us3) l3'] at hE
            cases hE
          have two := two ne
          refine ⟨_, rfl, _, rfl, _, rfl, D, _, rfl, SqL.of hD, fun p4 n4 => ?_⟩
          rw [cut_one, ← List.map_drop]
          have s5 := same_new (o := .lst ((us3.drop 1).map V.ref)) n4
          have hp4 := upd_same (H := G) (a := p4) (o := .lst ((us3.drop 1).map V.ref))
          generalize upd G p4 (.lst ((us3.drop 1).map V.ref)) = G5 at s5 hp4 ⊢
          have hD5 := s5 _ _ hD
          have hR5 := runs_same hR3 s5
          have sm5 := sm.trans s5
          refine ⟨D, p4, _, _, rfl, SqL.of hD5, SqL.of hp4, fun D2 n5 => ?_⟩
          obtain ⟨Z, hZ⟩ : ∃ Z, R.zip (R.drop 1) = Z := ⟨_, rfl⟩
          have lZ : Z.length = R.length - 1 := by
            rw [← hZ, List.length_zip, List.length_drop]
            omega
          have atZ : ∀ (i : Nat) (r r' : Int × Int), R[i]? = some r → R[i + 1]? = some r' → Z[i]? = some (r, r') := fun i r r' e1 e2 => by
            rw [← hZ, List.getElem?_zip_eq_some]
            exact ⟨e1, by rw [List.getElem?_drop, Nat.add_comm]; exact e2⟩
          refine lc_it (walk_zip (n := Z.length) (by rw [List.length_map, List.length_map, List.length_drop]; omega)) (fun i G4 => Same G5 G4 ∧ G4 D2 = some (.lst (((Z.take i).map fun z => z.2.1 - z.1.2).map V.int))) ⟨same_new n5, upd_same⟩ (fun i G4 _ z => ⟨SqL.of (z.1 _ _ hD5), SqL.of (z.1 _ _ hp4)⟩) ?_ ?_
          · rintro i x G4 G6 hi ⟨sm4, hd4⟩ ⟨t, y, z, rfl, nt, rfl, hy, hz⟩
            have hy : (us3.map V.ref)[i]? = some y := hy
            have hz : ((us3.drop 1).map V.ref)[i]? = some z := hz
            obtain ⟨y, ey, rfl⟩ := refs_at hy
            obtain ⟨z, ez, rfl⟩ := refs_at hz
            rw [List.getElem?_drop, Nat.add_comm] at ez
            obtain ⟨r1, er1, hr1⟩ := Paired.at hR5 ey
            obtain ⟨r2, er2, hr2⟩ := Paired.at hR5 ez
            have st := same_new (o := .tup [V.ref y, V.ref z]) nt
            have s4t := sm4.trans st
            refine ⟨t, _, rfl, SqT.of upd_same, rfl, _, _, rfl, _, _, rfl, rfl, rfl, ?_⟩
            refine ⟨_, rfl, z, _, _, _, rfl, rfl, same_tup s4t hr2, rfl, _, rfl, y, _, _, _, rfl, rfl, same_tup s4t hr1, rfl, _, _, rfl, rfl, _, st _ _ hd4, szl (by rw [List.length_map, List.length_map, List.length_take]; omega), same_but s4t n5 but_self, ?_⟩
            rw [upd_same, take_snoc (atZ i r1 r2 er1 er2), List.map_append, List.map_append]
            rfl
          · rintro G4 ⟨sm4, hd4⟩
            rw [List.take_length] at hd4
            refine ⟨D2, _, rfl, SqL.of hd4, (by rw [List.length_map]; omega), fun m h1 h2 => ?_⟩
            refine ⟨_, rfl, _, _, rfl, rfl, _, _, rfl, rfl, ?_⟩
            refine q G4 (some (m + len - 1)) (sm5.trans sm4) (.inr ⟨m, rfl, ?_, fun i r r' e1 e2 => h2 _ (List.mem_map.mpr ⟨(r, r'), List.mem_of_getElem? (atZ i r r' e1 e2), rfl⟩)⟩)
            obtain ⟨z, hz, e⟩ := List.mem_map.mp h1
            obtain ⟨i, hi⟩ := List.getElem?_of_mem hz
            rw [← hZ, List.getElem?_zip_eq_some, List.getElem?_drop, Nat.add_comm] at hi
            exact ⟨i, z.1, z.2, hi.1, hi.2, e.symm⟩
end
end My
/-! The math of gaps and waits. No row, no def of the program. -/
namespace My
open PySem PySem.Spec PyProof.Rows L2
theorem pu_sep : ∀ {l : List Int}, l.Pairwise (· < ·) → (pairsUp l).Pairwise fun r s => r.2 < s.1
  | [], _ => List.Pairwise.nil
  | [a], _ => List.Pairwise.nil
  | a :: c :: t, hl => by
    have hl' := List.pairwise_cons.mp hl
    have hc := List.pairwise_cons.mp hl'.2
    show ((if a + 1 < c then [(a + 1, c)] else []) ++ pairsUp (c :: t)).Pairwise _
    refine List.pairwise_append.mpr ⟨?_, pu_sep hl'.2, fun r hr s hs => ?_⟩
    · split
      · exact List.pairwise_singleton _ _
      · exact List.Pairwise.nil
    · obtain ⟨⟨a', ha', e⟩, _⟩ := pu_mem hl'.2 s hs
      have : c ≤ a' := by
        rcases List.mem_cons.mp ha' with z | z
        · omega
        · have := hc.1 a' z
          omega
      split at hr
      · rw [List.mem_singleton.mp hr]
        show c < s.1
        omega
      · cases hr
theorem shiftZ {ws : List Win} {b p p' len L q : Int} (h0 : ∀ w ∈ ws, w.1 ≤ b) (hp : 0 ≤ p) (hp' : 0 ≤ p') (L0 : 0 ≤ L) (d : ∀ w ∈ ws, w.2.2 ∣ L) (e : p' = p - L * q) : FreeP ws b p' len ↔ FreeP ws b p len := by
  have dq : ∀ (k : Int), ∀ w ∈ ws, w.2.2 ∣ L * k := fun k w hw => Int.dvd_trans (d w hw) (Int.dvd_mul_right _ _)
  by_cases z : 0 ≤ q
  · have := free_shift (len := len) h0 hp' (Int.mul_nonneg L0 z) (dq q)
    rw [show p' + L * q = p by omega] at this
    exact this.symm
  · have n : 0 ≤ L * (-q) := Int.mul_nonneg L0 (by omega)
    have e2 : L * (-q) = -(L * q) := Int.mul_neg _ _
    have := free_shift (len := len) h0 hp n (dq (-q))
    rw [show p + L * (-q) = p' by omega] at this
    exact this
section
variable {ws : List Win} {bs : List Int} {b : Int}
theorem fr_last (g : GW ws) (B : Beg ws bs) (hb : bs[bs.length - 1]? = some b) {s len : Int} (l1 : 1 ≤ len) : Fr ws s len ↔ FreeP (bgn ws b) b (s - b) len := by
  have lt := (List.getElem?_eq_some_iff.mp hb).1
  have e : bs[bs.length - 1 + 1]? = none := List.getElem?_eq_none (by omega)
  exact fr_phase B hb l1 (by rw [e]; rfl)
theorem in_a_run {len : Int} {r : Int × Int} (hr : r ∈ lastR ws b) {p : Int} (h1 : r.1 ≤ p) (h2 : p + len ≤ r.2) : FreeP (bgn ws b) b p len := fun x a c => (run_free hr).2.2 x (by omega) (by omega)
theorem cnt_eq (ws : List Win) (b : Int) : ((cntL ws b none : Nat) : Int) = 2 * ((perL ws b : Nat) : Int) := by
  show ((2 * perL ws b : Nat) : Int) = _
  rw [Int.natCast_mul]
  rfl
theorem has_run (g : GW ws) (B : Beg ws bs) (hb : b ∈ bs) {p len : Int} (l1 : 1 ≤ len) (p0 : 0 ≤ p) (le : p + len ≤ 2 * ((perL ws b : Nat) : Int)) (f : FreeP (bgn ws b) b p len) : ∃ r ∈ lastR ws b, r.1 ≤ p ∧ p + len ≤ r.2 := by
  have p1 := g.perL b
  have e := cnt_eq ws b
  exact run_has (n := cntL ws b none) (by omega) (at_begin g B hb) l1 p0 (by omega) f
/-- no free stretch is longer than the gap -/
theorem gap_most (g : GW ws) (B : Beg ws bs) (hb : bs[bs.length - 1]? = some b) {m : Int} (hm : ∀ r ∈ lastR ws b, r.2 - r.1 ≤ m) {s len : Int} (hs : b ≤ s) (l1 : 1 ≤ len) (f : Fr ws s len) : len ≤ m := by
  have hbm := List.mem_of_getElem? hb
  have p1 := g.perL b
  have f := (fr_last g B hb l1).mp f
  obtain ⟨L, hL⟩ : ∃ L : Int, ((perL ws b : Nat) : Int) = L := ⟨_, rfl⟩
  have m0 := Int.emod_nonneg (s - b) (show L ≠ 0 by omega)
  have m1 := Int.emod_lt_of_pos (s - b) (show 0 < L by omega)
  have em := Int.mul_ediv_add_emod (s - b) L
  have h0 : ∀ w ∈ bgn ws b, w.1 ≤ b := fun w hw => of_decide_eq_true (List.mem_filter.mp hw).2
  have dv : ∀ w ∈ bgn ws b, w.2.2 ∣ L := by rw [← hL]; exact per_dvd (g.bgn b)
  have f2 := (shiftZ (len := len) (p := s - b) (p' := (s - b) % L) (q := (s - b) / L) h0 (by omega) m0 (by omega) dv (by omega)).mpr f
  have t := taken_L g B hbm
  rw [hL] at t
  have le : (s - b) % L + len ≤ L := Classical.byContradiction fun n => by
    have := f2 L (by omega) (by omega)
    rw [t] at this
    cases this
  obtain ⟨r, hr, a1, a2⟩ := has_run g B hbm l1 m0 (by omega) f2
  have := hm r hr
  omega
theorem gap_at (g : GW ws) (B : Beg ws bs) (hb : bs[bs.length - 1]? = some b) {r : Int × Int} (hr : r ∈ lastR ws b) {first : Int} (hf : b ≤ first) : r.2 - r.1 ≤ 23 ∧ ∃ s, first ≤ s ∧ s ≤ first + 23 ∧ Fr ws s (r.2 - r.1) := by
  have hbm := List.mem_of_getElem? hb
  have p1 := g.perL b
  obtain ⟨sd, r1, r2, lt⟩ := run_side g B hbm hr
  obtain ⟨L, hL⟩ : ∃ L : Int, ((perL ws b : Nat) : Int) = L := ⟨_, rfl⟩
  rw [hL] at sd r2
  have m0 := Int.emod_nonneg (b + r.1 - first) (show L ≠ 0 by omega)
  have m1 := Int.emod_lt_of_pos (b + r.1 - first) (show 0 < L by omega)
  have em := Int.mul_ediv_add_emod (b + r.1 - first) L
  have h0 : ∀ w ∈ bgn ws b, w.1 ≤ b := fun w hw => of_decide_eq_true (List.mem_filter.mp hw).2
  have dv : ∀ w ∈ bgn ws b, w.2.2 ∣ L := by rw [← hL]; exact per_dvd (g.bgn b)
  have f : FreeP (bgn ws b) b r.1 (r.2 - r.1) := in_a_run hr (Int.le_refl _) (by omega)
  refine ⟨by omega, first + (b + r.1 - first) % L, by omega, by omega, (fr_last g B hb (by omega)).mpr ?_⟩
  exact (shiftZ (q := (b + r.1 - first) / L) h0 (by omega) (by omega) (by omega) dv (by omega)).mpr f
theorem first_gt {t : Int} : ∀ {R : List (Int × Int)}, (∃ r ∈ R, t < r.1) → ∃ (i : Nat) (r : Int × Int), R[i]? = some r ∧ t < r.1 ∧ ∀ (j : Nat) (r' : Int × Int), j < i → R[j]? = some r' → r'.1 ≤ t
  | [], ⟨r, h, _⟩ => by cases h
  | a :: R, ⟨r, h, lt⟩ => by
    by_cases z : t < a.1
    · exact ⟨0, a, rfl, z, fun j r' h => by omega⟩
    · have h' : r ∈ R := by
        rcases List.mem_cons.mp h with y | y
        · rw [y] at lt
          exact absurd lt z
        · exact y
      obtain ⟨i, r1, e1, e2, e3⟩ := first_gt ⟨r, h', lt⟩
      refine ⟨i + 1, r1, e1, e2, fun j r' hj he => ?_⟩
      cases j with
      | zero =>
        have : a = r' := Option.some.inj he
        rw [← this]
        omega
      | succ j => exact e3 j r' (by omega) he
theorem big_sep {len : Int} : (bigR ws b len).Pairwise fun r s => r.2 < s.1 := List.Pairwise.filter _ (pu_sep rl_asc)
theorem sep_at {R : List (Int × Int)} (h : R.Pairwise fun r s => r.2 < s.1) {i j : Nat} {r s : Int × Int} (hr : R[i]? = some r) (hs : R[j]? = some s) (lt : i < j) : r.2 < s.1 := by
  obtain ⟨h1, rfl⟩ := List.getElem?_eq_some_iff.mp hr
  obtain ⟨h2, rfl⟩ := List.getElem?_eq_some_iff.mp hs
  exact List.pairwise_iff_getElem.mp h i j h1 h2 lt
theorem run_left (g : GW ws) (B : Beg ws bs) (hb : b ∈ bs) {r : Int × Int} (hr : r ∈ lastR ws b) : (bgn ws b).any (hasT · (b + (r.1 - 1))) = true := by
  obtain ⟨⟨a, ha, e⟩, _⟩ := pu_mem rl_asc r hr
  obtain ⟨_, r1, r2, lt⟩ := run_side g B hb hr
  have c := cnt_eq ws b
  rcases rl_mem.mp ha with z | z
  · rw [show r.1 - 1 = a by omega]
    exact z.2.2
  · omega
/-- from each tick on a frame is sent within the longest wait -/
theorem wait_most (g : GW ws) (B : Beg ws bs) (hb : bs[bs.length - 1]? = some b) {len m : Int} (l1 : 1 ≤ len) (ne : bigR ws b len ≠ []) (hm : ∀ (i : Nat) (r r' : Int × Int), (bigR ws b len)[i]? = some r → (bigR ws b len)[i + 1]? = some r' → r'.1 - r.2 ≤ m) {tick : Int} (ht : b ≤ tick) :
    ∃ s, earlD ws bs tick len = some s ∧ tick ≤ s ∧ s - tick ≤ m + len - 1 := by
  have hbm := List.mem_of_getElem? hb
  have p1 := g.perL b
  obtain ⟨R, hR⟩ : ∃ R, bigR ws b len = R := ⟨_, rfl⟩
  have sep := big_sep (ws := ws) (b := b) (len := len)
  have mem : ∀ r, r ∈ R ↔ r ∈ lastR ws b ∧ len ≤ r.2 - r.1 := fun r => by rw [← hR]; exact bigR_mem
  rw [hR] at ne hm sep
  have side := fun r (h : r ∈ R) => run_side g B hbm ((mem r).mp h).1
  have down := fun r (h : r ∈ R) (z : ((perL ws b : Nat) : Int) < r.1) => run_down g B hbm ((mem r).mp h).1 z
  have up := fun r (h : r ∈ R) (z : r.2 ≤ ((perL ws b : Nat) : Int)) => run_up g B hbm ((mem r).mp h).1 z
  obtain ⟨L, hL⟩ : ∃ L : Int, ((perL ws b : Nat) : Int) = L := ⟨_, rfl⟩
  rw [hL] at side down up
  have m0 := Int.emod_nonneg (tick - b) (show L ≠ 0 by omega)
  have m1 := Int.emod_lt_of_pos (tick - b) (show 0 < L by omega)
  have em := Int.mul_ediv_add_emod (tick - b) L
  have h0 : ∀ w ∈ bgn ws b, w.1 ≤ b := fun w hw => of_decide_eq_true (List.mem_filter.mp hw).2
  have dv : ∀ w ∈ bgn ws b, w.2.2 ∣ L := by rw [← hL]; exact per_dvd (g.bgn b)
  obtain ⟨pl, hpl⟩ : ∃ pl, (tick - b) % L = pl := ⟨_, rfl⟩
  rw [hpl] at m0 m1 em
  -- a run behind each place of the first period
  have late : ∃ r ∈ R, L < r.1 := by
    cases hc : R with
    | nil => exact absurd hc ne
    | cons r t =>
      rw [← hc]
      have hr : r ∈ R := by rw [hc]; exact List.mem_cons_self
      obtain ⟨sd, _, _, lt⟩ := side r hr
      have m2 := ((mem r).mp hr).2
      rcases sd with z | z
      · obtain ⟨r', a1, a2, a3⟩ := up r hr z
        have hr' : r' ∈ R := (mem r').mpr ⟨a1, by omega⟩
        obtain ⟨sd', _, _, lt'⟩ := side r' hr'
        exact ⟨r', hr', by omega⟩
      · exact ⟨r, hr, z⟩
  have key : ∃ d, 0 ≤ d ∧ d ≤ m + len - 1 ∧ FreeP (bgn ws b) b (pl + d) len := by
    obtain ⟨i, r', hi, gt, low⟩ := first_gt (t := pl) (R := R) (let ⟨r, h1, h2⟩ := late; ⟨r, h1, by omega⟩)
    have hr' := List.mem_of_getElem? hi
    have mr' := (mem r').mp hr'
    cases i with
    | succ i =>
      obtain ⟨r, hri⟩ : ∃ r, R[i]? = some r := ⟨_, List.getElem?_eq_getElem (by have := (List.getElem?_eq_some_iff.mp hi).1; omega)⟩
      have hr := List.mem_of_getElem? hri
      have le := low i r (Nat.lt_succ_self i) hri
      have mx := hm i r r' hri hi
      have sp := sep_at sep hri hi (Nat.lt_succ_self i)
      by_cases z : pl + len ≤ r.2
      · exact ⟨0, Int.le_refl _, by omega, in_a_run ((mem r).mp hr).1 (by omega) (by omega)⟩
      · exact ⟨r'.1 - pl, by omega, by omega, in_a_run mr'.1 (by omega) (by omega)⟩
    | zero =>
      obtain ⟨j, q, hj, gq, lowq⟩ := first_gt (t := L) (R := R) late
      have hq := List.mem_of_getElem? hj
      have mq := (mem q).mp hq
      obtain ⟨q0, a1, a2, a3⟩ := down q hq gq
      have hq0 : q0 ∈ R := (mem q0).mpr ⟨a1, by omega⟩
      obtain ⟨k, hk⟩ := List.getElem?_of_mem hq0
      have least : r'.1 ≤ q0.1 := by
        rcases Nat.eq_zero_or_pos k with z | z
        · rw [z, hi] at hk
          cases hk
          exact Int.le_refl _
        · have := sep_at sep hi hk z
          have := (side r' hr').2.2.2
          omega
      cases j with
      | zero =>
        rw [hi] at hj
        cases hj
        omega
      | succ j =>
        obtain ⟨r, hrj⟩ : ∃ r, R[j]? = some r := ⟨_, List.getElem?_eq_getElem (by have := (List.getElem?_eq_some_iff.mp hj).1; omega)⟩
        have hr := List.mem_of_getElem? hrj
        have le := lowq j r (Nat.lt_succ_self j) hrj
        have mx := hm j r q hrj hj
        have sd := (side r hr).1
        exact ⟨r'.1 - pl, by omega, by omega, in_a_run mr'.1 (by omega) (by omega)⟩
  obtain ⟨d, d0, d1, f⟩ := key
  have fr : Fr ws (tick + d) len := (fr_last g B hb l1).mpr ((shiftZ (p := pl + d) (q := -((tick - b) / L)) h0 (by omega) (by omega) (by omega) dv (by rw [Int.mul_neg]; omega)).mpr f)
  have sp := earl_spec g B (tick := tick) l1
  cases h : earlD ws bs tick len with
  | none =>
    rw [h] at sp
    exact absurd fr (sp _ (by omega))
  | some s =>
    rw [h] at sp
    have := sp.2.2 (tick + d) (by omega) fr
    exact ⟨s, rfl, sp.1, by omega⟩
/-- and from one tick it waits so long -/
theorem wait_at (g : GW ws) (B : Beg ws bs) (hb : bs[bs.length - 1]? = some b) {len : Int} (l1 : 1 ≤ len) {i : Nat} {r r' : Int × Int} (hr : (bigR ws b len)[i]? = some r) (hr' : (bigR ws b len)[i + 1]? = some r') {first : Int} (hf : b ≤ first) :
    ∃ t, first ≤ t ∧ t ≤ first + 23 ∧ earlD ws bs t len = some (t + (r'.1 - r.2 + len - 1)) := by
  have hbm := List.mem_of_getElem? hb
  have p1 := g.perL b
  have sep := big_sep (ws := ws) (b := b) (len := len)
  have mr := bigR_mem.mp (List.mem_of_getElem? hr)
  have mr' := bigR_mem.mp (List.mem_of_getElem? hr')
  obtain ⟨_, r1, r2, lt⟩ := run_side g B hbm mr.1
  obtain ⟨_, r1', r2', lt'⟩ := run_side g B hbm mr'.1
  have sp0 := sep_at sep hr hr' (Nat.lt_succ_self i)
  have lf := run_left g B hbm mr'.1
  obtain ⟨L, hL⟩ : ∃ L : Int, ((perL ws b : Nat) : Int) = L := ⟨_, rfl⟩
  obtain ⟨pl, hpl⟩ : ∃ pl, r.2 - len + 1 = pl := ⟨_, rfl⟩
  have m0 := Int.emod_nonneg (b + pl - first) (show L ≠ 0 by omega)
  have m1 := Int.emod_lt_of_pos (b + pl - first) (show 0 < L by omega)
  have em := Int.mul_ediv_add_emod (b + pl - first) L
  have h0 : ∀ w ∈ bgn ws b, w.1 ≤ b := fun w hw => of_decide_eq_true (List.mem_filter.mp hw).2
  have dv : ∀ w ∈ bgn ws b, w.2.2 ∣ L := by rw [← hL]; exact per_dvd (g.bgn b)
  obtain ⟨t, ht⟩ : ∃ t, first + (b + pl - first) % L = t := ⟨_, rfl⟩
  refine ⟨t, by omega, by omega, ?_⟩
  have fr : Fr ws (t + (r'.1 - r.2 + len - 1)) len := (fr_last g B hb l1).mpr ((shiftZ (p := r'.1) (q := (b + pl - first) / L) h0 (by omega) (by omega) (by omega) dv (by omega)).mpr (in_a_run mr'.1 (Int.le_refl _) (by omega)))
  have low : ∀ s', t ≤ s' → Fr ws s' len → t + (r'.1 - r.2 + len - 1) ≤ s' := fun s' hs f => Classical.byContradiction fun n => by
    have f := (fr_last g B hb l1).mp f
    obtain ⟨x, hx⟩ : ∃ x, pl + (s' - t) = x := ⟨_, rfl⟩
    have fx := (shiftZ (p := x) (p' := s' - b) (q := (b + pl - first) / L) h0 (by omega) (by omega) (by omega) dv (by omega)).mp f
    have le : x + len ≤ r'.1 - 1 := Classical.byContradiction fun n2 => by
      have := fx (r'.1 - 1) (by omega) (by omega)
      rw [lf] at this
      cases this
    obtain ⟨u, hu, u1, u2⟩ := has_run g B hbm l1 (by omega) (by omega) fx
    have hub : u ∈ bigR ws b len := bigR_mem.mpr ⟨hu, by omega⟩
    obtain ⟨k, hk⟩ := List.getElem?_of_mem hub
    rcases Nat.lt_trichotomy k i with z | z | z
    · have := sep_at sep hk hr z
      omega
    · rw [z, hr] at hk
      cases hk
      omega
    · by_cases y : k = i + 1
      · rw [y, hr'] at hk
        cases hk
        omega
      · have := sep_at sep hr' hk (by omega)
        omega
  have sp := earl_spec g B (tick := t) l1
  cases h : earlD ws bs t len with
  | none =>
    rw [h] at sp
    exact absurd fr (sp _ (by omega))
  | some s =>
    rw [h] at sp
    have a := sp.2.2 _ (by omega) fr
    have c := low s sp.1 sp.2.1
    rw [show s = t + (r'.1 - r.2 + len - 1) by omega]
end
end My
namespace My
open PySem PySem.Spec PyProof.Rows L2
abbrev sIsInt : Stmt := top 12 /-_law_is_integer-/
abbrev sWin13 : Stmt := top 14 /-_law_window-/
abbrev sTak13 : Stmt := top 15 /-_law_taken-/
abbrev sGap13 : Stmt := top 16 /-_law_gap-/
/-- a window that the law draws -/
structure WOk (w : Win) : Prop where
  o : 0 ≤ w.1 ∧ w.1 ≤ 19
  l : 0 ≤ w.2.1 ∧ w.2.1 ≤ 14
  p : 1 ≤ w.2.2 ∧ w.2.2 ≤ 12
  d : w.2.2.natAbs ∣ 24
theorem taken_eq {o l p x : Int} (l0 : 0 ≤ l) (p1 : 1 ≤ p) : (decide (l > 0) && (decide (x ≥ o) && (decide (l ≥ p) || decide ((x - o) % p < l)))) = hasT (o, l, p) x := by
  have m0 := Int.emod_nonneg (x - o) (show p ≠ 0 by omega)
  have m1 := Int.emod_lt_of_pos (x - o) (show 0 < p by omega)
  show _ = (decide (o ≤ x) && decide ((x - o) % p < l))
  rw [Bool.eq_iff_iff, Bool.and_eq_true, Bool.and_eq_true, Bool.or_eq_true, Bool.and_eq_true, decide_eq_true_eq, decide_eq_true_eq, decide_eq_true_eq, decide_eq_true_eq]
  omega
/-- what the law's search for the gap holds behind n ticks -/
def GapN (ws : List Win) (first : Int) (n : Nat) (best many : Int) : Prop := (0 ≤ many ∧ many ≤ (n : Int) ∧ Fr ws (first + n - many) many ∧ (many = n ∨ ws.any (hasT · (first + n - many - 1)) = true)) ∧
  0 ≤ best ∧ best ≤ (n : Int) ∧ (∃ s, first ≤ s ∧ s + best ≤ first + n ∧ Fr ws s best) ∧ ∀ s len, first ≤ s → s + len ≤ first + n → Fr ws s len → len ≤ best
theorem gapn_start (ws : List Win) (first : Int) : GapN ws first 0 0 0 := ⟨⟨by omega, by omega, fun x a b => by omega, .inl rfl⟩, by omega, by omega, ⟨first, by omega, by omega, fun x a b => by omega⟩, fun s len a b _ => by omega⟩
theorem gapn_taken {ws : List Win} {first best many : Int} {n : Nat} (h : GapN ws first n best many) (y : ws.any (hasT · (first + (n : Int))) = true) : GapN ws first (n + 1) (if (0 : Int) > best then 0 else best) 0 := by
  obtain ⟨_, h1, h2, ⟨s, a1, a2, a3⟩, h4⟩ := h
  rw [if_neg (by omega)]
  refine ⟨⟨by omega, by omega, fun x a b => by omega, .inr ?_⟩, h1, by omega, ⟨s, a1, by omega, a3⟩, fun s len a b f => ?_⟩
  · rw [show first + ((n + 1 : Nat) : Int) - 0 - 1 = first + (n : Int) by omega]
    exact y
  · by_cases z : s + len ≤ first + n
    · exact h4 s len a z f
    · by_cases l0 : len ≤ 0
      · omega
      · have := f (first + n) (by omega) (by omega)
        rw [y] at this
        cases this
theorem gapn_free {ws : List Win} {first best many : Int} {n : Nat} (h : GapN ws first n best many) (y : ws.any (hasT · (first + (n : Int))) = false) : GapN ws first (n + 1) (if many + 1 > best then many + 1 else best) (many + 1) := by
  obtain ⟨⟨m1, m2, m3, m4⟩, h1, h2, ⟨s, a1, a2, a3⟩, h4⟩ := h
  have f1 : Fr ws (first + ((n + 1 : Nat) : Int) - (many + 1)) (many + 1) := fun x a b => by
    by_cases z : x = first + n
    · rw [z]
      exact y
    · exact m3 x (by omega) (by omega)
  refine ⟨⟨by omega, by omega, f1, ?_⟩, by split <;> omega, by split <;> omega, ?_, fun s len a b f => ?_⟩
  · rcases m4 with z | z
    · exact .inl (by omega)
    · refine .inr ?_
      rw [show first + ((n + 1 : Nat) : Int) - (many + 1) - 1 = first + (n : Int) - many - 1 by omega]
      exact z
  · by_cases z : many + 1 > best
    · rw [if_pos z]
      exact ⟨_, by omega, by omega, f1⟩
    · rw [if_neg z]
      exact ⟨s, a1, by omega, a3⟩
  · by_cases z : s + len ≤ first + n
    · have := h4 s len a z f
      split <;> omega
    · have : len ≤ many + 1 := Classical.byContradiction fun q => by
        rcases m4 with e | e
        · omega
        · have := f (first + n - many - 1) (by omega) (by omega)
          rw [e] at this
          cases this
      split <;> omega
section
variable {P : Program} {w : World} {K : PySem.W.Frag} {mg : Str → Option Value} {base : Heap}
theorem scIsInt : FnScope ["actual"] ["actual"] (defScope sIsInt) := ⟨rfl, rfl, rfl, by decide +kernel, rfl, by decide +kernel, by decide +kernel⟩
def spIsInt : Sp := fun vs H Q _ => ∃ x : Int, vs = [.int x] ∧ Q (.bl true) H
theorem ok_isint {f : Addr} {fd : FuncData} {k : Nat} (F : Fun K "_law_is_integer" "_law_is_integer" sIsInt f fd) (hisi : mg "isinstance" = none) (hint : mg "int" = none) (hbool : mg "bool" = none) : FnOk P w K mg base CX0 (k + 1) f fd ["actual"] spIsInt := by
  refine F.ok scIsInt (fun vs H Q E h => ?_) (fun cdv A0 outer s0 H vs Q E hr h => ?_)
  · obtain ⟨x, rfl, _⟩ := h
    rfl
  · obtain ⟨x, rfl, q⟩ := h
    have nd := scIsInt.nd
    refine ⟨_, pss_one (ps_ret (pe_and (pe_callB call_isi (by rfl) hisi PyProof.Rows.boot_isinstance (pa_cons (pv 0) (pa_cons (pe_bltn (v := .ty "int") (by rfl) hint PyProof.Rows.boot_int rfl) pa_nil))) (pe_one (pe_not (pe_callB call_isi (by rfl) hisi PyProof.Rows.boot_isinstance (pa_cons (pv 0) (pa_cons (pe_bltn (v := .ty "bool") (by rfl) hbool PyProof.Rows.boot_bool rfl) pa_nil))))))), ?_⟩
    dsimp only [tRet]
    refine andv (a := true) (b := true) (fun Q h => ?_) (fun _ Q h => ?_) q
    · exact ⟨_, rfl, .int x, .ty "int", .type "int", .type "int", true, rfl, .ty "int", .base (.int x), kit_ty (by decide +kernel), h⟩
    · exact ⟨_, rfl, .int x, .ty "bool", .type "int", .type "bool", false, rfl, .ty "bool", .base (.int x), kit_ty (by decide +kernel), _, rfl, h⟩
theorem scWin13 : FnScope ["cell", "numbers", "period", "length"] ["cell"] (defScope sWin13) := ⟨rfl, rfl, rfl, by decide +kernel, rfl, by decide +kernel, by decide +kernel⟩
def spWin13 : Sp := fun vs H Q _ => ∃ (c : Int), vs = [.int c] ∧ ∀ (H' : Hp) (t : Addr) (w : Win), Same H H' → H' t = some (.tup (winV w)) → WOk w → Q (.ref t) H'
theorem ok_win13 {f fD : Addr} {fd fdD : FuncData} {k : Nat} (F : Fun K "_law_window" "_law_window" sWin13 f fd) (T : Blt mg) (GD : Callee P w K mg base 1 "_law_draw" ["cell", "many", "bound"] spDraw fD fdD) : FnOk P w K mg base CX0 (k + 2) f fd ["cell"] spWin13 := by
  refine F.ok scWin13 (fun vs H Q E h => ?_) (fun cdv A0 outer s0 H vs Q E hr h => ?_)
  · obtain ⟨c, rfl, _⟩ := h
    rfl
  · obtain ⟨c, rfl, q⟩ := h
    have nd := scWin13.nd
    have hr1 : Room 1 _ := hr.mono (by omega)
    refine ⟨_, pss_cons (ps_set (i := 1) nd rfl (.inl rfl) (pe_call GD.ok hr1 (by rfl) GD.mg GD.kp GD.b .nil pass0 (pa_cons (pv 0) (pa_cons pe_int (pa_cons (pe_op op_shl pe_int pe_int) pa_nil))))) <| pss_cons (ps_set (i := 2) nd rfl (.inl rfl) (pe_ix ix_list (pe_lst (pa_cons pe_int (pa_cons pe_int (pa_cons pe_int (pa_cons pe_int (pa_cons pe_int (pa_cons pe_int pa_nil))))))) (pe_op op_mod (pe_ix ix_list (pv 1) pe_int (fun _ _ => rfl)) pe_int) (fun _ _ => rfl))) <| pss_cons (ps_set (i := 3) nd rfl (.inl rfl) (pe_op op_add pe_int (pe_op op_mod (pe_ix ix_list (pv 1) pe_int (fun _ _ => rfl)) pe_int))) <| C8.pss_cut (ps_if (pt_cmpR op_eq (pe_op op_mod (pe_op op_fdiv (pe_ix ix_list (pv 1) pe_int (fun _ _ => rfl)) pe_int) pe_int) pe_int (nomark _)) (pss_one (ps_set (i := 3) nd rfl (.inl rfl) (pe_op op_mod (pe_op op_fdiv (pe_ix ix_list (pv 1) pe_int (fun _ _ => rfl)) pe_int) (pe_op op_add (pv 2) pe_int)))) (pss_nil)) <| pss_one (ps_ret (pe_tup (pa_cons (pe_op op_mod (pe_ix ix_list (pv 1) pe_int (fun _ _ => rfl)) pe_int) (pa_cons (pv 3) (pa_cons (pv 2) pa_nil))))), ?_⟩
    refine ⟨_, rfl, _, _, rfl, rfl, ⟨by decide, by decide, by decide⟩, c, _, 4, rfl, by decide, by decide, by decide, fun H1 pn ns s1 npn hn ln bn => ?_⟩
    have bd : ∀ j, j < 4 → 0 ≤ ns.getD j 0 ∧ ns.getD j 0 < 1048576 := fun j hj => bn _ (getD_mem (by omega))
    refine ⟨(by show 6 ≤ sizeLine; decide), fun a1 n1 => ?_⟩
    have w1 := same_new (o := .lst [V.int 6, V.int 8, V.int 12, V.int 4, V.int 3, V.int 12]) n1
    have h1 : (upd H1 a1 (.lst [V.int 6, V.int 8, V.int 12, V.int 4, V.int 3, V.int 12])) a1 = some (.lst (([6, 8, 12, 4, 3, 12] : List Int).map V.int)) := upd_same
    generalize upd H1 a1 (.lst [V.int 6, V.int 8, V.int 12, V.int 4, V.int 3, V.int 12]) = G5 at w1 h1 ⊢
    have hn := w1 _ _ hn
    have s5 := s1.trans w1
    have m0 := Int.emod_nonneg (ns.getD 0 0) (show (6 : Int) ≠ 0 by decide)
    have m1 := Int.emod_lt_of_pos (ns.getD 0 0) (show (0 : Int) < 6 by decide)
    obtain ⟨j, hj⟩ : ∃ j : Nat, ns.getD 0 0 % 6 = (j : Int) := ⟨_, (Int.toNat_of_nonneg m0).symm⟩
    have jl : j < 6 := by omega
    obtain ⟨pe, hpe⟩ : ∃ pe, ([6, 8, 12, 4, 3, 12] : List Int).getD j 0 = pe := ⟨_, rfl⟩
    have ape : 1 ≤ pe ∧ pe ≤ 12 ∧ pe.natAbs ∣ 24 := by
      have al : ∀ x ∈ ([6, 8, 12, 4, 3, 12] : List Int), 1 ≤ x ∧ x ≤ 12 ∧ x.natAbs ∣ 24 := by decide
      rw [← hpe]
      exact al _ (getD_mem jl)
    refine ⟨_, rfl, pn, _, _, _, rfl, rfl, SqL.of hn, atI_ints (j := 0) rfl (by omega), _, _, rfl, rfl, (by show (0 : Int) < 6; decide), a1, _, _, _, rfl, rfl, SqL.of h1, atI_ints hj jl, ?_⟩
    rw [hpe]
    have z0 : 0 ≤ ns.getD 1 0 % 2 := Int.emod_nonneg _ (by decide)
    have z1 : ns.getD 1 0 % 2 < 2 := Int.emod_lt_of_pos _ (by decide)
    refine ⟨_, rfl, pn, _, _, _, rfl, rfl, SqL.of hn, atI_ints (j := 1) rfl (by omega), _, _, rfl, rfl, (by show (0 : Int) < 2; decide), _, _, rfl, rfl, ?_⟩
    refine ⟨fun σ H' => ∃ l : Int, σ = [some (.int c), some (.ref pn), some (.int pe), some (.int l)] ∧ H' = G5 ∧ 0 ≤ l ∧ l ≤ 14, ?_, ?_⟩
    · refine ⟨_, rfl, pn, _, _, _, rfl, rfl, SqL.of hn, atI_ints (j := 1) rfl (by omega), _, _, rfl, rfl, ⟨by decide, by decide⟩, _, _, rfl, rfl, (by show (0 : Int) < 6; decide), rfl, _, rfl, ?_⟩
      refine ite2 (fun e => ?_) (fun e => ?_)
      · refine ⟨_, rfl, pn, _, _, _, rfl, rfl, SqL.of hn, atI_ints (j := 1) rfl (by omega), _, _, rfl, rfl, ⟨by decide, by decide⟩, _, rfl, _, _, rfl, rfl, _, _, rfl, rfl, (by show (0 : Int) < pe + 3; omega), ?_⟩
        have y0 : 0 ≤ ns.getD 1 0 / 12 % (pe + 3) := Int.emod_nonneg _ (by omega)
        have y1 : ns.getD 1 0 / 12 % (pe + 3) < pe + 3 := Int.emod_lt_of_pos _ (by omega)
        exact ⟨_, rfl, rfl, y0, by omega⟩
      · exact ⟨_, rfl, rfl, by omega, by omega⟩
    · rintro σ H' ⟨l, rfl, rfl, l0, l26⟩
      have x0 : 0 ≤ ns.getD 2 0 % 20 := Int.emod_nonneg _ (by decide)
      have x1 : ns.getD 2 0 % 20 < 20 := Int.emod_lt_of_pos _ (by decide)
      refine ⟨_, rfl, pn, _, _, _, rfl, rfl, SqL.of hn, atI_ints (j := 2) rfl (by omega), _, _, rfl, rfl, (by show (0 : Int) < 20; decide), _, rfl, _, rfl, (by show 3 ≤ sizeLine; decide), fun t nt => ?_⟩
      exact q _ t (ns.getD 2 0 % 20, l, pe) (s5.trans (same_new nt)) upd_same ⟨⟨x0, by show ns.getD 2 0 % 20 ≤ 19; omega⟩, ⟨l0, l26⟩, ⟨ape.1, ape.2.1⟩, ape.2.2⟩
theorem scTak13 : FnScope ["windows", "tick", "offset", "length", "period"] ["windows", "tick"] (defScope sTak13) := ⟨rfl, rfl, rfl, by decide +kernel, rfl, by decide +kernel, by decide +kernel⟩
def spTak13 (K : PySem.W.Frag) : Sp := fun vs H Q _ => ∃ (a : Addr) (ts : List Addr) (ws : List Win) (x : Int), vs = [.ref a, .int x] ∧ SqL K H a (ts.map V.ref) ∧ WinsAt K H ts ws ∧ (∀ w ∈ ws, WOk w) ∧ Q (.bl (ws.any (hasT · x))) H
theorem ok_tak13 {f : Addr} {fd : FuncData} {k : Nat} (F : Fun K "_law_taken" "_law_taken" sTak13 f fd) (T : Blt mg) : FnOk P w K mg base CX0 (k + 1) f fd ["windows", "tick"] (spTak13 K) := by
  refine F.ok scTak13 (fun vs H Q E h => ?_) (fun cdv A0 outer s0 H vs Q E hr h => ?_)
  · obtain ⟨a, ts, ws, x, rfl, _⟩ := h
    rfl
  · obtain ⟨a, ts, ws, x, rfl, ha, hw, ok, q⟩ := h
    have nd := scTak13.nd
    refine ⟨_, pss_cons (ps_for PassesOwn.never rfl (pi_list (pv 0)) (pg_tup rfl (pgs_cons (pg_name (i := 2) nd rfl (.inl rfl)) (pgs_cons (pg_name (i := 3) nd rfl (.inl rfl)) (pgs_cons (pg_name (i := 4) nd rfl (.inl rfl)) pgs_nil)))) (pss_one (ps_if (PW.pt (pw_and (pt_cmpR op_gt (pv 3) pe_int (nomark _)) (pw_and (pt_cmpR op_ge (pv 1) (pv 2) (nomark _)) (pw_and1 (PW.pt (pw_or (pt_cmpR op_ge (pv 3) (pv 4) (nomark _)) (pw_or1 (pt_cmpR op_lt (pe_op op_mod (pe_callTy call_int1 (by rfl) T.int (by decide +kernel) (pa_cons (pe_op op_sub (pv 1) (pv 2)) pa_nil)) (pv 4)) (pv 3) (nomark _))))))))) (pss_one (ps_ret pe_bl)) (pss_nil)))) <| pss_one (ps_ret pe_bl), ?_⟩
    refine ⟨_, rfl, a, rfl, ⟨_, ha⟩, for_list (K := K) (a := a) (xs := ts.map V.ref) (fun i σ H' => ∃ v2 v3 v4 : Option V, σ = [some (.ref a), some (.int x), v2, v3, v4] ∧ H' = H ∧ (ws.take i).any (hasT · x) = false) ⟨none, none, none, rfl, rfl, rfl⟩ (fun i σ H' _ ⟨_, _, _, _, e, _⟩ => e ▸ ha) ?_ ?_⟩
    · rintro i y σ H' hi ⟨v2, v3, v4, rfl, rfl, hn⟩
      obtain ⟨t, et, rfl⟩ := refs_at hi
      obtain ⟨u, eu, hT⟩ := Paired.at hw et
      have wo := ok u (List.mem_of_getElem? eu)
      obtain ⟨o1, l1, p1⟩ := u
      have l : 0 ≤ l1 ∧ l1 ≤ 14 := wo.l
      have p : 1 ≤ p1 ∧ p1 ≤ 12 := wo.p
      refine ⟨t, _, rfl, hT, rfl, _, _, rfl, _, _, rfl, _, _, rfl, rfl, ?_⟩
      dsimp only [gName, tSeq, tIfS]
      refine and_read (a := decide (l1 > 0)) (b := decide (x ≥ o1) && (decide (l1 ≥ p1) || decide ((x - o1) % p1 < l1))) (fun Q q => ⟨_, rfl, _, _, rfl, rfl, _, rfl, q⟩) (fun _ Q q => ?_) ?_
      · refine and_read (a := decide (x ≥ o1)) (b := decide (l1 ≥ p1) || decide ((x - o1) % p1 < l1)) (fun Q q => ⟨_, rfl, _, rfl, _, _, rfl, rfl, _, rfl, q⟩) (fun _ Q q => ?_) q
        refine or_read (a := decide (l1 ≥ p1)) (b := decide ((x - o1) % p1 < l1)) (fun Q q => ⟨_, rfl, _, rfl, _, _, rfl, rfl, _, rfl, q⟩) (fun Q q => ?_) q
        exact ⟨_, rfl, _, rfl, _, _, rfl, rfl, .inl ⟨_, rfl, _, rfl, _, _, rfl, rfl, (by show 0 < p1; omega), _, rfl, _, _, rfl, rfl, _, rfl, q⟩⟩
      · rw [taken_eq l.1 p.1]
        cases hT' : hasT (o1, l1, p1) x with
        | true =>
          rw [if_pos rfl]
          have : ws.any (hasT · x) = true := List.any_eq_true.mpr ⟨_, List.mem_of_getElem? eu, hT'⟩
          rw [this] at q
          exact q
        | false =>
          rw [if_neg Bool.false_ne_true]
          refine ⟨_, _, _, rfl, rfl, ?_⟩
          rw [take_snoc eu, List.any_append, hn, List.any_cons, hT']
          rfl
    · rintro σ H' ⟨v2, v3, v4, rfl, rfl, hn⟩
      rw [List.length_map, hw.length, List.take_length] at hn
      rw [hn] at q
      exact q
theorem scGap13 : FnScope ["windows", "first", "best", "many", "tick"] ["windows", "first"] (defScope sGap13) := ⟨rfl, rfl, rfl, by decide +kernel, rfl, by decide +kernel, by decide +kernel⟩
-- ["windows", "first", "best", "many", "tick"]
def spGap13 (K : PySem.W.Frag) : Sp := fun vs H Q _ => ∃ (a : Addr) (ts : List Addr) (ws : List Win) (x : Int), vs = [.ref a, .int x] ∧ SqL K H a (ts.map V.ref) ∧ WinsAt K H ts ws ∧ (∀ w ∈ ws, WOk w) ∧ 0 ≤ x ∧ x ≤ 100 ∧ ∀ best many, GapN ws x 60 best many → Q (optI (if best = 60 then none else some best)) H
theorem ok_gap13 {f fT : Addr} {fd fdT : FuncData} {k : Nat} (F : Fun K "_law_gap" "_law_gap" sGap13 f fd) (T : Blt mg) (hmax : mg "max" = none) (GT : Callee P w K mg base 1 "_law_taken" ["windows", "tick"] (spTak13 K) fT fdT) : FnOk P w K mg base CX0 (k + 2) f fd ["windows", "first"] (spGap13 K) := by
  refine F.ok scGap13 (fun vs H Q E h => ?_) (fun cdv A0 outer s0 H vs Q E hr h => ?_)
  · obtain ⟨a, ts, ws, x, rfl, _⟩ := h
    rfl
  · obtain ⟨a, ts, ws, x, rfl, ha, hw, ok, x0, x1, q⟩ := h
    have nd := scGap13.nd
    have hr1 : Room 1 _ := hr.mono (by omega)
    refine ⟨_, pss_cons (ps_set (i := 2) nd rfl (.inl rfl) pe_int) <| pss_cons (ps_set (i := 3) nd rfl (.inl rfl) pe_int) <| pss_cons (ps_for PassesOwn.never rfl (pi_range2 (by rfl) T.range (pa_cons (pv 1) (pa_cons (pe_op op_add (pv 1) pe_int) pa_nil))) (pg_name (i := 4) nd rfl (.inl rfl)) (pss_cons (ps_set (i := 3) nd rfl (.inl rfl) (pe_op op_mul (pe_op op_add (pv 3) pe_int) (pe_callTy call_int1 (by rfl) T.int (by decide +kernel) (pa_cons (pe_not (pe_call GT.ok hr1 (by rfl) GT.mg GT.kp GT.b .nil pass0 (pa_cons (pv 0) (pa_cons (pv 4) pa_nil)))) pa_nil)))) <| pss_one (ps_set (i := 2) nd rfl (.inl rfl) (pe_callB (call_max2 rfl) (by rfl) hmax (by decide +kernel) (pa_cons (pv 2) (pa_cons (pv 3) pa_nil)))))) <| pss_cons (ps_if (pt_cmpR op_eq (pv 2) pe_int (nomark _)) (pss_one (ps_ret pe_non)) (pss_nil)) <| pss_one (ps_ret (pv 2)), ?_⟩
    refine ⟨_, rfl, _, rfl, _, _, rfl, rfl, ?_⟩
    refine ⟨_, _, rfl, by omega, for_it walk_range (fun i σ H' => ∃ (best many : Int) (v4 : Option V), σ = [some (.ref a), some (.int x), some (.int best), some (.int many), v4] ∧ H' = H ∧ GapN ws x i best many) ⟨0, 0, none, rfl, rfl, gapn_start ws x⟩ (fun _ _ _ _ _ => trivial) ?_ ?_⟩
    · rintro i y σ H' _ hi ⟨best, many, v4, rfl, rfl, hG⟩ ⟨rfl, rfl⟩
      have mb := hG.1.1
      have mb2 := hG.1.2.1
      have hi : i < ((x + 60) - x).toNat := hi
      refine ⟨_, rfl, _, _, rfl, rfl, ?_⟩
      refine ⟨_, rfl, _, rfl, a, ts, ws, x + (i : Int), rfl, ha, hw, ok, _, rfl, .inr ⟨_, rfl, _, _, rfl, rfl, .inl ⟨by omega, by omega⟩, ?_⟩⟩
      refine ⟨_, rfl, _, rfl, _, _, rfl, ?_⟩
      cases y : ws.any (hasT · (x + (i : Int))) with
      | true =>
        refine ⟨_, _, _, rfl, rfl, ?_⟩
        show GapN ws x (i + 1) (if (many + 1) * 0 > best then (many + 1) * 0 else best) ((many + 1) * 0)
        rw [Int.mul_zero]
        exact gapn_taken hG y
      | false =>
        refine ⟨_, _, _, rfl, rfl, ?_⟩
        show GapN ws x (i + 1) (if (many + 1) * 1 > best then (many + 1) * 1 else best) ((many + 1) * 1)
        rw [Int.mul_one]
        exact gapn_free hG y
    · rintro σ H' ⟨best, many, v4, rfl, rfl, hG⟩
      have e60 : ((x + 60) - x).toNat = 60 := by omega
      have hG : GapN ws x ((x + 60) - x).toNat best many := hG
      rw [e60] at hG
      have q := q best many hG
      refine ⟨_, rfl, rfl, _, rfl, ?_⟩
      dsimp only
      rw [dec_int]
      by_cases z : best = 60
      · rw [if_pos (decide_eq_true z)]
        rw [if_pos z] at q
        exact q
      · rw [if_neg (fun y => z (of_decide_eq_true y))]
        rw [if_neg z] at q
        exact ⟨_, rfl, q⟩
end
end My
namespace My
open PySem PySem.Spec PyProof.Rows L2
abbrev sLaw : Stmt := top 17 /-law-/
theorem cut_map {xs : List Int} (lo hi : Option Int) : ∃ ms : List Int, cutV (xs.map V.int) lo hi = ms.map V.int := by
  refine ⟨(xs.drop (HT.sIx (xs.map V.int).length 0 lo)).take (HT.sIx (xs.map V.int).length (xs.map V.int).length hi - HT.sIx (xs.map V.int).length 0 lo), ?_⟩
  unfold cutV
  rw [List.map_take, List.map_drop]
theorem cut_few {xs : List V} {lo hi : Nat} : (cutV xs (some (lo : Int)) (some (hi : Int))).length ≤ hi - lo := by
  unfold cutV
  rw [HT.sIx_nat, HT.sIx_nat, List.length_take]
  omega
theorem cut_cells {ns : List Int} (lo hi m : Nat) {z : Int} (e : z = (hi : Int)) (h : hi ≤ lo + m) : ∃ ms : List Int, cutV (ns.map V.int) (some ((lo : Nat) : Int)) (some z) = ms.map V.int ∧ ms.length ≤ m := by
  subst e
  obtain ⟨ms, em⟩ := cut_map (xs := ns) (some ((lo : Nat) : Int)) (some ((hi : Nat) : Int))
  refine ⟨ms, em, ?_⟩
  have := cut_few (xs := ns.map V.int) (lo := lo) (hi := hi)
  rw [em, List.length_map] at this
  omega
theorem kept_good {ws : List Win} (h : ∀ w ∈ ws, WOk w) (l : ws.length ≤ 8) : GW (ws.filter fun u => decide (u.2.1 > 0)) :=
  have f : ∀ w ∈ ws.filter fun u => decide (u.2.1 > 0), WOk w ∧ 1 ≤ w.2.1 := fun w hw => ⟨h w (List.mem_filter.mp hw).1, of_decide_eq_true (List.mem_filter.mp hw).2⟩
  ⟨fun w hw => by have := (f w hw).1.o; omega, fun w hw => by have := (f w hw).1.l; have := (f w hw).2; omega, fun w hw => by have := (f w hw).1.p; omega, ⟨24, by decide, by decide, fun w hw => (f w hw).1.d⟩, Nat.le_trans (List.length_filter_le _ _) l⟩
theorem flat_optI (o : Option Int) : scal (optI o) (optI o) = true := by
  cases o <;> rfl
theorem shp_non : Shp 1 (.list [PyData.none]) := shp_list fun d hd => by
  rw [List.mem_singleton.mp hd]
  exact ⟨by rw [PyData.canLay0], by rw [PyData.depth]; exact Nat.le_refl _⟩
def overD (size : Int) : Option Int → Bool
  | none => false
  | some v => decide (v < size)
theorem andvH {ta tb : TE} {σ : L2.St} {H : Hp} {Q : V → Hp → Prop} {a b : Bool} (ha : ∀ Q : V → Hp → Prop, Q (.bl a) H → ta σ H Q) (hb : a = true → ∀ Q : V → Hp → Prop, (∀ H', Q (.bl b) H') → tb σ H Q) (h : ∀ H', Q (.bl (a && b)) H') : tAndV ta tb σ H Q := by
  refine ha _ ?_
  cases a with
  | true => exact ⟨_, rfl, hb rfl _ h⟩
  | false => exact ⟨_, rfl, h _⟩
theorem one_ok (x : Int × Int) : [x].length ≤ 100 := by show 1 ≤ 100; decide
section
variable {ks : List Win} {bs : List Int} {first : Int}
theorem last_cases (bs : List Int) : (bs = [] ∧ bs[bs.length - 1]? = none) ∨ ∃ b, bs[bs.length - 1]? = some b := by
  cases bs with
  | nil => exact .inl ⟨rfl, rfl⟩
  | cons a r => exact .inr ⟨_, List.getElem?_eq_getElem (show (a :: r).length - 1 < (a :: r).length by show r.length + 1 - 1 < r.length + 1; omega)⟩
theorem none_left (B : Beg ks []) : ks = [] := by
  cases ks with
  | nil => rfl
  | cons w r => exact absurd ((B.mem w.1).mpr ⟨w, List.mem_cons_self, rfl⟩) List.not_mem_nil
theorem final_gap (g : GW ks) (B : Beg ks bs) (hf : ∀ b ∈ bs, b ≤ first) {o : Option Int} (hO : GapO ks bs o) {best many : Int} (hN : GapN ks first 60 best many) : o = if best = 60 then none else some best := by
  obtain ⟨_, n0, n1, ⟨s, a1, a2, a3⟩, n4⟩ := hN
  unfold GapO at hO
  rcases last_cases bs with ⟨e, e2⟩ | ⟨b, hb⟩
  · rw [e2] at hO
    have hO : o = none := hO
    rw [e] at B
    have z := none_left B
    have := n4 first 60 (Int.le_refl _) (by omega) fun x _ _ => by rw [z]; rfl
    rw [if_pos (show best = 60 by omega), hO]
  · rw [hb] at hO
    obtain ⟨m, rfl, m1, m2⟩ := hO
    have fb := hf b (List.mem_of_getElem? hb)
    have le1 : m ≤ best ∧ m ≤ 23 := by
      rcases m2 with ⟨_, z⟩ | ⟨r, hr, z⟩
      · omega
      · obtain ⟨q0, s2, q1, q2, q3⟩ := gap_at g B hb hr fb
        have := n4 s2 (r.2 - r.1) q1 (by omega) q3
        omega
    have le2 : best ≤ m := by
      by_cases z : best ≤ 0
      · have : 0 ≤ m := by
          rcases m2 with ⟨_, z⟩ | ⟨r, hr, z⟩
          · omega
          · have := (run_side g B (List.mem_of_getElem? hb) hr).2.2.2
            omega
        omega
      · exact gap_most g B hb m1 (by omega) (by omega) a3
    rw [if_neg (by omega), show m = best by omega]
theorem final_none (g : GW ks) (B : Beg ks bs) (hf : ∀ b ∈ bs, b ≤ first) {due size : Int} (hO : GapO ks bs (some due)) (s1 : 1 ≤ size) (gt : due < size) {o : Option Int} (hW : WaitO ks bs size o) : o = none ∧ earlD ks bs first size = none := by
  unfold GapO at hO
  unfold WaitO at hW
  rcases last_cases bs with ⟨e, e2⟩ | ⟨b, hb⟩
  · rw [e2] at hO
    cases hO
  · rw [hb] at hO hW
    obtain ⟨m, e, m1, m2⟩ := hO
    cases e
    have fb := hf b (List.mem_of_getElem? hb)
    constructor
    · rcases hW with ⟨_, z⟩ | ⟨m, _, ⟨i, r, r', h1, _⟩, _⟩
      · exact z
      · have := bigR_mem.mp (List.mem_of_getElem? h1)
        have := m1 r this.1
        omega
    · have sp := earl_spec g B (tick := first) s1
      cases h : earlD ks bs first size with
      | none => rfl
      | some s =>
        rw [h] at sp
        have := gap_most g B hb m1 (by have := sp.1; omega) s1 sp.2.1
        omega
theorem final_wait (g : GW ks) (B : Beg ks bs) (hf : ∀ b ∈ bs, b ≤ first) {size : Int} {og : Option Int} (hO : GapO ks bs og) (s1 : 1 ≤ size) (le : ∀ due, og = some due → size ≤ due) {o : Option Int} (hW : WaitO ks bs size o) :
    ∃ W, o = some W ∧ (∀ t, first ≤ t → ∃ s, earlD ks bs t size = some s ∧ t ≤ s ∧ s - t ≤ W) ∧ ∃ t, first ≤ t ∧ t ≤ first + 23 ∧ earlD ks bs t size = some (t + W) := by
  unfold GapO at hO
  unfold WaitO at hW
  rcases last_cases bs with ⟨e, e2⟩ | ⟨b, hb⟩
  · rw [e2] at hW
    have hW : o = some 0 := hW
    have ee : ∀ t, earlD ks bs t size = some t := fun t => by rw [e]; rfl
    exact ⟨0, hW, fun t _ => ⟨t, ee t, Int.le_refl _, by omega⟩, first, Int.le_refl _, by omega, by rw [ee]; congr 1; omega⟩
  · rw [hb] at hO hW
    obtain ⟨due, e, m1, m2⟩ := hO
    have le := le due e
    have fb := hf b (List.mem_of_getElem? hb)
    have ne : bigR ks b size ≠ [] := fun z => by
      rcases m2 with ⟨_, y⟩ | ⟨r, hr, y⟩
      · omega
      · have : r ∈ bigR ks b size := bigR_mem.mpr ⟨hr, by omega⟩
        rw [z] at this
        cases this
    rcases hW with ⟨z, _⟩ | ⟨m, e, ⟨i, r, r', h1, h2, h3⟩, h4⟩
    · exact absurd z ne
    · refine ⟨m + size - 1, e, fun t ht => wait_most g B hb s1 ne h4 (by omega), ?_⟩
      obtain ⟨t, t1, t2, t3⟩ := wait_at g B hb s1 h1 h2 fb
      exact ⟨t, t1, t2, by rw [t3, h3]⟩
end
section
variable {P : Program} {w : World} {K : PySem.W.Frag} {mg : Str → Option Value} {base : Heap}
theorem scLaw : FnScope ["script", "windows", "size", "first", "window", "due", "most", "told", "waits", "tick", "start", "cell"] ["script"] (defScope sLaw) := ⟨rfl, rfl, rfl, by decide +kernel, rfl, by decide +kernel, by decide +kernel⟩
-- ["script", "windows", "size", "first", "window", "due", "most", "told", "waits", "tick", "start", "cell"]
def spLaw (K : PySem.W.Frag) : Sp := fun vs H Q _ => ∃ (a : Addr) (ns : List Int), vs = [.ref a] ∧ SqL K H a (ns.map V.int) ∧ ns.length ≤ 63 ∧ ∀ H', Q (.bl true) H'
theorem ok_law {f fW fC fG fP fO fS fI : Addr} {fd fdW fdC fdG fdP fdO fdS fdI : FuncData} {k : Nat} (F : Fun K "law" "law" sLaw f fd) (T : Blt mg) (hmax : mg "max" = none)
    (GW' : Callee P w K mg base 2 "_law_window" ["cell"] spWin13 fW fdW) (GC : Callee P w K mg base 1 "_law_cell" ["script", "k"] (spCell K) fC fdC) (GG : Callee P w K mg base 2 "_law_gap" ["windows", "first"] (spGap13 K) fG fdG) (GP : Callee P w K mg base 5 "gap" ["windows"] (spGap K) fP fdP) (GO : Callee P w K mg base 5 "longest_wait" ["windows", "length"] (spLong K) fO fdO)
    (GS : Callee P w K mg base 6 "send_others" ["windows", "frames"] (spSend K) fS fdS) (GI : Callee P w K mg base 1 "_law_is_integer" ["actual"] spIsInt fI fdI) : FnOk P w K mg base CX0 (k + 7) f fd ["script"] (spLaw K) := by
  refine F.ok scLaw (fun vs H Q E h => ?_) (fun cdv A0 outer s0 H vs Q E hr h => ?_)
  · obtain ⟨a, ns, rfl, _⟩ := h
    rfl
  · obtain ⟨a, ns, rfl, hS, hlen, q⟩ := h
    have nd := scLaw.nd
    have hr1 : Room 1 _ := hr.mono (by omega)
    have hr2 : Room 2 _ := hr.mono (by omega)
    have hr5 : Room 5 _ := hr.mono (by omega)
    have hr6 : Room 6 _ := hr.mono (by omega)
    refine ⟨_, pss_cons (ps_setLc (i := 1) (own := [("cell", 11)]) (g := gName 11) (tt := tYes) rfl nd rfl rfl (sw_true rfl rfl rfl (by decide +kernel)) (pi_list (pe_slice sl_list (pv 0) (po_some pe_int) (po_some (pe_op op_add pe_int (pe_op op_mod (pe_callTy call_int1 (by rfl) T.int (by decide +kernel) (pa_cons (pe_call GC.ok hr1 (by rfl) GC.mg GC.kp GC.b .nil pass0 (pa_cons (pv 0) (pa_cons pe_int pa_nil))) pa_nil)) pe_int))))) (blkOk_by (own := [("cell", 11)]) (N := ["script", "windows", "size", "first", "window", "due", "most", "told", "waits", "tick", "start", "cell"]) (sc := defScope sLaw) (by decide +kernel)) (fun _ _ _ _ _ => pg_name (i := 11) nd rfl (Or.inl rfl)) (fun _ _ _ _ _ => pts_nil) (fun _ _ _ _ _ => (pe_call GW'.ok hr2 (by rfl) GW'.mg GW'.kp GW'.b .nil pass0 (pa_cons (pv 11) pa_nil)))) <| pss_cons (ps_set (i := 2) nd rfl (.inl rfl) (pe_op op_add pe_int (pe_op op_mod (pe_op op_fdiv (pe_callTy call_int1 (by rfl) T.int (by decide +kernel) (pa_cons (pe_call GC.ok hr1 (by rfl) GC.mg GC.kp GC.b .nil pass0 (pa_cons (pv 0) (pa_cons pe_int pa_nil))) pa_nil)) pe_int) pe_int))) <| pss_cons (ps_set (i := 3) nd rfl (.inl rfl) pe_int) <| pss_cons (ps_for PassesOwn.never rfl (pi_list (pv 1)) (pg_name (i := 4) nd rfl (.inl rfl)) (pss_one (ps_set (i := 3) nd rfl (.inl rfl) (pe_callB (call_max2 rfl) (by rfl) hmax (by decide +kernel) (pa_cons (pv 3) (pa_cons (pe_ix ix_tup (pv 4) pe_int (fun _ _ => rfl)) pa_nil)))))) <| pss_cons (ps_set (i := 5) nd rfl (.inl rfl) (pe_call GG.ok hr2 (by rfl) GG.mg GG.kp GG.b .nil pass0 (pa_cons (pv 1) (pa_cons (pv 3) pa_nil)))) <| pss_cons (ps_set (i := 6) nd rfl (.inl rfl) (pe_call GP.ok hr5 (by rfl) GP.mg GP.kp GP.b .nil pass0 (pa_cons (pe_callTy call_list_of (by rfl) T.list (by decide +kernel) (pa_cons (pv 1) pa_nil)) pa_nil))) <| pss_cons (ps_if (PW.pt (pw_or (pt_cmpR op_ne (pv 6) (pv 5) (nomark _)) (pw_or1 (PW.pt (pw_and (pt_cmpR op_notN (pv 6) pe_non (nomark _)) (pw_and1 (pt_not (pt_val (pe_call GI.ok hr1 (by rfl) GI.mg GI.kp GI.b .nil pass0 (pa_cons (pv 6) pa_nil)))))))))) (pss_one (ps_ret pe_bl)) (pss_nil)) <| pss_cons (ps_set (i := 7) nd rfl (.inl rfl) (pe_call GO.ok hr5 (by rfl) GO.mg GO.kp GO.b .nil pass0 (pa_cons (pe_callTy call_list_of (by rfl) T.list (by decide +kernel) (pa_cons (pv 1) pa_nil)) (pa_cons (pv 2) pa_nil)))) <| pss_cons (ps_if (PW.pt (pw_and (pt_cmpR op_notN (pv 5) pe_non (nomark _)) (pw_and1 (pt_cmpR op_gt (pv 2) (pv 5) (nomark _))))) (pss_one (ps_ret (pe_and (pe_cmpR op_isN (pv 7) pe_non (nomark _)) (pe_one (pe_cmpR (op_eqD hr.units) (pe_call GS.ok hr6 (by rfl) GS.mg GS.kp GS.b .nil pass0 (pa_cons (pe_callTy call_list_of (by rfl) T.list (by decide +kernel) (pa_cons (pv 1) pa_nil)) (pa_cons (pe_lst (pa_cons (pe_tup (pa_cons (pv 3) (pa_cons (pv 2) pa_nil))) pa_nil)) pa_nil))) (pe_lst (pa_cons pe_non pa_nil)) (nomark _)))))) (pss_nil)) <| pss_cons (ps_set (i := 8) nd rfl (.inl rfl) (pe_lst pa_nil)) <| pss_cons (ps_for PassesOwn.never rfl (pi_range2 (by rfl) T.range (pa_cons (pv 3) (pa_cons (pe_op op_add (pv 3) pe_int) pa_nil))) (pg_name (i := 9) nd rfl (.inl rfl)) (pss_cons (ps_set (i := 10) nd rfl (.inl rfl) (pe_ix ix_list (pe_call GS.ok hr6 (by rfl) GS.mg GS.kp GS.b .nil pass0 (pa_cons (pe_callTy call_list_of (by rfl) T.list (by decide +kernel) (pa_cons (pv 1) pa_nil)) (pa_cons (pe_lst (pa_cons (pe_tup (pa_cons (pv 9) (pa_cons (pv 2) pa_nil))) pa_nil)) pa_nil))) pe_int (fun _ _ => rfl))) <| pss_cons (ps_if (PW.pt (pw_or (pt_cmpR op_isN (pv 10) pe_non (nomark _)) (pw_or1 (pt_cmpR op_lt (pv 10) (pv 9) (nomark _))))) (pss_one (ps_ret pe_bl)) (pss_nil)) <| pss_one (ps_expr (pe_bm PySem.F.plainAttrs_list PySem.F.slot_list_append PySem.F.type_list_append mt_append (pv 8) (pa_cons (pe_op op_sub (pv 10) (pv 9)) pa_nil))))) <| pss_one (ps_ret (pe_and (pe_call GI.ok hr1 (by rfl) GI.mg GI.kp GI.b .nil pass0 (pa_cons (pv 7) pa_nil)) (pe_one (pe_cmpR op_eq (pv 7) (pe_callB (cr_max rfl) (by rfl) hmax (by decide +kernel) (pa_cons (pv 8) pa_nil)) (nomark _))))), ?_⟩
    -- windows
    have c2 : 0 ≤ ns.getD 0 0 % 4 ∧ ns.getD 0 0 % 4 < 4 := ⟨Int.emod_nonneg _ (by decide), Int.emod_lt_of_pos _ (by decide)⟩
    refine ⟨_, rfl, _, rfl, _, rfl, a, ns, 0, rfl, hS, .inl ⟨_, rfl, _, _, rfl, rfl, (by show (0 : Int) < 4; decide), _, _, rfl, rfl, _, rfl, a, _, rfl, hS, fun y ny => ?_⟩⟩
    have sy := same_new (o := .lst (cutV (ns.map V.int) (some 1) (some (1 + ns.getD 0 0 % 4)))) ny
    obtain ⟨ms, em, lm⟩ := cut_cells (ns := ns) 1 (1 + (ns.getD 0 0 % 4).toNat) 3 (z := 1 + ns.getD 0 0 % 4) (by omega) (by omega)
    have hy : (upd H y (.lst (cutV (ns.map V.int) (some 1) (some (1 + ns.getD 0 0 % 4))))) y = some (.lst (ms.map V.int)) := by
      rw [upd_same]
      exact congrArg (fun z => some (HO.lst z)) em
    generalize (upd H y (.lst (cutV (ns.map V.int) (some 1) (some (1 + ns.getD 0 0 % 4))))) = H1 at sy hy ⊢
    refine ⟨y, rfl, ⟨_, SqL.of hy⟩, fun D nD => ?_⟩
    refine lc_list (K := K) (a := y) (xs := ms.map V.int) (fun i H' => Same H1 H' ∧ ∃ (ts : List Addr) (ws : List Win), H' D = some (.lst (ts.map V.ref)) ∧ WinsAt K H' ts ws ∧ ts.length = i ∧ ∀ w ∈ ws, WOk w) ⟨same_new nD, [], [], upd_same, .nil, rfl, fun w h => by cases h⟩ (fun i H' _ z => SqL.of (z.1 _ _ hy)) ?_ ?_
    · rintro i x H' hi ⟨sm, ts, ws, hD, hW, lt, wg⟩
      obtain ⟨n, en, rfl⟩ := ints_at hi
      have il : i < ms.length := (List.getElem?_eq_some_iff.mp en).1
      refine ⟨rfl, _, rfl, n, rfl, fun H2 t w s2 ht hg => ?_⟩
      have hD2 := s2 _ _ hD
      refine ⟨_, hD2, szl (by rw [List.length_map]; omega), same_but (sm.trans s2) nD but_self, ts ++ [t], ws ++ [w], ?_, ?_, by rw [List.length_append, lt]; rfl, ?_⟩
      · rw [upd_same, List.map_append]
        rfl
      · exact wins_snoc ((hW.same s2).butL hD2 but_self) (But.tupL but_self hD2 (SqT.of ht))
      · intro x hx
        rcases List.mem_append.mp hx with h | h
        · exact wg x h
        · rw [List.mem_singleton.mp h]; exact hg
    rintro H2 ⟨s2, ts, ws, hD2, hW2, lt2, wg⟩
    rw [List.length_map] at lt2
    have lw : ts.length = ws.length := hW2.length
    have S2 := sy.trans s2
    -- the size
    have c3 : 0 ≤ ns.getD 0 0 / 4 % 12 ∧ ns.getD 0 0 / 4 % 12 < 12 := ⟨Int.emod_nonneg _ (by decide), Int.emod_lt_of_pos _ (by decide)⟩
    refine ⟨_, rfl, a, ns, 0, rfl, S2.seq hS, .inl ⟨_, rfl, _, _, rfl, rfl, ⟨by decide, by decide⟩, _, _, rfl, rfl, (by show (0 : Int) < 12; decide), _, _, rfl, rfl, ?_⟩⟩
    have z1 : 1 ≤ 1 + ns.getD 0 0 / 4 % 12 ∧ 1 + ns.getD 0 0 / 4 % 12 ≤ 12 := by omega
    refine ⟨_, rfl, D, rfl, ⟨_, SqL.of hD2⟩, for_list (K := K) (a := D) (xs := ts.map V.ref) (fun i σ H' => ∃ (first : Int) (v4 : Option V), σ = [some (.ref a), some (.ref D), some (.int (1 + ns.getD 0 0 / 4 % 12)), some (.int first), v4, none, none, none, none, none, none, none] ∧ H' = H2 ∧ (∀ w ∈ ws.take i, w.1 ≤ first) ∧ 0 ≤ first ∧ first ≤ 19) ⟨0, none, rfl, rfl, fun w h => absurd h List.not_mem_nil, by decide, by decide⟩ (fun i σ H' _ ⟨_, _, _, e, _⟩ => e ▸ SqL.of hD2) ?_ ?_⟩
    · rintro i x σ H' hi ⟨first, v4, rfl, rfl, hf, f0, f1⟩
      obtain ⟨t, et, rfl⟩ := refs_at hi
      obtain ⟨u, eu, hT⟩ := Paired.at hW2 et
      have uo := (wg u (List.mem_of_getElem? eu)).o
      refine ⟨_, rfl, _, rfl, t, _, _, _, rfl, rfl, hT, rfl, _, _, rfl, ?_⟩
      refine ⟨_, _, rfl, rfl, fun w hw => ?_, by split <;> omega, by split <;> omega⟩
      rw [take_snoc eu] at hw
      rcases List.mem_append.mp hw with z | z
      · have := hf w z
        split <;> omega
      · rw [List.mem_singleton.mp z]
        split <;> omega
    rintro σ H3 ⟨first, v4, rfl, rfl, hf, f0, f1⟩
    rw [List.length_map, lw, List.take_length] at hf
    generalize 1 + ns.getD 0 0 / 4 % 12 = size at z1 ⊢
    have gk := kept_good wg (by omega)
    have lp : ∀ w ∈ ws, 0 ≤ w.2.1 ∧ 1 ≤ w.2.2 := fun w hw => ⟨(wg w hw).l.1, (wg w hw).p.1⟩
    have hfk : ∀ w ∈ ws.filter (fun u => decide (u.2.1 > 0)), w.1 ≤ first := fun w hw => hf w (List.mem_filter.mp hw).1
    have frk := fun {s len : Int} => fr_kept lp (s := s) (len := len)
    have anyk := any_kept lp
    obtain ⟨kw, ekw⟩ : ∃ kw, ws.filter (fun u => decide (u.2.1 > 0)) = kw := ⟨_, rfl⟩
    have gk' := gk
    rw [ekw] at gk hfk frk anyk
    obtain ⟨bs, B⟩ := beg_ex kw
    have hfb : ∀ b ∈ bs, b ≤ first := fun b hb => by
      obtain ⟨w, hw, rfl⟩ := (B.mem b).mp hb
      exact hfk w hw
    refine ⟨_, rfl, _, rfl, D, ts, ws, first, rfl, SqL.of hD2, hW2, wg, f0, by omega, fun best many hN => ?_⟩
    have hN : GapN kw first 60 best many := by
      obtain ⟨⟨n1, n2, n3, n4⟩, n5, n6, ⟨s, n7, n8, n9⟩, n10⟩ := hN
      exact ⟨⟨n1, n2, frk.mpr n3, by rw [anyk]; exact n4⟩, n5, n6, ⟨s, n7, n8, frk.mpr n9⟩, fun s len x y f => n10 s len x y (frk.mp f)⟩
    -- the gap
    refine ⟨_, rfl, D, _, rfl, .inl (SqL.of hD2), fun h1 nh1 => ?_⟩
    have sa := same_new (o := .lst (ts.map V.ref)) nh1
    have hh1 := upd_same (H := H3) (a := h1) (o := .lst (ts.map V.ref))
    generalize upd H3 h1 (.lst (ts.map V.ref)) = H4 at sa hh1 ⊢
    refine ⟨h1, ts, ws, rfl, SqL.of hh1, hW2.same sa, gk', by omega, fun H5 og bs' sb B' hG => ?_⟩
    rw [ekw] at B' hG
    rw [beg_uniq B' B] at hG
    have edue := final_gap gk B hfb hG hN
    rw [← edue]
    clear edue hN
    have S5 := sa.trans sb
    dsimp only [gName, tSeq, tIfS, tAsg]
    refine or_read (a := false) (b := false) (fun Q h => ?_) (fun Q h => ?_) ?_
    · refine ⟨_, rfl, _, rfl, flat_optI og, _, rfl, ?_⟩
      rw [decide_eq_true rfl]
      exact h
    · refine and_read (a := !og.isNone) (b := false) (fun Q q => ⟨_, rfl, rfl, _, rfl, by rw [optI_non]; exact q⟩) (fun z Q q => ?_) (by rw [Bool.and_false]; exact h)
      obtain ⟨v, rfl⟩ := some_of (by rw [Bool.not_eq_true'] at z; exact z)
      exact ⟨_, rfl, v, rfl, _, rfl, q⟩
    refine ite2 (fun e => by cases e) (fun _ => ?_)
    -- the longest wait
    refine ⟨_, rfl, D, _, rfl, .inl (SqL.of (S5 _ _ hD2)), fun h2 nh2 => ?_⟩
    have sc := same_new (o := .lst (ts.map V.ref)) nh2
    have hh2 := upd_same (H := H5) (a := h2) (o := .lst (ts.map V.ref))
    generalize upd H5 h2 (.lst (ts.map V.ref)) = H6 at sc hh2 ⊢
    refine ⟨_, rfl, h2, ts, ws, size, rfl, SqL.of hh2, hW2.same (S5.trans sc), gk', by omega, fun H7 ow bs'' sd B'' hW => ?_⟩
    rw [ekw] at B'' hW
    rw [beg_uniq B'' B] at hW
    have S7 := (S5.trans sc).trans sd
    dsimp only [gName, tSeq, tIfS, tAsg]
    refine and_read (a := !og.isNone) (b := overD size og) (fun Q q => ⟨_, rfl, rfl, _, rfl, by rw [optI_non]; exact q⟩) (fun z Q q => ?_) ?_
    · obtain ⟨v, rfl⟩ := some_of (by rw [Bool.not_eq_true'] at z; exact z)
      exact ⟨_, rfl, _, rfl, _, _, rfl, rfl, _, rfl, q⟩
    have hD7 := S7 _ _ hD2
    have hW7 := hW2.same S7
    refine ite2 (fun e => ?_) (fun e => ?_)
    · obtain ⟨v, rfl⟩ : ∃ v, og = some v := by
        cases og with
        | none => cases e
        | some v => exact ⟨v, rfl⟩
      have gt : v < size := of_decide_eq_true (by rw [Bool.and_eq_true] at e; exact e.2)
      obtain ⟨eo, ee⟩ := final_none gk B hfb hG z1.1 gt hW
      rw [eo]
      dsimp only [tRet]
      refine andvH (a := true) (b := true) (fun Q h => ⟨_, rfl, rfl, h⟩) (fun _ Q h => ?_) q
      refine ⟨_, rfl, D, _, rfl, .inl (SqL.of hD7), fun h3 nh3 => ?_⟩
      have se := same_new (o := .lst (ts.map V.ref)) nh3
      have hh3 := upd_same (H := H7) (a := h3) (o := .lst (ts.map V.ref))
      generalize upd H7 h3 (.lst (ts.map V.ref)) = H8 at se hh3 ⊢
      refine ⟨_, rfl, _, rfl, (by show 2 ≤ sizeLine; decide), fun t nt => ?_⟩
      have st := same_new (o := .tup [V.int first, V.int size]) nt
      have ht := upd_same (H := H8) (a := t) (o := .tup [V.int first, V.int size])
      generalize upd H8 t (.tup [V.int first, V.int size]) = H9 at st ht ⊢
      refine ⟨(by show 1 ≤ sizeLine; decide), fun l nl => ?_⟩
      have sl := same_new (o := .lst [V.ref t]) nl
      have hl := upd_same (H := H9) (a := l) (o := .lst [V.ref t])
      generalize upd H9 l (.lst [V.ref t]) = HA at sl hl ⊢
      have sA := (se.trans st).trans sl
      refine ⟨h3, l, ts, [t], ws, [(first, size)], rfl, SqL.of ((st.trans sl) _ _ hh3), hW7.same sA, SqL.of hl, .cons (SqT.of (sl _ _ ht)) .nil, gk', by omega, one_ok _, fun HB tl b2 sB B2 ntl htl => ?_⟩
      rw [ekw] at B2 htl
      rw [beg_uniq B2 B] at htl
      have esd : (sendD (earlD kw bs) [(first, size)]).1 = [none] := by
        show [stOf (earlD kw bs) (some 0) (first, size)] = [none]
        have : stOf (earlD kw bs) (some 0) (first, size) = earlD kw bs (if (0 : Int) > first then 0 else first) size := rfl
        rw [this, if_neg (by omega), ee]
      rw [esd] at htl
      refine ⟨(by show 1 ≤ sizeLine; decide), fun l2 nl2 => ?_⟩
      have sm := same_new (o := .lst [V.non]) nl2
      have htl : HB tl = some (.lst [V.non]) := htl
      refine ⟨.list [.none], .list [.none], .lst (SqL.of (sm _ _ htl)) (.cons .non .nil), .lst (SqL.of upd_same) (.cons .non .nil), shp_non.shaped, shp_non.shaped, ?_⟩
      rw [SeqAt.eqv_refl _ (SeqAt.canLay_of_shaped shp_non.shaped)]
      exact h _
    · have le : ∀ due, og = some due → size ≤ due := fun due ed => by
        rw [ed] at e
        exact Int.not_lt.mp fun y => e (by show (true && decide (due < size)) = true; rw [decide_eq_true y]; rfl)
      obtain ⟨W, eW, hmost, tx, tx1, tx2, tx3⟩ := final_wait gk B hfb hG z1.1 le hW
      rw [eW]
      refine ⟨Nat.zero_le _, fun wl nwl => ?_⟩
      have sw := same_new (o := .lst []) nwl
      have hwl := upd_same (H := H7) (a := wl) (o := .lst [])
      generalize upd H7 wl (.lst []) = H8 at sw hwl ⊢
      refine ⟨_, rfl, _, rfl, _, _, rfl, rfl, _, _, rfl, by omega, for_it walk_range (fun i σ H' => ∃ (v9 v10 : Option V) (xs : List Int), σ = [some (.ref a), some (.ref D), some (.int size), some (.int first), v4, some (optI og), some (optI og), some (.int W), some (.ref wl), v9, v10, none] ∧ Same H7 H' ∧ H' wl = some (.lst (xs.map V.int)) ∧ xs.length = i ∧ (∀ x ∈ xs, x ≤ W) ∧ (tx < first + (i : Int) → W ∈ xs)) ⟨none, none, [], rfl, sw, hwl, rfl, fun x h => absurd h List.not_mem_nil, fun h => by omega⟩ (fun _ _ _ _ _ => trivial) ?_ ?_⟩
      · rintro i y σ H0 H' hi ⟨v9, v10, xs, rfl, sm, hx, lx, mx, wx⟩ ⟨e, rfl⟩
        subst e
        have hi : i < (first + 24 - first).toNat := hi
        obtain ⟨s, es, s0', s1'⟩ := hmost (first + (i : Int)) (by omega)
        have hD8 := sm _ _ hD7
        refine ⟨_, rfl, D, _, rfl, .inl (SqL.of hD8), fun h3 nh3 => ?_⟩
        have se := same_new (o := .lst (ts.map V.ref)) nh3
        have hh3 := upd_same (H := H') (a := h3) (o := .lst (ts.map V.ref))
        have hx1 := se _ _ hx
        generalize upd H' h3 (.lst (ts.map V.ref)) = H9 at se hh3 hx1 ⊢
        refine ⟨_, rfl, _, rfl, (by show 2 ≤ sizeLine; decide), fun t nt => ?_⟩
        have st := same_new (o := .tup [V.int (first + (i : Int)), V.int size]) nt
        have ht := upd_same (H := H9) (a := t) (o := .tup [V.int (first + (i : Int)), V.int size])
        refine ⟨(by show 1 ≤ sizeLine; decide), fun l nl => ?_⟩
        have sl := same_new (o := .lst [V.ref t]) nl
        have hl := upd_same (H := upd H9 t (.tup [V.int (first + (i : Int)), V.int size])) (a := l) (o := .lst [V.ref t])
        have sA := (se.trans st).trans sl
        have stl := st.trans sl
        have ht2 := sl _ _ ht
        have hh3' := stl _ _ hh3
        have hx2 := stl _ _ hx1
        refine ⟨h3, l, ts, [t], ws, [(first + (i : Int), size)], rfl, SqL.of hh3', (hW7.same sm).same sA, SqL.of hl, .cons (SqT.of ht2) .nil, gk', by omega, one_ok _, fun HB tl b2 sB B2 ntl htl => ?_⟩
        rw [ekw] at B2 htl
        rw [beg_uniq B2 B] at htl
        have esd : (sendD (earlD kw bs) [(first + (i : Int), size)]).1 = [some s] := by
          show [stOf (earlD kw bs) (some 0) (first + (i : Int), size)] = [some s]
          have : stOf (earlD kw bs) (some 0) (first + (i : Int), size) = earlD kw bs (if (0 : Int) > first + (i : Int) then 0 else first + (i : Int)) size := rfl
          rw [this, if_neg (by omega), es]
        rw [esd] at htl
        have htl : HB tl = some (.lst [V.int s]) := htl
        have hxB := sB _ _ hx2
        have sAll : Same H7 HB := sm.trans (sA.trans sB)
        refine ⟨tl, _, _, _, rfl, rfl, SqL.of htl, rfl, ?_⟩
        dsimp only [gName, tSeq, tIfS]
        refine or_readC (a := false) (b := false) (fun Q h => ⟨_, rfl, rfl, _, rfl, h⟩) (fun _ Q h => ⟨_, rfl, _, rfl, _, _, rfl, rfl, _, rfl, by rw [decide_eq_false (by omega)]; exact h⟩) ?_
        refine ite2 (fun e => by cases e) (fun _ => ?_)
        refine ⟨_, rfl, .inl ⟨rfl, _, SqL.of hxB⟩, _, rfl, _, rfl, _, _, rfl, rfl, wl, _, _, rfl, rfl, hxB, szl (by rw [List.length_map]; omega), ?_⟩
        refine ⟨_, _, xs ++ [s - (first + (i : Int))], rfl, same_but sAll nwl but_self, by rw [upd_same, List.map_append]; rfl, by rw [List.length_append, lx]; rfl, fun x hx => ?_, fun lt => ?_⟩
        · rcases List.mem_append.mp hx with z | z
          · exact mx x z
          · rw [List.mem_singleton.mp z]
            exact s1'
        · by_cases z : tx < first + (i : Int)
          · exact List.mem_append_left _ (wx z)
          · have e : tx = first + (i : Int) := by omega
            rw [e, es] at tx3
            have tx3 := Option.some.inj tx3
            exact List.mem_append_right _ (List.mem_singleton.mpr (by omega))
      · rintro σ H' ⟨v9, v10, xs, rfl, sm, hx, lx, mx, wx⟩
        have e24 : (first + 24 - first).toNat = 24 := by omega
        have lx : xs.length = (first + 24 - first).toNat := lx
        have wx : tx < first + (((first + 24 - first).toNat : Nat) : Int) → W ∈ xs := wx
        have hW := wx (by omega)
        dsimp only [tRet]
        refine andv (a := true) (b := true) (fun Q h => ⟨_, rfl, W, rfl, h⟩) (fun _ Q h => ?_) (q _)
        refine ⟨_, rfl, _, rfl, wl, xs, rfl, SqL.of hx, by omega, fun m h1 h2 => ?_⟩
        have em : m = W := by
          have := h2 W hW
          have := mx m h1
          omega
        refine ⟨rfl, ?_⟩
        rw [em, decide_eq_true rfl]
        exact h
end
end My
namespace My
open PySem PySem.Spec PyProof.Rows L2
/-! ### what the top has written, the head -/
theorem all_mk {l : PySem.W.OpenLaw} {w : World} {K : PySem.W.Frag} {h : Heap} {mg : Str → Option Value} {fa C fFi fEa fSt fLa fPa fD fCe fPe fPl fRu fSe fGa fLo fI fW fTk fGp fL : Addr} (X : K.In h) (G : h.Ns mainGlobals mg) (hfa : mg "law" = some (.ref fa))
    {odFi anFi : Option Addr} {slFi : Array (Option Value)} {ocFi dcFi pmFi cdFi ctFi kVFi : Value}
    {odEa anEa : Option Addr} {slEa : Array (Option Value)} {ocEa kVEa dcEa pmEa cdEa ctEa : Value}
    {odSt anSt : Option Addr} {slSt : Array (Option Value)} {ocSt kVSt dcSt pmSt cdSt ctSt : Value}
    {odLa anLa : Option Addr} {slLa : Array (Option Value)} {ocLa kVLa dcLa pmLa cdLa ctLa : Value}
    {odPa anPa : Option Addr} {slPa : Array (Option Value)} {ocPa kVPa dcPa pmPa cdPa ctPa : Value}
    {odD anD : Option Addr} {slD : Array (Option Value)} {ocD kVD dcD pmD cdD ctD : Value}
    {odCe anCe : Option Addr} {slCe : Array (Option Value)} {ocCe kVCe dcCe pmCe cdCe ctCe : Value}
    {odPe anPe : Option Addr} {slPe : Array (Option Value)} {ocPe kVPe dcPe pmPe cdPe ctPe : Value}
    {odPl anPl : Option Addr} {slPl : Array (Option Value)} {ocPl kVPl dcPl pmPl cdPl ctPl : Value}
    {odRu anRu : Option Addr} {slRu : Array (Option Value)} {ocRu kVRu dcRu pmRu cdRu ctRu : Value}
    {odSe anSe : Option Addr} {slSe : Array (Option Value)} {ocSe kVSe dcSe pmSe cdSe ctSe : Value}
    {odGa anGa : Option Addr} {slGa : Array (Option Value)} {ocGa kVGa dcGa pmGa cdGa ctGa : Value}
    {odLo anLo : Option Addr} {slLo : Array (Option Value)} {ocLo kVLo dcLo pmLo cdLo ctLo : Value}
    {odI anI : Option Addr} {slI : Array (Option Value)} {ocI kVI dcI pmI cdI ctI : Value}
    {odW anW : Option Addr} {slW : Array (Option Value)} {ocW kVW dcW pmW cdW ctW : Value}
    {odTk anTk : Option Addr} {slTk : Array (Option Value)} {ocTk kVTk dcTk pmTk cdTk ctTk : Value}
    {odGp anGp : Option Addr} {slGp : Array (Option Value)} {ocGp kVGp dcGp pmGp cdGp ctGp : Value}
    {odL anL : Option Addr} {slL : Array (Option Value)} {ocL kVL dcL pmL cdL ctL : Value}
    (aC : PySem.W.nsIn K mainGlobals "FreeTicks" = some (some (.ref C)))
    (aFi : PySem.W.findIn K (.ref C) "__init__" = some (some (.ref fFi)))
    (iFi : PySem.W.isFn K (.ref fFi) = true)
    (lFi : K.lookup fFi = some ⟨ocFi, odFi, .func (PySem.W.fnOf "__init__" "FreeTicks.__init__" (defArgs sFtInit) (defBody sFtInit) (defScope sFtInit) .none kVFi dcFi pmFi anFi cdFi ctFi), slFi⟩)
    (cFi : PySem.W.codeIn K cdFi "FreeTicks.__init__" = true)
    (kFi : PySem.W.keepIn K (.ref fFi) = true)
    (aEa : PySem.W.findIn K (.ref C) "earliest_start" = some (some (.ref fEa)))
    (iEa : PySem.W.isFn K (.ref fEa) = true)
    (lEa : K.lookup fEa = some ⟨ocEa, odEa, .func (PySem.W.fnOf "earliest_start" "FreeTicks.earliest_start" (defArgs sEarliest) (defBody sEarliest) (defScope sEarliest) .none kVEa dcEa pmEa anEa cdEa ctEa), slEa⟩)
    (cEa : PySem.W.codeIn K cdEa "FreeTicks.earliest_start" = true)
    (kEa : PySem.W.keepIn K (.ref fEa) = true)
    (aSt : PySem.W.findIn K (.ref C) "start_in_phase" = some (some (.ref fSt)))
    (iSt : PySem.W.isFn K (.ref fSt) = true)
    (lSt : K.lookup fSt = some ⟨ocSt, odSt, .func (PySem.W.fnOf "start_in_phase" "FreeTicks.start_in_phase" (defArgs sStart) (defBody sStart) (defScope sStart) .none kVSt dcSt pmSt anSt cdSt ctSt), slSt⟩)
    (cSt : PySem.W.codeIn K cdSt "FreeTicks.start_in_phase" = true)
    (kSt : PySem.W.keepIn K (.ref fSt) = true)
    (aLa : PySem.W.findIn K (.ref C) "last_runs" = some (some (.ref fLa)))
    (iLa : PySem.W.isFn K (.ref fLa) = true)
    (lLa : K.lookup fLa = some ⟨ocLa, odLa, .func (PySem.W.fnOf "last_runs" "FreeTicks.last_runs" (defArgs sLast) (defBody sLast) (defScope sLast) .none kVLa dcLa pmLa anLa cdLa ctLa), slLa⟩)
    (cLa : PySem.W.codeIn K cdLa "FreeTicks.last_runs" = true)
    (kLa : PySem.W.keepIn K (.ref fLa) = true)
    (aPa : PySem.W.findIn K (.ref C) "pattern_of" = some (some (.ref fPa)))
    (iPa : PySem.W.isFn K (.ref fPa) = true)
    (lPa : K.lookup fPa = some ⟨ocPa, odPa, .func (PySem.W.fnOf "pattern_of" "FreeTicks.pattern_of" (defArgs sPattern) (defBody sPattern) (defScope sPattern) .none kVPa dcPa pmPa anPa cdPa ctPa), slPa⟩)
    (cPa : PySem.W.codeIn K cdPa "FreeTicks.pattern_of" = true)
    (kPa : PySem.W.keepIn K (.ref fPa) = true)
    (pgC : PySem.W.plainGet K C Str.empty = true)
    (hdC : PySem.W.hasDictIn K C = true)
    (poC : PySem.W.plainOver K C = true)
    (saC : PySem.W.findIn K (.ref C) "__setattr__" = some (some (.builtin "object.__setattr__")))
    (mkC : PySem.W.makesIn K C = true)
    (kcC : PySem.W.keepIn K (.ref C) = true)
    (nC1 : PySem.W.findIn K (.ref C) "windows" = some none)
    (nC2 : PySem.W.findIn K (.ref C) "begins" = some none)
    (nC3 : PySem.W.findIn K (.ref C) "ends" = some none)
    (nC4 : PySem.W.findIn K (.ref C) "patterns" = some none)
    (aD : PySem.W.nsIn K mainGlobals "_law_draw" = some (some (.ref fD)))
    (lD : K.lookup fD = some ⟨ocD, odD, .func (PySem.W.fnOf "_law_draw" "_law_draw" (defArgs sDraw) (defBody sDraw) (defScope sDraw) .none kVD dcD pmD anD cdD ctD), slD⟩)
    (cD : PySem.W.codeIn K cdD "_law_draw" = true)
    (kD : PySem.W.keepIn K (.ref fD) = true)
    (aCe : PySem.W.nsIn K mainGlobals "_law_cell" = some (some (.ref fCe)))
    (lCe : K.lookup fCe = some ⟨ocCe, odCe, .func (PySem.W.fnOf "_law_cell" "_law_cell" (defArgs sCell) (defBody sCell) (defScope sCell) .none kVCe dcCe pmCe anCe cdCe ctCe), slCe⟩)
    (cCe : PySem.W.codeIn K cdCe "_law_cell" = true)
    (kCe : PySem.W.keepIn K (.ref fCe) = true)
    (aPe : PySem.W.nsIn K mainGlobals "common_period" = some (some (.ref fPe)))
    (lPe : K.lookup fPe = some ⟨ocPe, odPe, .func (PySem.W.fnOf "common_period" "common_period" (defArgs sPeriod) (defBody sPeriod) (defScope sPeriod) .none kVPe dcPe pmPe anPe cdPe ctPe), slPe⟩)
    (cPe : PySem.W.codeIn K cdPe "common_period" = true)
    (kPe : PySem.W.keepIn K (.ref fPe) = true)
    (aPl : PySem.W.nsIn K mainGlobals "places_of" = some (some (.ref fPl)))
    (lPl : K.lookup fPl = some ⟨ocPl, odPl, .func (PySem.W.fnOf "places_of" "places_of" (defArgs sPlaces) (defBody sPlaces) (defScope sPlaces) .none kVPl dcPl pmPl anPl cdPl ctPl), slPl⟩)
    (cPl : PySem.W.codeIn K cdPl "places_of" = true)
    (kPl : PySem.W.keepIn K (.ref fPl) = true)
    (aRu : PySem.W.nsIn K mainGlobals "runs_of" = some (some (.ref fRu)))
    (lRu : K.lookup fRu = some ⟨ocRu, odRu, .func (PySem.W.fnOf "runs_of" "runs_of" (defArgs sRunsOf) (defBody sRunsOf) (defScope sRunsOf) .none kVRu dcRu pmRu anRu cdRu ctRu), slRu⟩)
    (cRu : PySem.W.codeIn K cdRu "runs_of" = true)
    (kRu : PySem.W.keepIn K (.ref fRu) = true)
    (aSe : PySem.W.nsIn K mainGlobals "send_others" = some (some (.ref fSe)))
    (lSe : K.lookup fSe = some ⟨ocSe, odSe, .func (PySem.W.fnOf "send_others" "send_others" (defArgs sSend) (defBody sSend) (defScope sSend) .none kVSe dcSe pmSe anSe cdSe ctSe), slSe⟩)
    (cSe : PySem.W.codeIn K cdSe "send_others" = true)
    (kSe : PySem.W.keepIn K (.ref fSe) = true)
    (aGa : PySem.W.nsIn K mainGlobals "gap" = some (some (.ref fGa)))
    (lGa : K.lookup fGa = some ⟨ocGa, odGa, .func (PySem.W.fnOf "gap" "gap" (defArgs sGap) (defBody sGap) (defScope sGap) .none kVGa dcGa pmGa anGa cdGa ctGa), slGa⟩)
    (cGa : PySem.W.codeIn K cdGa "gap" = true)
    (kGa : PySem.W.keepIn K (.ref fGa) = true)
    (aLo : PySem.W.nsIn K mainGlobals "longest_wait" = some (some (.ref fLo)))
    (lLo : K.lookup fLo = some ⟨ocLo, odLo, .func (PySem.W.fnOf "longest_wait" "longest_wait" (defArgs sLong) (defBody sLong) (defScope sLong) .none kVLo dcLo pmLo anLo cdLo ctLo), slLo⟩)
    (cLo : PySem.W.codeIn K cdLo "longest_wait" = true)
    (kLo : PySem.W.keepIn K (.ref fLo) = true)
    (aI : PySem.W.nsIn K mainGlobals "_law_is_integer" = some (some (.ref fI)))
    (lI : K.lookup fI = some ⟨ocI, odI, .func (PySem.W.fnOf "_law_is_integer" "_law_is_integer" (defArgs sIsInt) (defBody sIsInt) (defScope sIsInt) .none kVI dcI pmI anI cdI ctI), slI⟩)
    (cI : PySem.W.codeIn K cdI "_law_is_integer" = true)
    (kI : PySem.W.keepIn K (.ref fI) = true)
    (aW : PySem.W.nsIn K mainGlobals "_law_window" = some (some (.ref fW)))
    (lW : K.lookup fW = some ⟨ocW, odW, .func (PySem.W.fnOf "_law_window" "_law_window" (defArgs sWin13) (defBody sWin13) (defScope sWin13) .none kVW dcW pmW anW cdW ctW), slW⟩)
    (cW : PySem.W.codeIn K cdW "_law_window" = true)
    (kW : PySem.W.keepIn K (.ref fW) = true)
    (aTk : PySem.W.nsIn K mainGlobals "_law_taken" = some (some (.ref fTk)))
    (lTk : K.lookup fTk = some ⟨ocTk, odTk, .func (PySem.W.fnOf "_law_taken" "_law_taken" (defArgs sTak13) (defBody sTak13) (defScope sTak13) .none kVTk dcTk pmTk anTk cdTk ctTk), slTk⟩)
    (cTk : PySem.W.codeIn K cdTk "_law_taken" = true)
    (kTk : PySem.W.keepIn K (.ref fTk) = true)
    (aGp : PySem.W.nsIn K mainGlobals "_law_gap" = some (some (.ref fGp)))
    (lGp : K.lookup fGp = some ⟨ocGp, odGp, .func (PySem.W.fnOf "_law_gap" "_law_gap" (defArgs sGap13) (defBody sGap13) (defScope sGap13) .none kVGp dcGp pmGp anGp cdGp ctGp), slGp⟩)
    (cGp : PySem.W.codeIn K cdGp "_law_gap" = true)
    (kGp : PySem.W.keepIn K (.ref fGp) = true)
    (aL : PySem.W.nsIn K mainGlobals "law" = some (some (.ref fL)))
    (lL : K.lookup fL = some ⟨ocL, odL, .func (PySem.W.fnOf "law" "law" (defArgs sLaw) (defBody sLaw) (defScope sLaw) .none kVL dcL pmL anL cdL ctL), slL⟩)
    (cL : PySem.W.codeIn K cdL "law" = true)
    (kL : PySem.W.keepIn K (.ref fL) = true)
    (z_range : PySem.W.nsIn K mainGlobals "range" = some none)
    (z_len : PySem.W.nsIn K mainGlobals "len" = some none)
    (z_int : PySem.W.nsIn K mainGlobals "int" = some none)
    (z_list : PySem.W.nsIn K mainGlobals "list" = some none)
    (z_enum : PySem.W.nsIn K mainGlobals "enumerate" = some none)
    (z_zip : PySem.W.nsIn K mainGlobals "zip" = some none)
    (z_max : PySem.W.nsIn K mainGlobals "max" = some none)
    (z_min : PySem.W.nsIn K mainGlobals "min" = some none)
    (z_sorted : PySem.W.nsIn K mainGlobals "sorted" = some none)
    (z_isi : PySem.W.nsIn K mainGlobals "isinstance" = some none)
    (z_bool : PySem.W.nsIn K mainGlobals "bool" = some none)
    (z_lcm : PySem.W.nsIn K mainGlobals "lcm" = some (some (.builtin "math.lcm"))) :
    ∃ fd : FuncData, (∀ (s : Shared) (v : Value), BindsTo s fd ⟨[v], []⟩ [("script", v)]) ∧ ∀ base : Heap, K.In base → base.Ns mainGlobals mg → FnOk l.prog w K mg base CX0 7 fa fd ["script"] (spLaw K) := by
  have e := hfa.symm.trans (PySem.W.mg_of X G aL)
  cases e
  have T : Blt mg := ⟨PySem.W.mg_none_of X G z_range, PySem.W.mg_none_of X G z_len, PySem.W.mg_none_of X G z_int, PySem.W.mg_none_of X G z_list, PySem.W.mg_none_of X G z_enum⟩
  have hrange := PySem.W.mg_none_of X G z_range
  have hlen := PySem.W.mg_none_of X G z_len
  have hint := PySem.W.mg_none_of X G z_int
  have hlist := PySem.W.mg_none_of X G z_list
  have henum := PySem.W.mg_none_of X G z_enum
  have hzip := PySem.W.mg_none_of X G z_zip
  have hmax := PySem.W.mg_none_of X G z_max
  have hmin := PySem.W.mg_none_of X G z_min
  have hsorted := PySem.W.mg_none_of X G z_sorted
  have hisi := PySem.W.mg_none_of X G z_isi
  have hbool := PySem.W.mg_none_of X G z_bool
  have hlcm := PySem.W.mg_of X G z_lcm
  have cC : FtC K C := ⟨⟨pgC, hdC, poC, saC⟩, nC1, nC2, nC3, nC4⟩
  have gCC := PySem.W.mg_of X G aC
  have FFi := fun_mk (st := sFtInit) lFi cFi kFi
  have BFi : Binds K _ ["self", "windows"] [] := FFi.binds (ps := ["self", "windows"]) fun _ _ _ _ _ _ us hl => match us, hl with | [_, _], _ => rfl
  have MIC : Mk K C fFi := ⟨mkC, aFi, iFi, kcC⟩
  have FEa := fun_mk (st := sEarliest) lEa cEa kEa
  have mEa : Meth K C "earliest_start" fEa := ⟨aEa, iEa, kEa⟩
  have BEa : Binds K _ ["self", "tick", "length"] [] := FEa.binds (ps := ["self", "tick", "length"]) fun _ _ _ _ _ _ us hl => match us, hl with | [_, _, _], _ => rfl
  have FSt := fun_mk (st := sStart) lSt cSt kSt
  have mSt : Meth K C "start_in_phase" fSt := ⟨aSt, iSt, kSt⟩
  have BSt : Binds K _ ["self", "phase", "tick", "length"] [] := FSt.binds (ps := ["self", "phase", "tick", "length"]) fun _ _ _ _ _ _ us hl => match us, hl with | [_, _, _, _], _ => rfl
  have FLa := fun_mk (st := sLast) lLa cLa kLa
  have mLa : Meth K C "last_runs" fLa := ⟨aLa, iLa, kLa⟩
  have BLa : Binds K _ ["self"] [] := FLa.binds (ps := ["self"]) fun _ _ _ _ _ _ us hl => match us, hl with | [_], _ => rfl
  have FPa := fun_mk (st := sPattern) lPa cPa kPa
  have mPa : Meth K C "pattern_of" fPa := ⟨aPa, iPa, kPa⟩
  have BPa : Binds K _ ["self", "phase"] [] := FPa.binds (ps := ["self", "phase"]) fun _ _ _ _ _ _ us hl => match us, hl with | [_, _], _ => rfl
  have FD := fun_mk (st := sDraw) lD cD kD
  have gD := PySem.W.mg_of X G aD
  have BD : Binds K _ ["cell", "many", "bound"] [] := FD.binds (ps := ["cell", "many", "bound"]) fun _ _ _ _ _ _ us hl => match us, hl with | [_, _, _], _ => rfl
  have FCe := fun_mk (st := sCell) lCe cCe kCe
  have gCe := PySem.W.mg_of X G aCe
  have BCe : Binds K _ ["script", "k"] [] := FCe.binds (ps := ["script", "k"]) fun _ _ _ _ _ _ us hl => match us, hl with | [_, _], _ => rfl
  have FPe := fun_mk (st := sPeriod) lPe cPe kPe
  have gPe := PySem.W.mg_of X G aPe
  have BPe : Binds K _ ["windows"] [] := FPe.binds (ps := ["windows"]) fun _ _ _ _ _ _ us hl => match us, hl with | [_], _ => rfl
  have FPl := fun_mk (st := sPlaces) lPl cPl kPl
  have gPl := PySem.W.mg_of X G aPl
  have BPl : Binds K _ ["window", "begin", "count"] [] := FPl.binds (ps := ["window", "begin", "count"]) fun _ _ _ _ _ _ us hl => match us, hl with | [_, _, _], _ => rfl
  have FRu := fun_mk (st := sRunsOf) lRu cRu kRu
  have gRu := PySem.W.mg_of X G aRu
  have BRu : Binds K _ ["windows", "begin", "count"] [] := FRu.binds (ps := ["windows", "begin", "count"]) fun _ _ _ _ _ _ us hl => match us, hl with | [_, _, _], _ => rfl
  have FSe := fun_mk (st := sSend) lSe cSe kSe
  have gSe := PySem.W.mg_of X G aSe
  have BSe : Binds K _ ["windows", "frames"] [] := FSe.binds (ps := ["windows", "frames"]) fun _ _ _ _ _ _ us hl => match us, hl with | [_, _], _ => rfl
  have FGa := fun_mk (st := sGap) lGa cGa kGa
  have gGa := PySem.W.mg_of X G aGa
  have BGa : Binds K _ ["windows"] [] := FGa.binds (ps := ["windows"]) fun _ _ _ _ _ _ us hl => match us, hl with | [_], _ => rfl
  have FLo := fun_mk (st := sLong) lLo cLo kLo
  have gLo := PySem.W.mg_of X G aLo
  have BLo : Binds K _ ["windows", "length"] [] := FLo.binds (ps := ["windows", "length"]) fun _ _ _ _ _ _ us hl => match us, hl with | [_, _], _ => rfl
  have FI := fun_mk (st := sIsInt) lI cI kI
  have gI := PySem.W.mg_of X G aI
  have BI : Binds K _ ["actual"] [] := FI.binds (ps := ["actual"]) fun _ _ _ _ _ _ us hl => match us, hl with | [_], _ => rfl
  have FW := fun_mk (st := sWin13) lW cW kW
  have gW := PySem.W.mg_of X G aW
  have BW : Binds K _ ["cell"] [] := FW.binds (ps := ["cell"]) fun _ _ _ _ _ _ us hl => match us, hl with | [_], _ => rfl
  have FTk := fun_mk (st := sTak13) lTk cTk kTk
  have gTk := PySem.W.mg_of X G aTk
  have BTk : Binds K _ ["windows", "tick"] [] := FTk.binds (ps := ["windows", "tick"]) fun _ _ _ _ _ _ us hl => match us, hl with | [_, _], _ => rfl
  have FGp := fun_mk (st := sGap13) lGp cGp kGp
  have gGp := PySem.W.mg_of X G aGp
  have BGp : Binds K _ ["windows", "first"] [] := FGp.binds (ps := ["windows", "first"]) fun _ _ _ _ _ _ us hl => match us, hl with | [_, _], _ => rfl
  have FL := fun_mk (st := sLaw) lL cL kL
  refine ⟨PySem.W.fnOf "law" "law" (defArgs sLaw) (defBody sLaw) (defScope sLaw) .none kVL dcL pmL anL cdL ctL, fun s v => .of_eq rfl, fun base _ _ => ?_⟩
  have GD : Callee l.prog w K mg base 1 "_law_draw" ["cell", "many", "bound"] spDraw fD _ := ⟨ok_draw FD T, gD, FD.kp, BD⟩
  have GCe : Callee l.prog w K mg base 1 "_law_cell" ["script", "k"] (spCell K) fCe _ := ⟨ok_cell FCe T, gCe, FCe.kp, BCe⟩
  have GPe : Callee l.prog w K mg base 1 "common_period" ["windows"] (spPeriod K) fPe _ := ⟨ok_period FPe hlcm, gPe, FPe.kp, BPe⟩
  have GPl : Callee l.prog w K mg base 1 "places_of" ["window", "begin", "count"] (spPlaces K) fPl _ := ⟨ok_places FPl T hmax hmin, gPl, FPl.kp, BPl⟩
  have GRu : Callee l.prog w K mg base 2 "runs_of" ["windows", "begin", "count"] (spRunsOf K) fRu _ := ⟨ok_runsof FRu hsorted hzip GPl, gRu, FRu.kp, BRu⟩
  have GPa : MethOf l.prog w K mg base 3 ["self", "phase"] (spPattern K C) fPa _ := ⟨ok_pattern FPa hmin cC GPe GRu, BPa⟩
  have GSt : MethOf l.prog w K mg base 4 ["self", "phase", "tick", "length"] (spStart K C) fSt _ := ⟨ok_start FSt hmax cC mPa GPa, BSt⟩
  have GEa : MethOf l.prog w K mg base 5 ["self", "tick", "length"] (spEarl K C) fEa _ := ⟨ok_earl FEa hmax henum cC mSt GSt, BEa⟩
  have GLa : MethOf l.prog w K mg base 4 ["self"] (spLast K C) fLa _ := ⟨ok_last FLa hlen cC mPa GPa, BLa⟩
  have GFi : FtMk l.prog w K mg base C fFi _ := ⟨ok_ftinit FFi hsorted cC, gCC, MIC, BFi⟩
  have GSe : Callee l.prog w K mg base 6 "send_others" ["windows", "frames"] (spSend K) fSe _ := ⟨ok_send FSe hmax cC GFi mEa GEa, gSe, FSe.kp, BSe⟩
  have GGa : Callee l.prog w K mg base 5 "gap" ["windows"] (spGap K) fGa _ := ⟨ok_gap FGa hmax cC GFi mLa GLa, gGa, FGa.kp, BGa⟩
  have GLo : Callee l.prog w K mg base 5 "longest_wait" ["windows", "length"] (spLong K) fLo _ := ⟨ok_long FLo hmax hzip cC GFi mLa GLa, gLo, FLo.kp, BLo⟩
  have GI : Callee l.prog w K mg base 1 "_law_is_integer" ["actual"] spIsInt fI _ := ⟨ok_isint FI hisi hint hbool, gI, FI.kp, BI⟩
  have GW : Callee l.prog w K mg base 2 "_law_window" ["cell"] spWin13 fW _ := ⟨ok_win13 FW T GD, gW, FW.kp, BW⟩
  have GTk : Callee l.prog w K mg base 1 "_law_taken" ["windows", "tick"] (spTak13 K) fTk _ := ⟨ok_tak13 FTk T, gTk, FTk.kp, BTk⟩
  have GGp : Callee l.prog w K mg base 2 "_law_gap" ["windows", "first"] (spGap13 K) fGp _ := ⟨ok_gap13 FGp T hmax GTk, gGp, FGp.kp, BGp⟩
  exact ok_law FL T hmax GW GCe GGp GGa GLo GSe GI
end My
open PySem PySem.W PyProof.Rows in
set_option maxHeartbeats 0 in
theorem PySem.Challenge.cw_metronet_k13_gaps_and_waits_holds : PySem.Challenge.rw_metronet_k13_gaps_and_waits.Holds := by
  w_on; o_law; k_head; (case hw => w_witness2)
  k_fill
  refine L2.walk_of (l := PySem.Challenge.rw_metronet_k13_gaps_and_waits) (n := 63) (k := 7) (x := "script") (CX := fun _ => L2.CX0) (sp := fun w => My.spLaw _) rfl (by decide) rfl ⟨rfl, by decide, by decide⟩ (fun w h Y => PySem.W.kIn_of Y) ?F (fun _ _ a ns hl _ hS => ⟨a, ns, rfl, hS, hl, fun _ => rfl⟩) (fun _ _ _ _ _ h => h)
  case F =>
    intro w mg fa h KX G hmg
    refine' My.all_mk KX G hmg ?aC ?aFi ?iFi ?lFi ?cFi ?kFi ?aEa ?iEa ?lEa ?cEa ?kEa ?aSt ?iSt ?lSt ?cSt ?kSt ?aLa ?iLa ?lLa ?cLa ?kLa ?aPa ?iPa ?lPa ?cPa ?kPa ?pgC ?hdC ?poC ?saC ?mkC ?kcC ?nC1 ?nC2 ?nC3 ?nC4 ?aD ?lD ?cD ?kD ?aCe ?lCe ?cCe ?kCe ?aPe ?lPe ?cPe ?kPe ?aPl ?lPl ?cPl ?kPl ?aRu ?lRu ?cRu ?kRu ?aSe ?lSe ?cSe ?kSe ?aGa ?lGa ?cGa ?kGa ?aLo ?lLo ?cLo ?kLo ?aI ?lI ?cI ?kI ?aW ?lW ?cW ?kW ?aTk ?lTk ?cTk ?kTk ?aGp ?lGp ?cGp ?kGp ?aL ?lL ?cL ?kL ?z_range ?z_len ?z_int ?z_list ?z_enum ?z_zip ?z_max ?z_min ?z_sorted ?z_isi ?z_bool ?z_lcm
    (case aC => k_is)
    (case aFi => k_is)
    (case iFi => k_is)
    (case lFi => k_is)
    (case cFi => k_is)
    (case kFi => k_is)
    (case aEa => k_is)
    (case iEa => k_is)
    (case lEa => k_is)
    (case cEa => k_is)
    (case kEa => k_is)
    (case aSt => k_is)
    (case iSt => k_is)
    (case lSt => k_is)
    (case cSt => k_is)
    (case kSt => k_is)
    (case aLa => k_is)
    (case iLa => k_is)
    (case lLa => k_is)
    (case cLa => k_is)
    (case kLa => k_is)
    (case aPa => k_is)
    (case iPa => k_is)
    (case lPa => k_is)
    (case cPa => k_is)
    (case kPa => k_is)
    (case pgC => k_is)
    (case hdC => k_is)
    (case poC => k_is)
    (case saC => k_is)
    (case mkC => k_is)
    (case kcC => k_is)
    (case nC1 => k_is)
    (case nC2 => k_is)
    (case nC3 => k_is)
    (case nC4 => k_is)
    (case aD => k_is)
    (case lD => k_is)
    (case cD => k_is)
    (case kD => k_is)
    (case aCe => k_is)
    (case lCe => k_is)
    (case cCe => k_is)
    (case kCe => k_is)
    (case aPe => k_is)
    (case lPe => k_is)
    (case cPe => k_is)
    (case kPe => k_is)
    (case aPl => k_is)
    (case lPl => k_is)
    (case cPl => k_is)
    (case kPl => k_is)
    (case aRu => k_is)
    (case lRu => k_is)
    (case cRu => k_is)
    (case kRu => k_is)
    (case aSe => k_is)
    (case lSe => k_is)
    (case cSe => k_is)
    (case kSe => k_is)
    (case aGa => k_is)
    (case lGa => k_is)
    (case cGa => k_is)
    (case kGa => k_is)
    (case aLo => k_is)
    (case lLo => k_is)
    (case cLo => k_is)
    (case kLo => k_is)
    (case aI => k_is)
    (case lI => k_is)
    (case cI => k_is)
    (case kI => k_is)
    (case aW => k_is)
    (case lW => k_is)
    (case cW => k_is)
    (case kW => k_is)
    (case aTk => k_is)
    (case lTk => k_is)
    (case cTk => k_is)
    (case kTk => k_is)
    (case aGp => k_is)
    (case lGp => k_is)
    (case cGp => k_is)
    (case kGp => k_is)
    (case aL => k_is)
    (case lL => k_is)
    (case cL => k_is)
    (case kL => k_is)
    (case z_range => k_is)
    (case z_len => k_is)
    (case z_int => k_is)
    (case z_list => k_is)
    (case z_enum => k_is)
    (case z_zip => k_is)
    (case z_max => k_is)
    (case z_min => k_is)
    (case z_sorted => k_is)
    (case z_isi => k_is)
    (case z_bool => k_is)
    (case z_lcm => k_is)
