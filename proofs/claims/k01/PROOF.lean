import PyProof.Rows.All
import Wide.All
import OpenK.AllK
import Wide.FinOn
import HandS.ForMost
import HandS.Wide
import HandS.Defaults
import HandS.MakeKwOnly
import HandS.Flow
import HandS.More
import HandS.Walk
import KE.LtData
import KE.KItemsList
import KE.KDictZip
import KE.KTurns
import KE.KEqDict
import PyProof.DictFindH
import HandS.Zip
import HandS.SlotsOwn
import HandS.IsInst
import HandS.Deep
import HandS.Codes
import PySem.Challenge.RW_metronet_k01_nets_and_paths
set_option Elab.async false
set_option linter.all false
set_option maxRecDepth 100000
set_option maxHeartbeats 4000000
/-! What any law wants, without the row: heaps, loops, order of data. -/
namespace My
open PySem PySem.Spec PyProof.Rows L2

theorem same_new {H : Hp} {p : Addr} {o : HO} (h : H p = none) : Same H (upd H p o) := fun b x e => by
  rw [upd_ne (ne_of_none e h)]
  exact e
/-- an object that H does not know may change -/
theorem same_mut {H H' : Hp} {p : Addr} {o : HO} (e : Same H H') (h : H p = none) : Same H (upd H' p o) := fun a u ha => by
  rw [upd_ne (ne_of_none ha h)]
  exact e a u ha
theorem ne_new {H H' : Hp} {a p : Addr} (n : H p = none) (h : H' p ≠ none) (e : H' a = none) : p ≠ a := fun q => h (q ▸ e)
/-- a list of ints by place -/
theorem ints_at {ns : List Int} {i : Nat} {y : V} (h : (ns.map V.int)[i]? = some y) : ∃ n, ns[i]? = some n ∧ y = .int n := by
  rw [List.getElem?_map] at h
  cases e : ns[i]? with
  | none => rw [e] at h; cases h
  | some n => rw [e] at h; exact ⟨n, rfl, (Option.some.inj h).symm⟩
theorem int_at {ns : List Int} {i : Nat} {n : Int} (h : ns[i]? = some n) : (ns.map V.int)[i]? = some (.int n) := by
  rw [List.getElem?_map, h]; rfl
theorem atI_int {ns : List Int} {i : Nat} (h : i < ns.length) : atI (ns.map V.int) (i : Int) = some (.int ns[i]) := atI_nat (int_at (List.getElem?_eq_getElem h))
theorem sz {n : Nat} (h : n ≤ 100000) : n ≤ sizeLine := Nat.le_trans h (by decide)
theorem szl {n : Nat} (h : n < 100000) : n < sizeLine := Nat.lt_of_lt_of_le h (by decide)

theorem getD_lt {α : Type} {xs : List α} {j : Nat} (d : α) (h : j < xs.length) : xs.getD j d = xs[j] := by
  rw [List.getD_eq_getElem?_getD, List.getElem?_eq_getElem h]; rfl
theorem getD_at {α : Type} {xs : List α} {j : Nat} (d : α) (h : j < xs.length) : xs[j]? = some (xs.getD j d) := by
  rw [getD_lt d h, List.getElem?_eq_getElem h]
theorem atI_ints {ns : List Int} {z : Int} {j : Nat} (e : z = (j : Int)) (h : j < ns.length) : atI (ns.map V.int) z = some (.int (ns.getD j 0)) := by
  rw [e]
  exact atI_nat (int_at (getD_at 0 h))
theorem getD_mem {ns : List Int} {j : Nat} (h : j < ns.length) : ns.getD j 0 ∈ ns := by
  rw [getD_lt 0 h]; exact List.getElem_mem h
/-! ### tests that change nothing -/
theorem or_read {t u : TT} {σ : L2.St} {H : Hp} {Q : Bool → Hp → Prop} {a b : Bool} (ht : ∀ Q : Bool → Hp → Prop, Q a H → t σ H Q) (hu : ∀ Q : Bool → Hp → Prop, Q b H → u σ H Q) (h : Q (a || b) H) : tOr t u σ H Q := by
  refine ht _ ?_
  cases a with
  | true => exact iteT h
  | false => exact iteF (hu _ h)
theorem and_read {t u : TT} {σ : L2.St} {H : Hp} {Q : Bool → Hp → Prop} {a b : Bool} (ht : ∀ Q : Bool → Hp → Prop, Q a H → t σ H Q) (hu : a = true → ∀ Q : Bool → Hp → Prop, Q b H → u σ H Q) (h : Q (a && b) H) : tAnd t u σ H Q := by
  refine ht _ ?_
  cases a with
  | true => exact iteT (hu rfl _ h)
  | false => exact iteF h
/-! ### < of data -/
section
variable {X : Cx}
def rLtD (K : PySem.W.Frag) : R2 := fun x y H Q => ∃ d e, Dp K H x d ∧ Dp K H y e ∧ PySem.W.alike d e = true ∧ d ≠ .none ∧ min d.depth e.depth ≤ 64 ∧ Q (.bl (PySem.W.dataLt d e)) H
theorem op_ltD (hu : X.A.units + 64 < cLine) : OpR X (compareOp .Lt) (rLtD X.K) := by
  intro pins s σ H x y v u Q I rx ry h
  obtain ⟨d, e, hd, he, al, nn, dp, q⟩ := h
  obtain ⟨as, r1⟩ := Dp.reads I d x v hd rx
  obtain ⟨bs, r2⟩ := Dp.reads I e y u he ry
  have z : wpAny (model X.prog X.w) X.A (compareOp .Lt v u) (EP X pins σ Q) X.xe s := PySem.W.rcLt_alike d e X.A s v u as bs r1 r2 al nn (by omega) X.prog X.w X.xe (EP X pins σ Q) ⟨.bl _, H, I, rfl, q⟩
  exact z
end
/-! ### rules that name the written part, for a comprehension's block -/
section
variable {X : Cx} {K : PySem.W.Frag}
theorem pe_fldK {e : Expr} {f : Str} {pos : Pos} {ta : TE} (he : PE X e ta) (hK : X.K = K := by rfl) (hb : attributeBase e f X.env (eval e X.env) = eval e X.env := by rfl) : PE X (.Attribute e f pos) (tFld K ta f) := by
  subst hK
  exact pe_fld he hb
theorem ix_listK (hK : X.K = K := by rfl) : IxR X (rIxL K) := by
  subst hK
  exact ix_list
theorem ix_tupK (hK : X.K = K := by rfl) : IxR X (rIxT K) := by
  subst hK
  exact ix_tup
def rLenK (K : PySem.W.Frag) : List V → Hp → VK → Prop := fun xs H Q => ∃ p ys, xs = [.ref p] ∧ (SqL K H p ys ∨ SqT K H p ys) ∧ Q (.int ys.length) H
theorem call_lenK (hK : X.K = K := by rfl) : CallR X (.builtin "len") (rLenK K) := by
  subst hK
  exact call_len_seq
theorem pg_tupK {es : List Expr} {k : Nat} {t : TGs} {n : Nat} {pos : Pos} (hc : X.calm = true) (h : PGs X es t) (hK : X.K = K := by rfl)
    (hn : (assignEach es X.env).length = n := by rfl) (hst : (assignEach es X.env).findIdx? (·.1) = none := by rfl) : PG X (.Tuple es k pos) (gTup K n t) := by
  subst hK
  exact pg_tup hc h hn hst
end
end My
/-! Nets as data, how the heap bears them. No row. -/
namespace My
open PySem PySem.Spec PyProof.Rows L2
/-- a net as data: host or not, the lines, processing, clock bound -/
structure NetD where
  ks : List Bool
  ls : List (Nat × Nat × Int)
  pr : Int
  er : Int
def kindV (b : Bool) : V := .str (if b then "host" else "switch")
def lineV (l : Nat × Nat × Int) : List V := [.int (l.1 : Int), .int (l.2.1 : Int), .int l.2.2]
def key2 (a b : Nat) : List Key := [Sum.inl (a : Int), Sum.inl (b : Int)]
def put2 (acc : List (List Key × V)) (l : Nat × Nat × Int) : List (List Key × V) := putK (putK acc (key2 l.1 l.2.1) (.int l.2.2)) (key2 l.2.1 l.1) (.int l.2.2)
def delaysOf (ls : List (Nat × Nat × Int)) : List (List Key × V) := ls.foldl put2 []
theorem put2_len (acc : List (List Key × V)) (l : Nat × Nat × Int) : (put2 acc l).length ≤ acc.length + 2 := by
  have h1 := length_putK (putK acc (key2 l.1 l.2.1) (.int l.2.2)) (key2 l.2.1 l.1) (.int l.2.2)
  have h2 := length_putK acc (key2 l.1 l.2.1) (.int l.2.2)
  unfold put2
  omega
theorem foldl_len : ∀ (ls : List (Nat × Nat × Int)) (acc : List (List Key × V)), (ls.foldl put2 acc).length ≤ acc.length + 2 * ls.length
  | [], acc => by simp
  | l :: r, acc => by
    have := foldl_len r (put2 acc l)
    have := put2_len acc l
    rw [List.foldl_cons, List.length_cons]
    omega
theorem delays_len (ls : List (Nat × Nat × Int)) : (delaysOf ls).length ≤ 2 * ls.length := by
  have := foldl_len ls []
  rw [List.length_nil] at this
  unfold delaysOf
  omega
theorem delays_snoc (ls : List (Nat × Nat × Int)) (l : Nat × Nat × Int) : delaysOf (ls ++ [l]) = put2 (delaysOf ls) l := by
  unfold delaysOf
  rw [List.foldl_append]
  rfl
theorem take_snoc {α : Type} {xs : List α} {i : Nat} {x : α} (h : xs[i]? = some x) : xs.take (i + 1) = xs.take i ++ [x] := by
  rw [List.take_add_one, h]
  rfl
theorem key2_inj {a b c d : Nat} (e : key2 a b = key2 c d) : a = c ∧ b = d := by
  unfold key2 at e
  injection e with e1 e2
  injection e2 with e2 _
  injection e1 with e1
  injection e2 with e2
  exact ⟨by omega, by omega⟩
/-- the line joins both nodes -/
def hits (a b : Nat) (l : Nat × Nat × Int) : Bool := (decide (l.1 = a) && decide (l.2.1 = b)) || (decide (l.1 = b) && decide (l.2.1 = a))
theorem valV_put2 (acc : List (List Key × V)) (l : Nat × Nat × Int) (a b : Nat) : valV (put2 acc l) (key2 a b) = if hits a b l = true then some (.int l.2.2) else valV acc (key2 a b) := by
  unfold put2 hits
  rw [valV_put, valV_put]
  by_cases h1 : key2 a b = key2 l.2.1 l.1
  · obtain ⟨e1, e2⟩ := key2_inj h1
    rw [if_pos h1, if_pos]
    simp [e1, e2]
  · rw [if_neg h1]
    by_cases h2 : key2 a b = key2 l.1 l.2.1
    · obtain ⟨e1, e2⟩ := key2_inj h2
      rw [if_pos h2, if_pos]
      simp [e1, e2]
    · rw [if_neg h2, if_neg]
      intro h
      rw [Bool.or_eq_true, Bool.and_eq_true, Bool.and_eq_true, decide_eq_true_eq, decide_eq_true_eq, decide_eq_true_eq, decide_eq_true_eq] at h
      rcases h with ⟨e1, e2⟩ | ⟨e1, e2⟩
      · exact h2 (by rw [e1, e2])
      · exact h1 (by rw [e1, e2])
theorem valV_fold (a b : Nat) : ∀ (ls : List (Nat × Nat × Int)) (acc : List (List Key × V)), (valV (ls.foldl put2 acc) (key2 a b)).isSome = (ls.any (hits a b) || (valV acc (key2 a b)).isSome)
  | [], acc => by simp
  | l :: r, acc => by
    rw [List.foldl_cons, valV_fold a b r, valV_put2, List.any_cons]
    cases hits a b l with
    | true => simp
    | false => simp
def adj (N : NetD) (a b : Nat) : Bool := N.ls.any (hits a b)
theorem adj_val (N : NetD) (a b : Nat) : (valV (delaysOf N.ls) (key2 a b)).isSome = adj N a b := by
  unfold delaysOf adj
  rw [valV_fold]
  simp [valV_nil]
/-- the first line that joins both -/
def joined (N : NetD) (a b : Nat) : Option Int := (N.ls.find? (hits a b)).map (·.2.2)
theorem joined_some (N : NetD) (a b : Nat) : (joined N a b).isSome = adj N a b := by
  unfold joined adj
  rw [Option.isSome_map, Bool.eq_iff_iff, List.find?_isSome, List.any_eq_true]

def nbs (N : NetD) (a : Nat) : List Nat := (List.range N.ks.length).filter (adj N a)
def natsV (ns : List Nat) : List V := ns.map fun (n : Nat) => V.int (n : Int)
/-- host or not -/
def host (N : NetD) (a : Nat) : Bool := N.ks.getD a true
def lastN (r : List Nat) : Nat := r.getD (r.length - 1) 0
def okb (N : NetD) (r : List Nat) (b : Nat) : Bool := !(r.contains b) && adj N (lastN r) b
def exH (N : NetD) (r : List Nat) : List (List Nat) := ((List.range N.ks.length).filter fun b => okb N r b && host N b).map fun b => r ++ [b]
def exS (N : NetD) (r : List Nat) : List (List Nat) := ((List.range N.ks.length).filter fun b => okb N r b && !host N b).map fun b => r ++ [b]
def rowsOf (N : NetD) : Nat → List (List Nat)
  | 0 => ((List.range N.ks.length).filter (host N)).map fun a => [a]
  | t + 1 => (rowsOf N t).flatMap (exS N)
def foundOf (N : NetD) : Nat → List (List Nat)
  | 0 => []
  | t + 1 => foundOf N t ++ (rowsOf N t).flatMap (exH N)
theorem natsV_at {ns : List Nat} {i n : Nat} (h : ns[i]? = some n) : (natsV ns)[i]? = some (.int (n : Int)) := by
  unfold natsV
  rw [List.getElem?_map, h]
  rfl
theorem natsV_len (ns : List Nat) : (natsV ns).length = ns.length := List.length_map ..
theorem natsV_flat (ns : List Nat) : (natsV ns).all flatV = true := by
  rw [List.all_eq_true]
  intro x hx
  obtain ⟨n, _, rfl⟩ := List.mem_map.mp hx
  rfl
theorem natsV_in (ns : List Nat) (b : Nat) : inV (.int (b : Int)) (natsV ns) = ns.contains b := by
  unfold inV natsV
  rw [List.any_map, List.contains_eq_any_beq]
  congr 1
  funext x
  show ((x : Int) == (b : Int)) = (b == x)
  rw [Bool.eq_iff_iff, beq_iff_eq, beq_iff_eq]
  omega
theorem natsV_app (r : List Nat) (b : Nat) : natsV r ++ [V.int (b : Int)] = natsV (r ++ [b]) := by
  unfold natsV
  rw [List.map_append]
  rfl
theorem len_flat {α β : Type} (f : α → List β) (m : Nat) (h : ∀ a, (f a).length ≤ m) : ∀ l : List α, (l.flatMap f).length ≤ m * l.length
  | [] => by simp
  | a :: r => by
    have := len_flat f m h r
    have := h a
    rw [List.flatMap_cons, List.length_append, List.length_cons, Nat.mul_add]
    omega
theorem exH_len (N : NetD) (r : List Nat) : (exH N r).length ≤ N.ks.length := by
  have := List.length_filter_le (fun b => okb N r b && host N b) (List.range N.ks.length)
  unfold exH
  rw [List.length_map]
  rw [List.length_range] at this
  exact this
theorem exS_len (N : NetD) (r : List Nat) : (exS N r).length ≤ N.ks.length := by
  have := List.length_filter_le (fun b => okb N r b && !host N b) (List.range N.ks.length)
  unfold exS
  rw [List.length_map]
  rw [List.length_range] at this
  exact this
theorem rows_len (N : NetD) (h : N.ks.length ≤ 7) : ∀ t, (rowsOf N t).length ≤ 8 ^ (t + 1)
  | 0 => by
    have := List.length_filter_le (host N) (List.range N.ks.length)
    rw [List.length_range] at this
    show (((List.range N.ks.length).filter (host N)).map fun a => [a]).length ≤ 8 ^ 1
    rw [List.length_map]
    omega
  | t + 1 => by
    have h1 := rows_len N h t
    have h2 := len_flat (exS N) 7 (fun a => Nat.le_trans (exS_len N a) h) (rowsOf N t)
    show ((rowsOf N t).flatMap (exS N)).length ≤ _
    rw [Nat.pow_succ]
    omega
theorem found_len (N : NetD) (h : N.ks.length ≤ 7) : ∀ t, (foundOf N t).length ≤ 8 ^ (t + 1)
  | 0 => by simp [foundOf]
  | t + 1 => by
    have h1 := found_len N h t
    have h0 := rows_len N h t
    have h2 := len_flat (exH N) 7 (fun a => Nat.le_trans (exH_len N a) h) (rowsOf N t)
    show (foundOf N t ++ (rowsOf N t).flatMap (exH N)).length ≤ _
    rw [List.length_append, Nat.pow_succ]
    omega
theorem ex_ne (N : NetD) (r x : List Nat) (h : x ∈ exH N r ∨ x ∈ exS N r) : x ≠ [] := by
  rcases h with h | h
  · obtain ⟨b, _, rfl⟩ := List.mem_map.mp h
    simp
  · obtain ⟨b, _, rfl⟩ := List.mem_map.mp h
    simp
theorem rows_row (N : NetD) : ∀ t, ∀ r ∈ rowsOf N t, r.length = t + 1
  | 0, r, h => by
    obtain ⟨a, _, rfl⟩ := List.mem_map.mp h
    rfl
  | t + 1, r, h => by
    obtain ⟨r', h1, h2⟩ := List.mem_flatMap.mp h
    obtain ⟨b, _, rfl⟩ := List.mem_map.mp h2
    rw [List.length_append, rows_row N t r' h1]
    rfl
theorem flat_take {α β : Type} (f : α → List β) {l : List α} {i : Nat} {a : α} (h : l[i]? = some a) : (l.take (i + 1)).flatMap f = (l.take i).flatMap f ++ f a := by
  rw [take_snoc h, List.flatMap_append, List.flatMap_cons, List.flatMap_nil, List.append_nil]
theorem filt_succ {α : Type} (p : Nat → Bool) (f : Nat → α) (j : Nat) : ((List.range (j + 1)).filter p).map f = ((List.range j).filter p).map f ++ (if p j = true then [f j] else []) := by
  rw [List.range_succ, List.filter_append, List.map_append, List.filter_cons]
  split <;> rfl
def optV : Option Int → V
  | none => .non
  | some d => .int d
theorem optV_non (o : Option Int) : (!decide (optV o = .non)) = o.isSome := by
  cases o with
  | none => rfl
  | some d => rfl
theorem dec_nat (a b : Nat) : decide (V.int (a : Int) = V.int (b : Int)) = decide (a = b) := by
  by_cases h : a = b
  · rw [h]; simp
  · rw [decide_eq_false h, decide_eq_false]
    intro z
    injection z with z
    omega
theorem find_take {α : Type} (p : α → Bool) {l : List α} {i : Nat} {a : α} (h : l[i]? = some a) (h0 : (l.take i).find? p = none) (hp : p a = true) : l.find? p = some a := by
  have e : l = l.take i ++ a :: l.drop (i + 1) := by
    obtain ⟨hi, e⟩ := List.getElem?_eq_some_iff.mp h
    rw [← e, List.getElem_cons_drop, List.take_append_drop]
  rw [e, List.find?_append, h0, List.find?_cons, hp]
  rfl
theorem find_skip {α : Type} (p : α → Bool) {l : List α} {i : Nat} {a : α} (h : l[i]? = some a) (h0 : (l.take i).find? p = none) (hp : ¬ p a = true) : (l.take (i + 1)).find? p = none := by
  rw [take_snoc h, List.find?_append, h0, List.find?_cons, Bool.eq_false_iff.mpr hp]
  rfl
/-! ### the instance's attributes -/
def netF (lk ll : Addr) (pr er : Int) (ld : Addr) : List (Str × V) := [("kinds", .ref lk), ("lines", .ref ll), ("processing", .int pr), ("error", .int er), ("_delays", .ref ld)]
theorem putF_new {f : Str} {v : V} : ∀ {fs : List (Str × V)}, fs.lookup f = none → putF f v fs = fs ++ [(f, v)]
  | [], _ => rfl
  | (g, x) :: r, h => by
    have e : (f == g) = false := by
      cases q : f == g with
      | false => rfl
      | true => rw [List.lookup_cons, q] at h; cases h
    rw [List.lookup_cons, e] at h
    have ne : ¬ g = f := fun z => by rw [z] at e; simp at e
    show (if g = f then (g, v) :: r else (g, x) :: putF f v r) = _
    rw [if_neg ne, putF_new h]
    rfl
theorem f1 {lk : Addr} : putF "kinds" (.ref lk) [] = [(("kinds" : Str), V.ref lk)] := rfl
theorem f2 {lk ll : Addr} : putF "lines" (.ref ll) [(("kinds" : Str), V.ref lk)] = [(("kinds" : Str), V.ref lk), ("lines", V.ref ll)] := putF_new rfl
theorem f3 {lk ll : Addr} {pr : Int} : putF "processing" (.int pr) [(("kinds" : Str), V.ref lk), ("lines", V.ref ll)] = [(("kinds" : Str), V.ref lk), ("lines", V.ref ll), ("processing", .int pr)] := putF_new rfl
theorem f4 {lk ll : Addr} {pr er : Int} : putF "error" (.int er) [(("kinds" : Str), V.ref lk), ("lines", V.ref ll), ("processing", .int pr)] = [(("kinds" : Str), V.ref lk), ("lines", V.ref ll), ("processing", .int pr), ("error", .int er)] := putF_new rfl
theorem f5 {lk ll ld : Addr} {pr er : Int} : putF "_delays" (.ref ld) [(("kinds" : Str), V.ref lk), ("lines", V.ref ll), ("processing", .int pr), ("error", .int er)] = netF lk ll pr er ld := putF_new rfl
section
variable {lk ll ld : Addr} {pr er : Int}
theorem g1 : (netF lk ll pr er ld).lookup ("kinds" : Str) = some (.ref lk) := rfl
theorem g2 : (netF lk ll pr er ld).lookup ("lines" : Str) = some (.ref ll) := rfl
theorem g3 : (netF lk ll pr er ld).lookup ("processing" : Str) = some (.int pr) := rfl
theorem g4 : (netF lk ll pr er ld).lookup ("error" : Str) = some (.int er) := rfl
theorem g5 : (netF lk ll pr er ld).lookup ("_delays" : Str) = some (.ref ld) := rfl
theorem g6 : (netF lk ll pr er ld).lookup ("neighbours" : Str) = none := rfl
theorem g7 : (netF lk ll pr er ld).lookup ("delay" : Str) = none := rfl
end
/-- tuples of lines -/
abbrev LinesAt (K : PySem.W.Frag) (H : Hp) (ts : List Addr) (ls : List (Nat × Nat × Int)) : Prop := Paired (fun (t : Addr) (l : Nat × Nat × Int) => SqT K H t (lineV l)) ts ls
theorem same_tup {K : PySem.W.Frag} {H H' : Hp} {a : Addr} {xs : List V} (e : Same H H') (h : SqT K H a xs) : SqT K H' a xs := by
  rcases h with (h | ⟨o, h⟩) | h
  · exact .inl (.inl (e _ _ h))
  · exact .inl (.inr ⟨o, e _ _ h⟩)
  · exact .inr h
theorem Paired.imp {α β : Type} {F G : α → β → Prop} : ∀ {l1 : List α} {l2 : List β}, Paired F l1 l2 → (∀ a b, F a b → G a b) → Paired G l1 l2
  | _, _, .nil, _ => .nil
  | _, _, .cons r t, f => .cons (f _ _ r) (Paired.imp t f)
theorem Paired.at {α β : Type} {F : α → β → Prop} : ∀ {xs : List α} {ys : List β}, Paired F xs ys → ∀ {i : Nat} {x : α}, xs[i]? = some x → ∃ y, ys[i]? = some y ∧ F x y
  | _, _, .nil, i, x, h => by cases h
  | _, _, .cons r t, 0, x, h => by
    have e := Option.some.inj h
    subst e
    exact ⟨_, rfl, r⟩
  | _, _, .cons r t, i + 1, x, h => Paired.at t h
theorem Paired.snoc {α β : Type} {F : α → β → Prop} {x : α} {y : β} (r : F x y) : ∀ {xs : List α} {ys : List β}, Paired F xs ys → Paired F (xs ++ [x]) (ys ++ [y])
  | _, _, .nil => .cons r .nil
  | _, _, .cons h t => .cons h (Paired.snoc r t)
theorem LinesAt.same {K : PySem.W.Frag} {H H' : Hp} {ts : List Addr} {ls : List (Nat × Nat × Int)} (h : LinesAt K H ts ls) (e : Same H H') : LinesAt K H' ts ls := Paired.imp h fun _ _ q => same_tup e q
/-- a Net stands at p -/
def NetAt (K : PySem.W.Frag) (C : Addr) (H : Hp) (p : Addr) (N : NetD) : Prop := ∃ (dx lk ll ld : Addr) (ts : List Addr), H p = some (.ins C dx (netF lk ll N.pr N.er ld)) ∧ H lk = some (.lst (N.ks.map kindV)) ∧ H ll = some (.lst (ts.map V.ref)) ∧
  LinesAt K H ts N.ls ∧ H ld = some (.dT (delaysOf N.ls))
theorem NetAt.same {K : PySem.W.Frag} {C : Addr} {H H' : Hp} {p : Addr} {N : NetD} (h : NetAt K C H p N) (e : Same H H') : NetAt K C H' p N := by
  obtain ⟨dx, lk, ll, ld, ts, h1, h2, h3, h4, h5⟩ := h
  exact ⟨dx, lk, ll, ld, ts, e _ _ h1, e _ _ h2, e _ _ h3, h4.same e, e _ _ h5⟩
/-- all but p is kept -/
def But (p : Addr) (H H' : Hp) : Prop := ∀ b o, H b = some o → b ≠ p → H' b = some o
theorem But.trans {p : Addr} {H H1 H2 : Hp} (a : But p H H1) (b : But p H1 H2) : But p H H2 := fun c o h n => b c o (a c o h n) n
theorem But.seq {K : PySem.W.Frag} {p C dx a : Addr} {fs : List (Str × V)} {H H' : Hp} {xs : List V} (h : But p H H') (hp : H p = some (.ins C dx fs)) (q : SqL K H a xs) : SqL K H' a xs := by
  rcases q with (q | ⟨o, q⟩) | q
  · exact .inl (.inl (h _ _ q (ne_of q hp (by intro z; cases z))))
  · exact .inl (.inr ⟨o, h _ _ q (ne_of q hp (by intro z; cases z))⟩)
  · exact .inr q
theorem But.tup {K : PySem.W.Frag} {p C dx a : Addr} {fs : List (Str × V)} {H H' : Hp} {xs : List V} (h : But p H H') (hp : H p = some (.ins C dx fs)) (q : SqT K H a xs) : SqT K H' a xs := by
  rcases q with (q | ⟨o, q⟩) | q
  · exact .inl (.inl (h _ _ q (ne_of q hp (by intro z; cases z))))
  · exact .inl (.inr ⟨o, h _ _ q (ne_of q hp (by intro z; cases z))⟩)
  · exact .inr q
theorem but_new {p l : Addr} {o u : HO} {H : Hp} (nl : H l = none) : But p H (upd (upd H l o) p u) := fun b x e n => by
  rw [upd_ne n, upd_ne (ne_of_none e nl)]; exact e
theorem but_self {p : Addr} {u : HO} {H : Hp} : But p H (upd H p u) := fun b x e n => by
  rw [upd_ne n]; exact e
theorem but_app {p t : Addr} {o u : HO} {H : Hp} (nt : H t = none) : But p H (upd (upd H t o) p u) := but_new nt
theorem But.refl (p : Addr) (H : Hp) : But p H H := fun _ _ e _ => e
theorem But.tupL {K : PySem.W.Frag} {p a : Addr} {ys : List V} {H H' : Hp} {xs : List V} (h : But p H H') (hp : H p = some (.lst ys)) (q : SqT K H a xs) : SqT K H' a xs := by
  rcases q with (q | ⟨o, q⟩) | q
  · exact .inl (.inl (h _ _ q (ne_of q hp (by intro z; cases z))))
  · exact .inl (.inr ⟨o, h _ _ q (ne_of q hp (by intro z; cases z))⟩)
  · exact .inr q
theorem same_but {p : Addr} {H H1 H2 : Hp} (e : Same H H1) (n : H p = none) (h : But p H1 H2) : Same H H2 := fun b o q => h _ _ (e _ _ q) (ne_of_none q n)
theorem kind_sw {b : Bool} (h : kindV b = V.str "switch") : b = false := by
  cases b with
  | false => rfl
  | true => exact absurd h (by decide +kernel)
theorem kind_ho {b : Bool} (h : kindV b = V.str "host") : b = true := by
  cases b with
  | true => rfl
  | false => exact absurd h (by decide +kernel)
theorem kind_inj {a b : Bool} (h : kindV a = kindV b) : a = b := by
  cases a with
  | true => exact (kind_ho h.symm).symm
  | false => exact (kind_sw h.symm).symm
theorem atI_kind {ks : List Bool} {z : Int} {j : Nat} (e : z = (j : Int)) (h : j < ks.length) : atI (ks.map kindV) z = some (kindV (ks.getD j true)) := by
  rw [e]
  refine atI_nat ?_
  rw [List.getElem?_map, getD_at true h]
  rfl
/-- a line's nodes, the greater one first -/
def norm (l : Nat × Nat × Int) : Nat × Nat := if l.2.1 < l.1 then (l.1, l.2.1) else (l.2.1, l.1)
theorem norm_gt {a b : Nat} {d : Int} (h : b < a) : norm (a, b, d) = (a, b) := if_pos h
theorem norm_lt {a b : Nat} {d : Int} (h : b < a) : norm (b, a, d) = (a, b) := if_neg (by show ¬ a < b; omega)
structure LsOk (n : Nat) (ls : List (Nat × Nat × Int)) : Prop where
  nd : (ls.map norm).Nodup
  bd : ∀ l ∈ ls, (norm l).2 < (norm l).1 ∧ (norm l).1 < n
  dl : ∀ l ∈ ls, 0 ≤ l.2.2 ∧ l.2.2 ≤ 4
  few : ls.length ≤ 100
structure NetWf (N : NetD) : Prop where
  h0 : 2 ≤ N.ks.count true
  h1 : N.ks.count true ≤ 4
  s0 : 1 ≤ N.ks.count false
  s1 : N.ks.count false ≤ 3
  ls : LsOk N.ks.length N.ls
  p0 : 0 ≤ N.pr
  p1 : N.pr ≤ 2
  e0 : 0 ≤ N.er
  e1 : N.er ≤ 2
theorem len_count : ∀ ks : List Bool, ks.length = ks.count true + ks.count false
  | [] => rfl
  | b :: r => by
    have := len_count r
    rw [List.length_cons, List.count_cons, List.count_cons]
    cases b <;> simp <;> omega
theorem count_ins (ks : List Bool) (i : Nat) (b x : Bool) : (ks.take i ++ [b] ++ ks.drop i).count x = ks.count x + [b].count x := by
  have h : ks.count x = (ks.take i).count x + (ks.drop i).count x := by rw [← List.count_append, List.take_append_drop]
  rw [List.count_append, List.count_append, h]
  omega
theorem rep_flat {α : Type} (x : α) : ∀ n : Nat, (List.replicate n [x]).flatten = List.replicate n x
  | 0 => rfl
  | n + 1 => by rw [List.replicate_succ, List.flatten_cons, rep_flat x n]; rfl
/-- pairs of nodes as tuples -/
abbrev PairsAt (K : PySem.W.Frag) (H : Hp) (ts : List Addr) (ps : List (Nat × Nat)) : Prop := Paired (fun (t : Addr) (p : Nat × Nat) => SqT K H t [.int (p.1 : Int), .int (p.2 : Int)]) ts ps
theorem PairsAt.mono {K : PySem.W.Frag} {H H' : Hp} {ts : List Addr} {ps : List (Nat × Nat)} (h : PairsAt K H ts ps) (f : ∀ a ys, SqT K H a ys → SqT K H' a ys) : PairsAt K H' ts ps := Paired.imp h fun _ _ z => f _ _ z
theorem LinesAt.mono {K : PySem.W.Frag} {H H' : Hp} {ts : List Addr} {ps : List (Nat × Nat × Int)} (h : LinesAt K H ts ps) (f : ∀ a ys, SqT K H a ys → SqT K H' a ys) : LinesAt K H' ts ps := Paired.imp h fun _ _ z => f _ _ z
theorem PairsAt.snoc {K : PySem.W.Frag} {H : Hp} {ts : List Addr} {ps : List (Nat × Nat)} {t : Addr} {p : Nat × Nat} (h : PairsAt K H ts ps) (x : SqT K H t [.int (p.1 : Int), .int (p.2 : Int)]) : PairsAt K H (ts ++ [t]) (ps ++ [p]) := Paired.snoc (F := fun (t : Addr) (p : Nat × Nat) => SqT K H t [.int (p.1 : Int), .int (p.2 : Int)]) x h
theorem LinesAt.snoc {K : PySem.W.Frag} {H : Hp} {ts : List Addr} {ps : List (Nat × Nat × Int)} {t : Addr} {p : Nat × Nat × Int} (h : LinesAt K H ts ps) (x : SqT K H t (lineV p)) : LinesAt K H (ts ++ [t]) (ps ++ [p]) := Paired.snoc (F := fun (t : Addr) (l : Nat × Nat × Int) => SqT K H t (lineV l)) x h
structure PInv (ks : List Bool) (ps : List (Nat × Nat)) (a b : Nat) : Prop where
  nd : ps.Nodup
  ok : ∀ p ∈ ps, p.2 < p.1 ∧ p.1 < ks.length ∧ (p.1 < a ∨ (p.1 = a ∧ p.2 < b)) ∧ (ks.getD p.1 true = false ∨ ks.getD p.2 true = false)
  few : ps.length ≤ 7 * a + b
theorem nd_snoc' {α : Type} : ∀ {l : List α} {k : α}, l.Nodup → ¬ k ∈ l → (l ++ [k]).Nodup
  | [], k, _, _ => by simp
  | a :: r, k, h, hk => by
    obtain ⟨h1, h2⟩ := List.nodup_cons.mp h
    show (a :: (r ++ [k])).Nodup
    refine List.nodup_cons.mpr ⟨fun m => ?_, nd_snoc' h2 fun m => hk (List.mem_cons.mpr (Or.inr m))⟩
    rcases List.mem_append.mp m with q | q
    · exact h1 q
    · exact hk (List.mem_cons.mpr (Or.inl (List.mem_singleton.mp q).symm))
theorem PInv.nil {ks : List Bool} : PInv ks [] 0 0 := ⟨List.nodup_nil, fun p h => by (cases h), Nat.le_refl _⟩
theorem PInv.skip {ks : List Bool} {ps : List (Nat × Nat)} {a b : Nat} (h : PInv ks ps a b) : PInv ks ps a (b + 1) :=
  ⟨h.nd, fun p hp => let ⟨x, y, z, w⟩ := h.ok p hp; ⟨x, y, by omega, w⟩, by have := h.few; omega⟩
theorem PInv.next {ks : List Bool} {ps : List (Nat × Nat)} {a b : Nat} (h : PInv ks ps a b) (hb : b ≤ 7) : PInv ks ps (a + 1) 0 :=
  ⟨h.nd, fun p hp => let ⟨x, y, z, w⟩ := h.ok p hp; ⟨x, y, by omega, w⟩, by have := h.few; omega⟩
theorem PInv.snoc {ks : List Bool} {ps : List (Nat × Nat)} {a b : Nat} (h : PInv ks ps a b) (ha : a < ks.length) (hb : b < a) (hs : ks.getD a true = false ∨ ks.getD b true = false) : PInv ks (ps ++ [(a, b)]) a (b + 1) := by
  refine ⟨nd_snoc' h.nd fun m => ?_, fun p hp => ?_, by have := h.few; rw [List.length_append, List.length_singleton]; omega⟩
  · obtain ⟨_, _, z, _⟩ := h.ok _ m
    have z' : a < a ∨ (a = a ∧ b < b) := z
    omega
  · rcases List.mem_append.mp hp with q | q
    · obtain ⟨x, y, z, w⟩ := h.ok p q
      exact ⟨x, y, by omega, w⟩
    · rw [List.mem_singleton.mp q]
      exact ⟨hb, ha, .inr ⟨rfl, by show b < b + 1; omega⟩, hs⟩
/-- lines made from the first k pairs -/
structure LInv (ps : List (Nat × Nat)) (ls : List (Nat × Nat × Int)) (k : Nat) : Prop where
  nd : (ls.map norm).Nodup
  from_ : ∀ l ∈ ls, ∃ j, j < k ∧ ps[j]? = some (norm l)
  dl : ∀ l ∈ ls, 0 ≤ l.2.2 ∧ l.2.2 ≤ 4
  few : ls.length ≤ k
theorem LInv.nil {ps : List (Nat × Nat)} : LInv ps [] 0 := ⟨List.nodup_nil, fun p h => by (cases h), fun p h => by (cases h), Nat.le_refl _⟩
theorem LInv.skip {ps : List (Nat × Nat)} {ls : List (Nat × Nat × Int)} {k : Nat} (h : LInv ps ls k) : LInv ps ls (k + 1) :=
  ⟨h.nd, fun l hl => let ⟨j, x, y⟩ := h.from_ l hl; ⟨j, by omega, y⟩, h.dl, by have := h.few; omega⟩
theorem LInv.snoc {ps : List (Nat × Nat)} {ls : List (Nat × Nat × Int)} {k : Nat} {l : Nat × Nat × Int} (h : LInv ps ls k) (hp : ps.Nodup) (e : ps[k]? = some (norm l)) (d : 0 ≤ l.2.2 ∧ l.2.2 ≤ 4) : LInv ps (ls ++ [l]) (k + 1) := by
  refine ⟨?_, fun x hx => ?_, fun x hx => ?_, by have := h.few; rw [List.length_append, List.length_singleton]; omega⟩
  · rw [List.map_append]
    refine nd_snoc' h.nd fun m => ?_
    obtain ⟨x, hx, ex⟩ := List.mem_map.mp m
    obtain ⟨j, hj, ej⟩ := h.from_ x hx
    rw [ex] at ej
    have := nd_ix hp ej e
    omega
  · rcases List.mem_append.mp hx with q | q
    · obtain ⟨j, x1, y⟩ := h.from_ x q
      exact ⟨j, by omega, y⟩
    · rw [List.mem_singleton.mp q]
      exact ⟨k, by omega, e⟩
  · rcases List.mem_append.mp hx with q | q
    · exact h.dl x q
    · rw [List.mem_singleton.mp q]
      exact d
/-- .. and host pairs ahead of (a, b) -/
structure HInv (ks : List Bool) (ps : List (Nat × Nat)) (ls : List (Nat × Nat × Int)) (a b : Nat) : Prop where
  nd : (ls.map norm).Nodup
  from_ : ∀ l ∈ ls, norm l ∈ ps ∨ ((norm l).2 < (norm l).1 ∧ (norm l).1 < ks.length ∧ ((norm l).1 < a ∨ ((norm l).1 = a ∧ (norm l).2 < b)) ∧ ks.getD (norm l).1 true = true ∧ ks.getD (norm l).2 true = true)
  dl : ∀ l ∈ ls, 0 ≤ l.2.2 ∧ l.2.2 ≤ 4
  few : ls.length ≤ 100
theorem LInv.host {ks : List Bool} {ps : List (Nat × Nat)} {ls : List (Nat × Nat × Int)} {k : Nat} (h : LInv ps ls k) (hk : k ≤ 100) : HInv ks ps ls 0 0 :=
  ⟨h.nd, fun l hl => let ⟨j, _, y⟩ := h.from_ l hl; .inl (List.mem_of_getElem? y), h.dl, by have := h.few; omega⟩
theorem HInv.skip {ks : List Bool} {ps : List (Nat × Nat)} {ls : List (Nat × Nat × Int)} {a b : Nat} (h : HInv ks ps ls a b) : HInv ks ps ls a (b + 1) :=
  ⟨h.nd, fun l hl => (h.from_ l hl).imp id fun ⟨x, y, z, w⟩ => ⟨x, y, by omega, w⟩, h.dl, h.few⟩
theorem HInv.next {ks : List Bool} {ps : List (Nat × Nat)} {ls : List (Nat × Nat × Int)} {a b : Nat} (h : HInv ks ps ls a b) : HInv ks ps ls (a + 1) 0 :=
  ⟨h.nd, fun l hl => (h.from_ l hl).imp id fun ⟨x, y, z, w⟩ => ⟨x, y, by omega, w⟩, h.dl, h.few⟩
theorem HInv.snoc {ks : List Bool} {ps : List (Nat × Nat)} {ls : List (Nat × Nat × Int)} {a b c e : Nat} {d : Int} (h : HInv ks ps ls a b) (hp : PInv ks ps c e) (ha : a < ks.length) (hb : b < a) (h1 : ks.getD a true = true) (h2 : ks.getD b true = true) (hd : 0 ≤ d ∧ d ≤ 4) (hf : ls.length < 20) :
    HInv ks ps (ls ++ [(a, b, d)]) a (b + 1) := by
  have en : norm (a, b, d) = (a, b) := norm_gt hb
  refine ⟨?_, fun x hx => ?_, fun x hx => ?_, by rw [List.length_append, List.length_singleton]; omega⟩
  · rw [List.map_append]
    refine nd_snoc' h.nd fun m => ?_
    obtain ⟨x, hx, ex⟩ := List.mem_map.mp m
    rw [en] at ex
    rcases h.from_ x hx with q | ⟨_, _, z, _⟩
    · rw [ex] at q
      obtain ⟨_, _, _, w⟩ := hp.ok _ q
      have w' : ks.getD a true = false ∨ ks.getD b true = false := w
      rw [h1, h2] at w'
      rcases w' with w' | w' <;> cases w'
    · rw [ex] at z
      have z' : a < a ∨ (a = a ∧ b < b) := z
      omega
  · rcases List.mem_append.mp hx with q | q
    · exact (h.from_ x q).imp id fun ⟨x, y, z, w⟩ => ⟨x, y, by omega, w⟩
    · rw [List.mem_singleton.mp q, en]
      exact .inr ⟨hb, ha, .inr ⟨rfl, by show b < b + 1; omega⟩, h1, h2⟩
  · rcases List.mem_append.mp hx with q | q
    · exact h.dl x q
    · rw [List.mem_singleton.mp q]
      exact hd
theorem HInv.ok {ks : List Bool} {ps : List (Nat × Nat)} {ls : List (Nat × Nat × Int)} {a b c e : Nat} (h : HInv ks ps ls a b) (hp : PInv ks ps c e) : LsOk ks.length ls :=
  ⟨h.nd, fun l hl => by
    rcases h.from_ l hl with q | ⟨x, y, _⟩
    · obtain ⟨x, y, _⟩ := hp.ok _ q
      exact ⟨x, y⟩
    · exact ⟨x, y⟩, h.dl, h.few⟩
/-- rows as lists -/
abbrev RowsAt (H : Hp) (as : List Addr) (rs : List (List Nat)) : Prop := Paired (fun (a : Addr) (r : List Nat) => r ≠ [] ∧ H a = some (.lst (natsV r))) as rs
theorem RowsAt.mono {H H' : Hp} {as : List Addr} {rs : List (List Nat)} (h : RowsAt H as rs) (f : ∀ a r, r ≠ [] → H a = some (.lst (natsV r)) → H' a = some (.lst (natsV r))) : RowsAt H' as rs := Paired.imp h fun _ _ z => ⟨z.1, f _ _ z.1 z.2⟩
theorem RowsAt.snoc {H : Hp} {as : List Addr} {rs : List (List Nat)} {a : Addr} {r : List Nat} (h : RowsAt H as rs) (n : r ≠ []) (e : H a = some (.lst (natsV r))) : RowsAt H (as ++ [a]) (rs ++ [r]) := Paired.snoc (F := fun (a : Addr) (r : List Nat) => r ≠ [] ∧ H a = some (.lst (natsV r))) ⟨n, e⟩ h
theorem RowsAt.same {H H' : Hp} {as : List Addr} {rs : List (List Nat)} (h : RowsAt H as rs) (e : Same H H') : RowsAt H' as rs := h.mono fun _ _ _ z => e _ _ z
/-- a row's list is no list of objects -/
theorem row_ne {H : Hp} {a p : Addr} {r : List Nat} {fs : List Addr} (n : r ≠ []) (h : H a = some (.lst (natsV r))) (hp : H p = some (.lst (fs.map V.ref))) : a ≠ p := by
  refine ne_of h hp fun e => ?_
  injection e with e
  cases r with
  | nil => exact n rfl
  | cons x r =>
    cases fs with
    | nil => cases e
    | cons y t =>
      unfold natsV at e
      rw [List.map_cons, List.map_cons] at e
      injection e with e1 _
      cases e1
theorem RowsAt.but {H H' : Hp} {as fs : List Addr} {rs : List (List Nat)} {p : Addr} (h : RowsAt H as rs) (hp : H p = some (.lst (fs.map V.ref))) (e : But p H H') : RowsAt H' as rs := h.mono fun _ _ n z => e _ _ z (row_ne n z hp)
/-- the class's facts -/
structure NetC (K : PySem.W.Frag) (C : Addr) : Prop where
  cl : Cls K C
  n1 : NoAttr K C "kinds"
  n2 : NoAttr K C "lines"
  n3 : NoAttr K C "processing"
  n4 : NoAttr K C "error"
  n5 : NoAttr K C "_delays"
end My
/-! list(zip(xs, ys)) of two lists. No row. -/
namespace Zl
open PySem
/-- the zip at n + 4, its two iterators at n and n + 1, its tuples at n + 2, n + 3; a list grows at n + 5 -/
structure ZSt (n u v : Nat) (xs ys : Array Value) (h : Heap) (i : Nat) : Prop where
  pr : IsPair h (n + 2) (.ref n) (.ref (n + 1))
  a : h.IsListIter n u i
  b : h.IsListIter (n + 1) v i
  lx : h.IsList u xs
  ly : h.IsList v ys
  big : n + 5 < h.objs.size
  st : (IsZip h (n + 4) (n + 2) (n + 3) .none ∧ ∃ p q, IsPair h (n + 3) p q) ∨ ∃ (T : Addr) (f : Bool) (o : Obj), IsZipHeld h (n + 4) (n + 2) (n + 3) T f ∧ n + 5 < T ∧ h.get? T = some o
theorem ZSt.keep {n u v : Nat} {xs ys : Array Value} {h g : Heap} {i : Nat} (Z : ZSt n u v xs ys h i) (hu : u < n) (hv : v < n) (k : ∀ c o, c ≠ n + 5 → h.get? c = some o → g.get? c = some o) (sz : n + 5 < g.objs.size) : ZSt n u v xs ys g i := by
  have n1 : ∀ m : Nat, m < n + 5 → m ≠ n + 5 := fun m e => Nat.ne_of_lt e
  refine ⟨k _ _ (n1 _ (by omega)) Z.pr, Z.a.at fun o e => k _ o (n1 _ (by omega)) e, Z.b.at fun o e => k _ o (n1 _ (by omega)) e, Z.lx.at fun o e => k _ o (n1 _ (by omega)) e, Z.ly.at fun o e => k _ o (n1 _ (by omega)) e, sz, ?_⟩
  rcases Z.st with ⟨e1, p, q, e2⟩ | ⟨T, f, o, e1, e2, e3⟩
  · exact .inl ⟨k _ _ (n1 _ (by omega)) e1, p, q, k _ _ (n1 _ (by omega)) e2⟩
  · exact .inr ⟨T, f, o, k _ _ (n1 _ (by omega)) e1, e2, k _ _ (Nat.ne_of_gt e2) e3⟩
section
variable {prog : Program} {w : World} {A : Around} {E : Value → Shared → Prop} {s : Shared} {n u v : Nat} {xs ys : Array Value} {i : Nat}
theorem zst_item {x y : Value} {Q : Option Value → Shared → Prop} (hu : u < n) (hv : v < n) (Z : ZSt n u v xs ys s.heap i) (hx : xs[i]? = some x) (hy : ys[i]? = some y)
    (hQ : ∀ g, ZSt n u v xs ys g (i + 1) → IsPair g s.heap.objs.size x y → g.objs.size = s.heap.objs.size + 1 → (∀ c o, (c < n ∨ n + 5 ≤ c) → s.heap.get? c = some o → g.get? c = some o) → Q (some (.ref s.heap.objs.size)) { s with heap := g }) :
    wpAny (model prog w) A (pyNext (.ref (n + 4))) Q E s := by
  have D := PySem.W.ktu_apart n u v hu hv
  have big := Z.big
  have nn : ∀ {a b : Nat}, a < b ∨ b < a → a ≠ b := fun h e => by omega
  rcases Z.st with ⟨e1, p, q, e2⟩ | ⟨T, f, o, e1, e2, e3⟩
  · refine wpAny_pyNext_zip_item D e1 Z.pr e2 Z.a Z.b Z.lx Z.ly hx hy fun g g1 g2 g3 g4 g5 g6 k => ?_
    have k' : ∀ c o, (c < n ∨ n + 5 ≤ c) → s.heap.get? c = some o → g.get? c = some o := fun c o hc e => k c o (nn (by omega)) (nn (by omega)) (nn (by omega)) (nn (by omega)) e
    refine hQ g ⟨k _ _ (nn (by omega)) (nn (by omega)) (nn (by omega)) (nn (by omega)) Z.pr, g3, g4, Z.lx.at fun o e => k' _ o (.inl hu) e, Z.ly.at fun o e => k' _ o (.inl hv) e, by omega, .inr ⟨s.heap.objs.size, false, _, g1, big, g5⟩⟩ g5 g6 k'
  · refine wpAny_pyNext_zip_item_held D e1 e3 Z.pr Z.a Z.b Z.lx Z.ly hx hy fun g g1 g3 g4 g5 g6 k => ?_
    have k' : ∀ c o, (c < n ∨ n + 5 ≤ c) → s.heap.get? c = some o → g.get? c = some o := fun c o hc e => k c o (nn (by omega)) (nn (by omega)) (nn (by omega)) e
    refine hQ g ⟨k _ _ (nn (by omega)) (nn (by omega)) (nn (by omega)) Z.pr, g3, g4, Z.lx.at fun o e => k' _ o (.inl hu) e, Z.ly.at fun o e => k' _ o (.inl hv) e, by omega, .inr ⟨T, true, o, g1, e2, k' _ _ (.inr (by omega)) e3⟩⟩ g5 g6 k'
theorem zst_end {Q : Option Value → Shared → Prop} (hh : A.handled = none) (hu : u < n) (hv : v < n) (Z : ZSt n u v xs ys s.heap i) (hx : xs[i]? = none ∨ ys[i]? = none)
    (hQ : ∀ g, (∀ c o, (c < n ∨ n + 5 ≤ c) → s.heap.get? c = some o → g.get? c = some o) → Q none { s with heap := g }) : wpAny (model prog w) A (pyNext (.ref (n + 4))) Q E s := by
  have D := PySem.W.ktu_apart n u v hu hv
  have nn : ∀ {a b : Nat}, a < b ∨ b < a → a ≠ b := fun h e => by omega
  rcases Z.st with ⟨e1, p, q, e2⟩ | ⟨T, f, o, e1, e2, e3⟩
  · exact wpAny_pyNext_zip_end hh D e1 Z.pr e2 Z.a Z.b Z.lx Z.ly hx fun g k => hQ g fun c o hc e => k c o (nn (by omega)) (nn (by omega)) (nn (by omega)) (nn (by omega)) e
  · exact wpAny_pyNext_zip_end_held hh D e1 e3 Z.pr Z.a Z.b Z.lx Z.ly hx fun g k => hQ g fun c o hc e => k c o (nn (by omega)) (nn (by omega)) (nn (by omega)) e
end
/-- the tuples given out so far -/
structure Got (n : Nat) (xs ys : Array Value) (h : Heap) (ts : List Addr) : Prop where
  up : ts.Pairwise (· < ·)
  hi : ∀ t ∈ ts, n + 5 < t
  at_ : ∀ (j : Nat) (t : Addr), ts[j]? = some t → ∃ x y, xs[j]? = some x ∧ ys[j]? = some y ∧ IsPair h t x y
theorem Got.in_ {n : Nat} {xs ys : Array Value} {h : Heap} {ts : List Addr} (G : Got n xs ys h ts) {t : Addr} (ht : t ∈ ts) : t < h.objs.size := by
  obtain ⟨j, hj⟩ := List.mem_iff_getElem?.mp ht
  obtain ⟨_, _, _, _, e⟩ := G.at_ j t hj
  exact Heap.lt_size e
abbrev LstObj (acc : Array Value) (c : Nat) : Obj := { cls := .type "list", dict := none, data := .seq acc c, slots := #[] }
section
variable {prog : Program} {w : World} {A : Around} {s : Shared} {R : Result → Shared → Prop} {n u v : Nat} {xs ys : Array Value}
theorem loop {m : Nat} (hm : m = min xs.size ys.size) (hh : A.handled = none) (hu : u < n) (hv : v < n) (hmm : m ≤ sizeLine) (res : Value) {h₁ : Heap}
    (hR : ∀ g tk acc c ts, (∀ b o, b < n → h₁.get? b = some o → g.get? b = some o) → g.get? (n + 5) = some (LstObj acc c) → ts.length = m → Got n xs ys g ts → acc.toList = ts.map Value.ref → R (.ok (.ret res)) { s with heap := g, toks := tk }) :
    ∀ (k i : Nat) (h : Heap) (tk c : Nat) (acc : Array Value) (ts : List Addr), m - i = k → i ≤ m → ZSt n u v xs ys h i → (∀ b o, b < n → h₁.get? b = some o → h.get? b = some o) → h.get? (n + 5) = some (LstObj acc c) → acc.toList = ts.map Value.ref → ts.length = i → Got n xs ys h ts →
      codeAny (model prog w) A (.builtin "list.extend.loop" ⟨[.ref (n + 5), .ref (n + 4), res], []⟩) R { s with heap := h, toks := tk } := by
  intro k
  induction k with
  | zero =>
    intro i h tk c acc ts hk hi Z keep hS ha hl G
    refine codeAny_builtin PySem.F.entry_extend_loop ?_
    rw [Around.under_plainId PySem.F.plain_extend_loop _]
    refine wpAny_bind (zst_end (s := { s with heap := h, toks := tk }) (A := A.in1) hh hu hv Z ?_ fun g kk => ?_)
    · rcases Nat.le_total xs.size ys.size with z | z
      · exact .inl (Array.getElem?_eq_none (by omega))
      · exact .inr (Array.getElem?_eq_none (by omega))
    · refine wpAny_pure (hR g tk acc c ts (fun b o hb e => kk b o (.inl hb) (keep b o hb e)) (kk _ _ (.inr (Nat.le_refl _)) hS) (by omega) ⟨G.up, G.hi, fun j t hj => ?_⟩ ha)
      obtain ⟨x, y, e1, e2, e3⟩ := G.at_ j t hj
      exact ⟨x, y, e1, e2, kk _ _ (.inr (Nat.le_of_lt (G.hi t (List.mem_of_getElem? hj)))) e3⟩
  | succ k ih =>
    intro i h tk c acc ts hk hi Z keep hS ha hl G
    have h1 : i < xs.size := by omega
    have h2 : i < ys.size := by omega
    have sz : acc.size = i := by rw [← Array.length_toList, ha, List.length_map, hl]
    have big := Z.big
    refine codeAny_builtin PySem.F.entry_extend_loop ?_
    rw [Around.under_plainId PySem.F.plain_extend_loop _]
    refine wpAny_bind (zst_item (s := { s with heap := h, toks := tk }) hu hv Z (Array.getElem?_eq_getElem h1) (Array.getElem?_eq_getElem h2) fun g Z' hp hz kk => ?_)
    dsimp only at hp hz kk ⊢
    have hS' := kk _ _ (.inr (Nat.le_refl _)) hS
    have up : ∀ b o, b ≠ n + 5 → g.get? b = some o → (g.update (n + 5) (Obj.mapSeq (·.push (Value.ref h.objs.size)))).get? b = some o := fun b o hb e => (Heap.get?_update_other _ _ (Ne.symm hb)).trans e
    have at5 : (g.update (n + 5) (Obj.mapSeq (·.push (Value.ref h.objs.size)))).get? (n + 5) = some (LstObj (acc.push (Value.ref h.objs.size)) _) := Heap.get?_update_self _ hS' rfl
    refine wpAny_bind (wpAny_updateSeq hS' rfl (wpAny_pure ⟨plainId_quiet PySem.F.plain_extend_loop _, ih (i + 1) _ tk _ (acc.push (Value.ref h.objs.size)) (ts ++ [h.objs.size]) (by omega) (by omega)
      (Z'.keep hu hv up (Heap.lt_size at5)) (fun b o hb e => up b o (by omega) (kk b o (.inl hb) (keep b o hb e))) at5 (by rw [Array.toList_push, ha, List.map_append]; rfl) (by rw [List.length_append, hl]; rfl) ⟨?_, ?_, ?_⟩⟩) (by rw [sz]; omega) (by show (acc.push _).size ≤ sizeLine + 1; rw [Array.size_push, sz]; omega))
    · refine List.pairwise_append.mpr ⟨G.up, List.pairwise_singleton _ _, fun t ht b hb => ?_⟩
      rw [List.mem_singleton.mp hb]
      exact G.in_ ht
    · intro t ht
      rcases List.mem_append.mp ht with z | z
      · exact G.hi t z
      · rw [List.mem_singleton.mp z]; exact big
    · intro j t hj
      by_cases hjl : j < ts.length
      · rw [List.getElem?_append_left hjl] at hj
        obtain ⟨x, y, e1, e2, e3⟩ := G.at_ j t hj
        have ht := G.hi t (List.mem_of_getElem? hj)
        exact ⟨x, y, e1, e2, up _ _ (Nat.ne_of_gt ht) (kk _ _ (.inr (Nat.le_of_lt ht)) e3)⟩
      · have hj2 : j = ts.length := by
          have := (List.getElem?_eq_some_iff.mp hj).1
          rw [List.length_append, List.length_singleton] at this
          omega
        subst hj2
        have ht : h.objs.size = t := by simpa using hj
        subst ht
        exact ⟨_, _, by rw [hl]; exact Array.getElem?_eq_getElem h1, by rw [hl]; exact Array.getElem?_eq_getElem h2, up _ _ (Nat.ne_of_gt big) hp⟩
theorem no_len : typeLookup (.type "zip") "__len__" = pure none := by rw [typeLookup_type, builtinLookup_eq_fast]; kernel_rfl
theorem no_hint : typeLookup (.type "zip") "__length_hint__" = pure none := by rw [typeLookup_type, builtinLookup_eq_fast]; kernel_rfl
end
section
variable {prog : Program} {w : World} {A : Around} {E : Value → Shared → Prop} {s : Shared} {u v : Nat} {xs ys : Array Value}
theorem hint {z : Addr} (hT : s.TypeIs (.ref z) "zip") {Q : Bool → Shared → Prop} (h : Q true s) : wpAny (model prog w) A (Builtin.List.listLengthHint (.ref z)) Q E s := by
  unfold Builtin.List.listLengthHint
  refine wpAny_bind (wpAny_specialOf hT no_len ?_)
  show wpAny _ _ (specialOf (Value.ref z) (Str.ofString "__length_hint__") >>= _) _ _ _
  exact wpAny_bind (wpAny_specialOf hT no_hint (wpAny_pure h))
/-- list(z), z the zip that was just made of the lists at u and v -/
theorem call_list {n : Nat} {Q : Value → Shared → Prop} (hh : A.handled = none) (hsz : s.heap.objs.size = n + 5) (hu : u < n) (hv : v < n) (hz : IsZip s.heap (n + 4) (n + 2) (n + 3) .none) (hp : IsPair s.heap (n + 2) (.ref n) (.ref (n + 1))) (hq : ∃ p q, IsPair s.heap (n + 3) p q)
    (ha : s.heap.IsListIter n u 0) (hb : s.heap.IsListIter (n + 1) v 0) (hx : s.heap.IsList u xs) (hy : s.heap.IsList v ys) (hmm : min xs.size ys.size ≤ sizeLine)
    (hQ : ∀ g tk acc c ts, (∀ b o, b < n → s.heap.get? b = some o → g.get? b = some o) → g.get? (n + 5) = some (LstObj acc c) → ts.length = min xs.size ys.size → Got n xs ys g ts → acc.toList = ts.map Value.ref → Q (.ref (n + 5)) { s with heap := g, toks := tk }) :
    wpAny (model prog w) A (call (.type "list") [.ref (n + 4)]) Q E s := by
  refine callType_codes (Q₁ := fun obj s₁ => obj = .ref (n + 5) ∧ s₁ = { s with heap := s.heap.push (LstObj #[] 0) }) PySem.F.called_list (PySem.F.typeCall_list_1 _) PySem.F.entry_list_init (code_list_new _ ⟨by rw [hsz], rfl⟩) fun obj s₁ e => ?_
  obtain ⟨rfl, rfl⟩ := e
  have hS : (s.heap.push (LstObj #[] 0)).get? (n + 5) = some (LstObj #[] 0) := by rw [← hsz]; exact Heap.get?_push_size _ rfl
  have old : ∀ b o, s.heap.get? b = some o → (s.heap.push (LstObj #[] 0)).get? b = some o := fun b o e => Heap.get?_push_of_some _ e
  refine ⟨⟨_, hS, rfl⟩, PySem.F.args_list_init_2 _ _, ?_⟩
  show wpAny _ _ (Builtin.List.listItems (.ref (n + 5)) >>= _) _ _ _
  refine wpAny_bind ?_
  unfold Builtin.List.listItems
  refine wpAny_bind (wpAny_seqItems hS rfl (wpAny_pure ?_))
  show wpAny _ _ (updateSeq (n + 5) (fun _ => #[]) >>= fun _ => letGo (#[] : Array Value).toList.reverse >>= fun _ => Builtin.List.listExtendWith (.ref (n + 5)) (.ref (n + 4)) .none) _ _ _
  refine wpAny_bind (wpAny_updateSeq hS rfl ?_)
  have hS2 := Heap.get?_update_self (Obj.mapSeq (fun _ => (#[] : Array Value))) hS rfl
  have old2 : ∀ b o, b ≠ n + 5 → s.heap.get? b = some o → ((s.heap.push (LstObj #[] 0)).update (n + 5) (Obj.mapSeq (fun _ => (#[] : Array Value)))).get? b = some o := fun b o hb e => (Heap.get?_update_other _ _ (Ne.symm hb)).trans (old b o e)
  generalize ((s.heap.push (LstObj #[] 0)).update (n + 5) (Obj.mapSeq (fun _ => (#[] : Array Value)))) = h2 at hS2 old2 ⊢
  refine wpAny_bind (wpAny_letGo ?_)
  unfold Builtin.List.listExtendWith
  have ne4 : n + 4 ≠ n + 5 := by omega
  have hz2 : IsZip h2 (n + 4) (n + 2) (n + 3) .none := old2 _ _ ne4 hz
  refine wpAny_bind (wpAny_typeOf (T := "zip") ⟨_, hz2, rfl⟩ ?_)
  have q1 : Builtin.List.listSameRef (.ref (n + 5)) (.ref (n + 4)) = false := by simp [Builtin.List.listSameRef]
  have q2 : (Value.type "zip" == Value.type "list") = false := by decide
  have q3 : (Value.type "zip" == Value.type "tuple") = false := by decide
  simp only [q1, q2, q3, Bool.or_false, Bool.false_eq_true, if_false]
  refine wpAny_bind (wpAny_pyIter_zip hz2 (wpAny_bind (wpAny_holding (hint ⟨_, hz2, rfl⟩ ?_))))
  simp only [Bool.true_or, if_true]
  refine wpAny_bind (wpAny_rule ?_)
  refine wpAny_bind ?_
  show wpAny _ _ (updateSeq (n + 5) (·.push .none) >>= fun _ => updateSeq (n + 5) (·.pop)) _ _ _
  refine wpAny_bind (wpAny_updateSeq hS2 rfl ?_)
  have hS3 := Heap.get?_update_self (Obj.mapSeq (·.push Value.none)) hS2 rfl
  refine wpAny_updateSeq (hz := by seq_fits) hS3 rfl ?_
  have hS4 := Heap.get?_update_self (Obj.mapSeq (·.pop)) hS3 rfl
  have old4 : ∀ b o, b ≠ n + 5 → s.heap.get? b = some o → ((h2.update (n + 5) (Obj.mapSeq (·.push Value.none))).update (n + 5) (Obj.mapSeq (·.pop))).get? b = some o := fun b o hb e => (Heap.get?_update_other _ _ (Ne.symm hb)).trans ((Heap.get?_update_other _ _ (Ne.symm hb)).trans (old2 b o hb e))
  generalize ((h2.update (n + 5) (Obj.mapSeq (·.push Value.none))).update (n + 5) (Obj.mapSeq (·.pop))) = h4 at hS4 old4 ⊢
  have nn : ∀ b, b < n + 5 → b ≠ n + 5 := fun b e => Nat.ne_of_lt e
  obtain ⟨p, q, hq⟩ := hq
  refine wpAny_pure ⟨plainId_quiet PySem.F.plain_extend_loop _, loop (A := A.in1) (s := s) (R := wants (fun r s₂ => r = .none ∧ Q (.ref (n + 5)) s₂) E) (h₁ := s.heap) (m := min xs.size ys.size) rfl hh hu hv hmm .none (fun g tk acc c ts k e1 e2 e3 e4 => ⟨rfl, hQ g tk acc c ts k e1 e2 e3 e4⟩) (min xs.size ys.size) 0 h4 s.toks _ #[] [] (Nat.sub_zero _) (Nat.zero_le _)
    ⟨old4 _ _ (nn _ (by omega)) hp, ha.at fun o e => old4 _ o (nn _ (by omega)) e, hb.at fun o e => old4 _ o (nn _ (by omega)) e, hx.at fun o e => old4 _ o (nn _ (by omega)) e, hy.at fun o e => old4 _ o (nn _ (by omega)) e, Heap.lt_size hS4, .inl ⟨old4 _ _ ne4 hz, p, q, old4 _ _ (nn _ (by omega)) hq⟩⟩
    (fun b o hb e => old4 b o (nn _ (by omega)) e) hS4 rfl rfl ⟨List.Pairwise.nil, (fun t ht => by cases ht), fun j t hj => by simp at hj⟩⟩
end
end Zl
/-! list(zip(xs, ys)) as a rule of the hand layer. No row. -/
namespace Zl
open PySem PySem.Spec PyProof.Rows L2
def lay : Hp → List Addr → List (V × V) → Hp
  | H, t :: ts, z :: zs => lay (upd H t (.tup [z.1, z.2])) ts zs
  | H, _, _ => H
theorem lay_out {b : Addr} : ∀ (ts : List Addr) (zs : List (V × V)) (H : Hp), b ∉ ts → lay H ts zs b = H b
  | [], _, _, _ => rfl
  | _ :: _, [], _, _ => rfl
  | t :: ts, z :: zs, H, h => by
    rw [List.mem_cons, not_or] at h
    show lay (upd H t _) ts zs b = H b
    rw [lay_out ts zs _ h.2, upd_ne h.1]
theorem lay_in : ∀ (ts : List Addr) (zs : List (V × V)) (H : Hp), ts.length = zs.length → ts.Nodup → Paired (fun (t : Addr) (z : V × V) => lay H ts zs t = some (.tup [z.1, z.2])) ts zs
  | [], [], _, _, _ => .nil
  | [], _ :: _, _, h, _ => by cases h
  | _ :: _, [], _, h, _ => by cases h
  | t :: ts, z :: zs, H, h, hn => by
    rw [List.nodup_cons] at hn
    refine .cons ?_ (lay_in ts zs (upd H t (.tup [z.1, z.2])) (Nat.succ.inj h) hn.2)
    show lay (upd H t (.tup [z.1, z.2])) ts zs t = _
    rw [lay_out ts zs _ hn.1, upd_same]
theorem refs_vals : ∀ ts : List Addr, Vals (ts.map V.ref) (ts.map Value.ref)
  | [] => .nil
  | _ :: r => .cons rfl (refs_vals r)
theorem pair_mem {F : Addr → V × V → Prop} : ∀ {ts : List Addr} {zs : List (V × V)}, Paired F ts zs → ∀ {t : Addr}, t ∈ ts → ∃ (j : Nat) (z : V × V), ts[j]? = some t ∧ zs[j]? = some z ∧ F t z
  | _, _, .cons h r, t, ht => by
    rcases List.mem_cons.mp ht with e | ht
    · rw [e]; exact ⟨0, _, rfl, rfl, h⟩
    · obtain ⟨j, z, e1, e2, e3⟩ := pair_mem r ht
      exact ⟨j + 1, z, e1, e2, e3⟩
def tListZip (K : PySem.W.Frag) (ta : TA) : TE := fun σ H Q => ta σ H fun vs H1 => ∃ (a b : Addr) (xs ys : List V), vs = [.ref a, .ref b] ∧ SqL K H1 a xs ∧ SqL K H1 b ys ∧
  ∀ (H' : Hp) (p : Addr) (ts : List Addr), Same H1 H' → H1 p = none → H' p = some (.lst (ts.map V.ref)) → Paired (fun (t : Addr) (z : V × V) => H' t = some (.tup [z.1, z.2])) ts (xs.zip ys) → Q (.ref p) H'
section
variable {X : Cx}
theorem laid {pins : List (Addr × Obj)} {σ : L2.St} {H : Hp} {s : Shared} {g : Heap} {tk : Nat} {xs ys : List V} {us vs : List Value} {acc : Array Value} {c : Nat} {ts : List Addr} (I : Inv X pins σ H s) (hz : xs.length ≤ sizeLine) (rx : Vals xs us) (ry : Vals ys vs)
    (k : ∀ b o, b < s.heap.objs.size → s.heap.get? b = some o → g.get? b = some o) (hS : g.get? (s.heap.objs.size + 5) = some (LstObj acc c)) (hl : ts.length = min us.toArray.size vs.toArray.size) (G : Got s.heap.objs.size us.toArray vs.toArray g ts) (ha : acc.toList = ts.map Value.ref) :
    ∃ H' : Hp, Same H H' ∧ H (s.heap.objs.size + 5) = none ∧ H' (s.heap.objs.size + 5) = some (.lst (ts.map V.ref)) ∧ Paired (fun (t : Addr) (z : V × V) => H' t = some (.tup [z.1, z.2])) ts (xs.zip ys) ∧ Inv X pins σ H' { s with heap := g, toks := tk } := by
  have lx : xs.length = us.length := rx.length
  have ly : ys.length = vs.length := ry.length
  have lz : ts.length = (xs.zip ys).length := by rw [List.length_zip, lx, ly, hl, List.size_toArray, List.size_toArray]
  have nd : ts.Nodup := G.up.imp fun h => Nat.ne_of_lt h
  have pS : s.heap.objs.size + 5 ∉ ts := fun m => Nat.lt_irrefl _ (G.hi _ m)
  have new : ∀ {b : Addr}, s.heap.objs.size ≤ b → H b = none := fun h => I.hok.fresh h
  have gt : ∀ t ∈ ts, s.heap.objs.size ≤ t := fun t m => by have := G.hi t m; omega
  have old : ∀ b o, s.heap.get? b = some o → b ∉ ts ∧ b ≠ s.heap.objs.size + 5 ∧ g.get? b = some o := fun b o e => by
    have lt : b < s.heap.objs.size := Heap.lt_size e
    exact ⟨fun m => absurd (gt b m) (Nat.not_le.mpr lt), Nat.ne_of_lt (Nat.lt_of_lt_of_le lt (Nat.le_add_right _ _)), k b o lt e⟩
  have inn := lay_in ts (xs.zip ys) (upd H (s.heap.objs.size + 5) (.lst (ts.map V.ref))) lz nd
  have out : ∀ b, b ∉ ts → b ≠ s.heap.objs.size + 5 → lay (upd H (s.heap.objs.size + 5) (.lst (ts.map V.ref))) ts (xs.zip ys) b = H b := fun b h1 h2 => by rw [lay_out ts _ _ h1, upd_ne h2]
  have sm : Same H (lay (upd H (s.heap.objs.size + 5) (.lst (ts.map V.ref))) ts (xs.zip ys)) := fun b o e => by
    rw [out b (fun m => by rw [new (gt b m)] at e; cases e) fun z => by rw [z, new (Nat.le_add_right _ _)] at e; cases e]
    exact e
  have eS : lay (upd H (s.heap.objs.size + 5) (.lst (ts.map V.ref))) ts (xs.zip ys) (s.heap.objs.size + 5) = some (.lst (ts.map V.ref)) := by rw [lay_out ts _ _ pS, upd_same]
  generalize lay (upd H (s.heap.objs.size + 5) (.lst (ts.map V.ref))) ts (xs.zip ys) = H' at inn out sm eS
  have kg : ∀ b o, s.heap.get? b = some o → g.get? b = some o := fun b o e => (old b o e).2.2
  have un : Un (frs X.stack) [] H H' s.heap g :=
    { keep := fun b o q _ _ _ => kg b o q, slot := fun b o q _ _ _ => ⟨o.slots, kg b o q⟩, free := fun b o q h _ => by rw [out b (old b o q).1 (old b o q).2.1]; exact h,
      there := fun b o q _ => ⟨o, kg b o q⟩, tups := fun b _ q => sm b _ q, frzs := fun b _ _ q => sm b _ q, tbls := fun b ps q => ⟨#[], by rw [sm b _ q, Array.append_empty]⟩ }
  have hok : HOk X.prog X.w H' g := fun b u q => by
    by_cases hb : b ∈ ts
    · obtain ⟨j, z, e1, e2, e3⟩ := pair_mem inn hb
      rw [e3] at q
      cases q
      obtain ⟨x, y, f1, f2, f3⟩ := G.at_ j b e1
      obtain ⟨w1, w2⟩ := List.getElem?_zip_eq_some.mp e2
      obtain ⟨ux, g1, g2⟩ := rx.get w1
      obtain ⟨uy, g3, g4⟩ := ry.get w2
      have g1' : us.toArray[j]? = some ux := by simpa using g1
      have g3' : vs.toArray[j]? = some uy := by simpa using g3
      rw [f1] at g1'
      rw [f2] at g3'
      cases g1'
      cases g3'
      exact ⟨by show 2 ≤ sizeLine; decide, [x, y], .cons g2 (.cons g4 .nil), ⟨_, f3, rfl, _, rfl⟩⟩
    · by_cases h5 : b = s.heap.objs.size + 5
      · subst h5
        rw [eS] at q
        cases q
        refine ⟨by rw [List.length_map, lz, List.length_zip]; omega, acc.toList, c, by rw [ha]; exact refs_vals ts, ?_⟩
        rw [Array.toArray_toList]
        exact hS
      · rw [out b hb h5] at q
        exact (I.hok b u q).stay (fun d v _ y => kg d v y) (fun d y => sm d _ y) fun d _ y => sm d _ y
  exact ⟨H', sm, new (Nat.le_add_right _ _), eS, inn, I.call' (ch := []) rfl un hok I.bare fun b z => by cases z⟩
theorem pe_listZip {e1 e2 : Expr} {ta : TA} {p q cpos pos : Pos} (hc : X.calm = true) (ha : PA X [e1, e2] ta) (hg : Gl X "list") (hm : X.mg "list" = none) (hgz : Gl X "zip") (hmz : X.mg "zip" = none)
    (h1 : starEach [.Call (.Name "zip" q) [e1, e2] [] cpos] X.env = (false, eval (.Call (.Name "zip" q) [e1, e2] [] cpos) X.env) :: starEach [] X.env := by rfl)
    (h2 : starEach [e1, e2] X.env = (false, eval e1 X.env) :: starEach [e2] X.env := by rfl) (h3 : (backTo cpos (starEach [e2] X.env)).any (·.1) = false := by rfl) :
    PE X (.Call (.Name "list" p) [.Call (.Name "zip" q) [e1, e2] [] cpos] [] pos) (tListZip X.K ta) := by
  refine ⟨fun pins s σ H Q I h => ?_⟩
  refine wpAny_Call_Name_kw (ld_blt I hg hm PyProof.Rows.boot_list ?_)
  refine PyProof.Rows.callWith_type1 ?_ h1 rfl
  rw [h1]
  refine Calls.spliced_cons ?_
  refine Call_ (ld_blt I hgz hmz PyProof.Rows.boot_zip (PyProof.Rows.callWith_type1 (thn (ha.run cpos pins s σ H _ I h) fun us s1 ⟨vs, H1, I1, r1, z⟩ => ?_) h2 h3))
  obtain ⟨a, b, xs, ys, rfl, hx, hy, z⟩ := z
  cases r1 with
  | cons r rr =>
    cases rr with
    | cons r' rr =>
      cases rr
      cases r
      cases r'
      obtain ⟨its, rx, px, lx⟩ := I1.list hx
      obtain ⟨jts, ry, py, ly⟩ := I1.list hy
      refine call_zip_2 px.isList py.isList fun g hz hTI hTO i1 i2 hsz hk => ?_
      refine Calls.spliced_nil ?_
      have lim : min its.toArray.size jts.toArray.size ≤ sizeLine := by
        have e : its.length = xs.length := rx.length.symm
        rw [List.size_toArray, e]
        exact Nat.le_trans (Nat.min_le_left _ _) lx
      refine call_list (n := s1.heap.objs.size) (I1.ok.hd hc) hsz px.lt py.lt hz hTI ⟨_, _, hTO⟩ i1 i2 (px.isList.at fun o e => hk _ o e) (py.isList.at fun o e => hk _ o e) lim fun g' tk acc c ts k e1 e2 G e4 => ?_
      obtain ⟨H', q1, q2, q3, q4, J⟩ := laid (tk := tk) I1 lx rx ry (fun b o lt e => k b o lt (hk b o e)) e1 e2 G e4
      exact ⟨.ref _, H', J, rfl, z H' _ ts q1 q2 q3 q4⟩
end
end Zl
/-! == of two dicts whose keys are tuples and whose values are ints. No row. -/
namespace Dq
open PySem PySem.Spec PyProof.Rows L2
section
variable {prog : Program} {w : World} {K : Type} [DecidableEq K] {knd : HeapKind prog w K} {A : Around} {E : Value → Shared → Prop} {s : Shared}
theorem pairs_same {nm : String} {a b : Addr} {xa xb : List (K × Addr × Value)} {g : K → Bool} {Q : Bool → Shared → Prop} (hu : knd.room A) (sa : (a == sysModules) = false) (sb : (b == sysModules) = false)
    (da : s.heap.DictOfH knd a xa) (db : s.heap.DictOfH knd b xb) (g0 : ∀ x ∈ xa, atKey xb x.1 = none → g x.1 = false) (g1 : ∀ x ∈ xa, ∀ p, atKey xb x.1 = some p → SeqAt.EqAt A s x.2.2 p.2 (g x.1))
    (h : Q (xa.length == xb.length && xa.all fun x => g x.1) s) : wpAny (model prog w) A (Builtin.Dict.samePairs nm a b) Q E s := by
  obtain ⟨oa, ea, pa, ha, _, ta, la, ia, na⟩ := da
  obtain ⟨ob, eb, pb, hb, _, tb, lb, ib, nb⟩ := db
  have za : ea.size = xa.length := size_of_entries la
  have zb : eb.size = xb.length := size_of_entries lb
  unfold Builtin.Dict.samePairs Builtin.Dict.showsAll
  rw [if_neg (by rw [sa]; exact Bool.false_ne_true : ¬ (a == sysModules) = true), if_neg (by rw [sb]; exact Bool.false_ne_true : ¬ (b == sysModules) = true)]
  refine wpAny_bind (wpAny_pure (wpAny_bind (wpAny_pure (wpAny_bind (wpAny_dictEntries ha ta ?_)))))
  dsimp only
  refine wpAny_bind (wpAny_dictEntries hb tb ?_)
  by_cases hs : ea.size = eb.size
  case neg =>
    rw [if_pos (by simpa using hs)]
    have e : (xa.length == xb.length) = false := by rw [← za, ← zb]; simpa using hs
    rw [e, Bool.false_and] at h
    exact wpAny_bind (wpAny_rule (wpAny_pure h))
  case pos =>
    have e : (xa.length == xb.length) = true := by rw [← za, ← zb]; simpa using hs
    rw [e, Bool.true_and] at h
    rw [if_neg (by rw [hs]; simp)]
    refine wpAny_bind (wpAny_dictEpoch ha ta (wpAny_bind ?_))
    rw [Std.Legacy.Range.forIn_eq_forIn_range']
    simp only [Std.Legacy.Range.size, Nat.sub_zero, Nat.add_sub_cancel, Nat.div_one]
    refine wpAny_forIn_list _ (fun rest q s' => s' = s ∧ q = (none, ()) ∧ ∃ i, rest = List.range' i (ea.size - i) ∧ i ≤ ea.size ∧ ((xa.take i).all fun x => g x.1) = true) _ ?_ ?_ _ _ ⟨rfl, rfl, 0, by simp, Nat.zero_le _, rfl⟩
    · rintro x rest q s' ⟨rfl, rfl, i, hr, hi, hall⟩
      have lt : i < ea.size := by
        rcases Nat.lt_or_ge i ea.size with z | z
        · exact z
        · rw [Nat.sub_eq_zero_of_le z] at hr; cases hr
      obtain ⟨rfl, hrest⟩ : x = i ∧ rest = List.range' (i + 1) (ea.size - (i + 1)) := by
        rw [show ea.size - i = (ea.size - (i + 1)) + 1 by omega, List.range'_succ] at hr
        exact ⟨(List.cons.inj hr).1, (List.cons.inj hr).2⟩
      have lx : x < xa.length := by omega
      have ex : xa[x]? = some xa[x] := List.getElem?_eq_getElem lx
      have ee : ea[x]? = some (entryOfKey knd xa[x]) := by rw [entry_at la x, ex]; rfl
      have mx : xa[x] ∈ xa := List.getElem_mem lx
      refine wpAny_bind (wpAny_dictEntries ha ta ?_)
      rw [ee]
      have tk : xa.take (x + 1) = xa.take x ++ [xa[x]] := by rw [List.take_add_one, ex]; rfl
      have bad : g xa[x].1 = false → (xa.all fun x => g x.1) = false := fun z => by
        rw [List.all_eq_false]
        exact ⟨_, mx, by rw [z]; exact Bool.false_ne_true⟩
      refine wpAny_bind (wpAny_holding (wpAny_bind (wpAny_dictFind_heap hu (ia _ mx) hb tb lb ib nb (fun hno => ?_) fun j p hj => ?_)))
      · have z := g0 _ mx (atKey_none_of_get hno)
        rw [bad z] at h
        refine wpAny_pure ?_
        show wpAny _ _ (if (!false) = true then _ else _) _ _ _
        rw [if_pos (show (!false) = true from rfl)]
        exact wpAny_pure (wpAny_pure h)
      · have kj := atKey_of_get nb hj
        have ej : eb[j]? = some (entryOfKey knd (xa[x].1, p)) := by rw [entry_at lb j, hj]; rfl
        refine wpAny_bind (wpAny_dictEntries hb tb ?_)
        rw [ej]
        refine wpAny_holding (g1 _ mx p kj prog w _ _ ?_)
        cases ge : g xa[x].1 with
        | false =>
          rw [bad ge] at h
          show wpAny _ _ (if (!false) = true then _ else _) _ _ _
          rw [if_pos (show (!false) = true from rfl)]
          exact wpAny_pure (wpAny_pure h)
        | true =>
          show wpAny _ _ (if (!true) = true then _ else _) _ _ _
          rw [if_neg (show ¬ (!true) = true from Bool.false_ne_true)]
          refine wpAny_bind (wpAny_dictEpoch ha ta ?_)
          rw [if_neg (show ¬ (pa != pa) = true by simp)]
          refine wpAny_pure ⟨rfl, rfl, x + 1, hrest, lt, ?_⟩
          rw [tk, List.all_append, hall]
          simpa using ge
    · rintro q s' ⟨rfl, rfl, i, hr, hi, hall⟩
      have ei : i = ea.size := by
        rcases Nat.lt_or_ge i ea.size with z | z
        · rw [show ea.size - i = (ea.size - (i + 1)) + 1 by omega, List.range'_succ] at hr; cases hr
        · omega
      rw [ei, za, List.take_length] at hall
      rw [hall] at h
      exact wpAny_pure h
theorem dicts_eq {a b : Addr} {xa xb : List (K × Addr × Value)} {g : K → Bool} {Q : Value → Shared → Prop} (hu : A.units < cLine) (hroom : knd.room A.in1) (sa : (a == sysModules) = false) (sb : (b == sysModules) = false)
    (da : s.heap.DictOfH knd a xa) (db : s.heap.DictOfH knd b xb) (g0 : ∀ x ∈ xa, atKey xb x.1 = none → g x.1 = false) (g1 : ∀ x ∈ xa, ∀ p, atKey xb x.1 = some p → SeqAt.EqAt A.in1 s x.2.2 p.2 (g x.1))
    (h : Q (.bool (xa.length == xb.length && xa.all fun x => g x.1)) s) : wpAny (model prog w) A (compareOp .Eq (.ref a) (.ref b)) Q E s := by
  have ea := da.typeIs
  have eb := db.typeIs
  refine wpAny_richCompare_same_room (op := .Eq) ea eb F.slot_dict_eq (wpAny_call_entry F.slot_dict_eq ea F.entry_dict_eq ?_ (F.args_dict_eq_2 _ _)) hu
  refine wpAny_bind (m := Builtin.Dict.dictSlotArgs "__eq__" ⟨[.ref a, .ref b], []⟩) ?_
  unfold Builtin.Dict.dictSlotArgs
  refine wpAny_bind (wpAny_notOrdered_dict ea ?_)
  refine wpAny_pure (a := (Value.ref a, Value.ref b)) (wpAny_bind (wpAny_isInstance (T := "dict") eb F.sub_dict_dict ?_))
  simp only [Bool.not_true, Bool.false_eq_true, if_false]
  refine wpAny_bind (wpAny_pure (wpAny_bind (wpAny_pure (wpAny_bind (pairs_same hroom sa sb da db g0 g1 (wpAny_pure ⟨_, rfl, (fun z => by cases z), ?_⟩))))))
  simpa using h
end
/-- the values are ints -/
def IntVals (ks : List (List Key × V)) : Prop := ∀ p ∈ ks, ∃ i : Int, p.2 = .int i
def sameD (ka kb : List (List Key × V)) : Bool := ka.length == kb.length && ka.all fun p => decide (valV kb p.1 = valV ka p.1)
def rEqT : R2 := fun x y H Q => ∃ (a b : Addr) (ka kb : List (List Key × V)), x = .ref a ∧ y = .ref b ∧ H a = some (.dT ka) ∧ H b = some (.dT kb) ∧ IntVals ka ∧ IntVals kb ∧ (ka.map (·.1)).Nodup ∧ Q (.bl (sameD ka kb)) H
theorem kt_mem {H : Hp} : ∀ {ks : List (List Key × V)} {xs : List (List Key × Addr × Value)}, KT H ks xs → ∀ {x : List Key × Addr × Value}, x ∈ xs → ∃ p ∈ ks, p.1 = x.1 ∧ RelV p.2 x.2.2
  | _, _, .cons h r, x, hx => by
    rcases List.mem_cons.mp hx with e | hx
    · rw [e]; exact ⟨_, List.mem_cons_self, h.1, h.2.2⟩
    · obtain ⟨p, h1, h2⟩ := kt_mem r hx
      exact ⟨p, List.mem_cons_of_mem _ h1, h2⟩
theorem kt_all {H : Hp} {f : List Key → Bool} : ∀ {ks : List (List Key × V)} {xs : List (List Key × Addr × Value)}, KT H ks xs → (xs.all fun x => f x.1) = ks.all fun p => f p.1
  | _, _, .nil => rfl
  | _, _, .cons h r => by rw [List.all_cons, List.all_cons, kt_all r, h.1]
theorem valV_mem {kvs : List (List Key × V)} {k : List Key} {v : V} (h : valV kvs k = some v) : ∃ p ∈ kvs, p.2 = v ∧ p.1 = k := by
  unfold valV at h
  obtain ⟨p, hp, e⟩ := Option.map_eq_some_iff.mp h
  have z := List.find?_some hp
  exact ⟨p, List.mem_of_find?_eq_some hp, e, by simpa using z⟩
theorem valV_of {kvs : List (List Key × V)} (hn : (kvs.map (·.1)).Nodup) {p : List Key × V} (h : p ∈ kvs) : valV kvs p.1 = some p.2 := by
  induction kvs with
  | nil => cases h
  | cons q r ih =>
    rw [List.map_cons, List.nodup_cons] at hn
    rcases List.mem_cons.mp h with e | h
    · rw [e]; exact valV_pos rfl
    · rw [valV_neg fun z => hn.1 (by rw [z]; exact List.mem_map.mpr ⟨p, h, rfl⟩)]
      exact ih hn.2 h
theorem op_eqT {X : Cx} (hu : X.A.units + 64 < cLine) : OpR X (compareOp .Eq) rEqT := by
  intro pins s σ H x y v u Q I rx ry h
  obtain ⟨a, b, ka, kb, rfl, rfl, ha, hb, va, vb, na, q⟩ := h
  cases rx
  cases ry
  obtain ⟨_, sa, xa, ra, da⟩ := dt_of I.hok ha
  obtain ⟨_, sb, xb, rb, db⟩ := dt_of I.hok hb
  have hi : X.A.units < cLine := by omega
  have hroom : (tupleKind (mixKind X.prog X.w)).room X.A.in1 := by
    show X.A.units + 1 < cLine
    omega
  refine dicts_eq (g := fun k => decide (valV kb k = valV ka k)) hi hroom sa sb da db (fun z hz e => ?_) (fun z hz p e => ?_) ⟨.bl (sameD ka kb), H, I, ?_, q⟩
  · obtain ⟨p, hp, e1, _⟩ := kt_mem ra hz
    have r := rb.val z.1
    rw [e] at r
    have e2 : valV kb z.1 = none := by
      cases y : valV kb z.1 with
      | none => rfl
      | some y' => rw [y] at r; exact r.elim
    refine decide_eq_false ?_
    rw [e2, ← e1, valV_of na hp]
    intro y
    cases y
  · obtain ⟨p', hp, e1, e3⟩ := kt_mem ra hz
    obtain ⟨i, ei⟩ := va p' hp
    have r := rb.val z.1
    rw [e] at r
    obtain ⟨w', ew⟩ : ∃ w', valV kb z.1 = some w' := by
      cases y : valV kb z.1 with
      | none => rw [y] at r; exact r.elim
      | some y' => exact ⟨y', rfl⟩
    rw [ew] at r
    obtain ⟨q', hq', e4, _⟩ := valV_mem ew
    obtain ⟨j, ej⟩ := vb q' hq'
    have ew2 : w' = .int j := by rw [← e4, ej]
    subst ew2
    rw [ei] at e3
    obtain ⟨t, et⟩ := e3
    obtain ⟨t', et'⟩ : ∃ t' : Tok, p.2 = Value.int j t' := r
    have eg : decide (valV kb z.1 = valV ka z.1) = (i == j) := by
      rw [ew, ← e1, valV_of na hp, ei, Bool.eq_iff_iff, decide_eq_true_eq, beq_iff_eq]
      constructor
      · intro y
        injection y with y
        injection y with y
        exact y.symm
      · intro y
        rw [y]
    show SeqAt.EqAt _ _ z.2.2 p.2 (decide (valV kb z.1 = valV ka z.1))
    rw [eg, et, et']
    exact SeqAt.EqAt.int_int _ _ _ _
  · show Value.bool _ = Value.bool _
    rw [kt_all ra (f := fun k => decide (valV kb k = valV ka k)), ← ra.length, ← rb.length]
    rfl
end Dq
/-! len(set(xs)) of a list of ints: as many as there are different ones. No row. -/
namespace Ls
open PySem PySem.Spec PyProof.Rows L2
theorem met_len (ns : List Int) : ∀ k, k ≤ ns.length → (firstMet (fun i => ns.getD i 0) k).length ≤ k ∧ ((firstMet (fun i => ns.getD i 0) k).length = k ↔ (ns.take k).Nodup)
  | 0, _ => ⟨Nat.le_refl _, by simp [firstMet_zero]⟩
  | k + 1, h => by
    obtain ⟨h1, h2⟩ := met_len ns k (by omega)
    have lt : k < ns.length := h
    have e0 : ns.getD k 0 = ns[k] := My.getD_lt 0 lt
    have e1 : ns.take (k + 1) = ns.take k ++ [ns[k]] := My.take_snoc (List.getElem?_eq_getElem lt)
    have e2 : (List.range k).map (fun i => ns.getD i 0) = ns.take k := by
      apply List.ext_getElem
      · simp; omega
      · intro i q1 q2
        rw [List.getElem_map, List.getElem_range, List.getElem_take]
        exact My.getD_lt 0 (by rw [List.length_take] at q2; omega)
    have e3 : ((firstMet (fun i => ns.getD i 0) k).any fun z => z == ns[k]) = decide (ns[k] ∈ ns.take k) := by
      rw [firstMet_any, e2, Bool.eq_iff_iff, List.any_eq_true, decide_eq_true_eq]
      exact ⟨fun ⟨z, m, y⟩ => by rw [← eq_of_beq y]; exact m, fun m => ⟨_, m, beq_self_eq_true _⟩⟩
    rw [firstMet_succ, e1]
    unfold step_dedup
    rw [e0]
    have hn : (ns.take k ++ [ns[k]]).Nodup ↔ (ns.take k).Nodup ∧ ns[k] ∉ ns.take k := by
      constructor
      · intro q
        rw [List.nodup_append] at q
        exact ⟨q.1, fun m => q.2.2 _ m _ (List.mem_singleton.mpr rfl) rfl⟩
      · rintro ⟨q1, q2⟩
        exact My.nd_snoc' q1 q2
    by_cases m : ns[k] ∈ ns.take k
    · rw [if_pos (by rw [e3]; exact decide_eq_true m)]
      refine ⟨by omega, ⟨fun z => by omega, fun z => absurd m (hn.mp z).2⟩⟩
    · rw [if_neg (by rw [e3]; simpa using m), List.length_append, List.length_singleton]
      refine ⟨by omega, ⟨fun z => hn.mpr ⟨h2.mp (by omega), m⟩, fun z => by rw [h2.mpr (hn.mp z).1]⟩⟩
def tLenSet (K : PySem.W.Frag) (ta : TE) : TE := fun σ H Q => ta σ H fun x H1 => ∃ (l : Addr) (ns : List Int), x = .ref l ∧ SqL K H1 l (ns.map V.int) ∧ ns.length ≤ 4000 ∧ ∀ c : Nat, c ≤ ns.length → (c = ns.length ↔ ns.Nodup) → Q (.int (c : Int)) H1
theorem pe_lenSet {X : Cx} {e : Expr} {ta : TE} {p1 p2 q1 q2 : Pos} (hg : Gl X "len") (hm : X.mg "len" = none) (hs : Gl X "set") (ms : X.mg "set" = none) (ha : PE X e ta) (hc : X.calm = true := by rfl)
    (st : starEach [e] X.env = (false, eval e X.env) :: starEach [] X.env := by rfl) : PE X (.Call (.Name "len" p1) [.Call (.Name "set" p2) [e] [] q1] [] q2) (tLenSet X.K ta) := by
  refine ⟨fun pins s σ H Q I h => Call_ (ld_blt I hg hm boot_len (callWith_builtin1 (args_cons (Call_ (ld_blt I hs ms boot_set (callWith_type1 (args_cons (thn (ha.run pins s σ H _ I h) fun v s1 ⟨x, H1, I1, r1, z⟩ => args_nil ?_) st) st rfl))) rfl) rfl rfl))⟩
  obtain ⟨l, ns, rfl, hq, few, z⟩ := z
  cases r1
  obtain ⟨its, r, pl, _⟩ := I1.list hq
  have len : its.toArray.size = ns.length := by rw [List.size_toArray, ← r.length, List.length_map]
  obtain ⟨m1, m2⟩ := met_len ns ns.length (Nat.le_refl _)
  refine call_set_list (I1.ok.hd hc) pl.isList (by simpa using RZ.intsAre_vals r) (by rw [len]; unfold scanBound; omega) fun g tk hS hk => args_nil ?_
  rw [len] at hS
  generalize hmet : firstMet (fun i => ns.getD i 0) ns.length = mt at hS m1 m2
  obtain ⟨o, es, ep, t, ho, hex, hd, _, _, _, hf, hn⟩ := hS
  have I2 : Inv X pins σ H1 { s1 with heap := g, toks := tk } := I1.kept fun b o e => hk b o (Heap.lt_size e) e
  rw [List.take_length] at m2
  exact call_len_set ho hex hd hf (by rw [hn]; omega) ⟨.int (mt.length : Int), H1, I2.tok _, ⟨_, by rw [hn]⟩, z mt.length m1 m2⟩
end Ls
/-! A search level by level, as data. No row. -/
namespace My
open PySem PySem.Spec PyProof.Rows L2
abbrev Ways := Nat → Option (List Nat)
def setW (W : Ways) (v : Nat) (r : List Nat) : Ways := fun x => if x = v then some r else W x
def visit (u : Nat) (st : Ways × List Nat) (v : Nat) : Ways × List Nat :=
  if (st.1 v).isSome = true then st else (setW st.1 v ((st.1 u).getD [] ++ [v]), st.2 ++ [v])
def levStep (A : Nat → List Nat) (st : Ways × List Nat) : Ways × List Nat := st.2.foldl (fun s u => (A u).foldl (visit u) s) (st.1, [])
def lev (A : Nat → List Nat) (s : Nat) : Nat → Ways × List Nat
  | 0 => (fun x => if x = s then some [s] else none, [s])
  | t + 1 => levStep A (lev A s t)
theorem foldl_take {α β : Type} (f : β → α → β) {l : List α} {i : Nat} {a : α} (b : β) (h : l[i]? = some a) : (l.take (i + 1)).foldl f b = f ((l.take i).foldl f b) a := by
  rw [take_snoc h, List.foldl_append]
  rfl
theorem nodup_lt : ∀ (n : Nat) (l : List Nat), l.Nodup → (∀ x ∈ l, x < n) → l.length ≤ n
  | 0, l, _, h => by
    cases l with
    | nil => exact Nat.le_refl _
    | cons x r => exact absurd (h x List.mem_cons_self) (Nat.not_lt_zero _)
  | n + 1, l, hd, h => by
    by_cases hn : n ∈ l
    · have h1 := nodup_lt n (l.erase n) (hd.erase n) fun x hx => by
        have := (List.Nodup.mem_erase_iff hd).mp hx
        have := h x this.2
        omega
      rw [List.length_erase_of_mem hn] at h1
      omega
    · have h1 := nodup_lt n l hd fun x hx => by
        have := h x hx
        have : x ≠ n := fun z => hn (z ▸ hx)
        omega
      omega
/-- what a level's list is -/
structure Prog (n : Nat) (st : Ways × List Nat) : Prop where
  nd : st.2.Nodup
  lt : ∀ v ∈ st.2, v < n ∧ (st.1 v).isSome = true
theorem Prog.len {n : Nat} {st : Ways × List Nat} (h : Prog n st) : st.2.length ≤ n := nodup_lt n _ h.nd fun x hx => (h.lt x hx).1
theorem visit_some {u v : Nat} {st : Ways × List Nat} (h : (st.1 v).isSome = true) : visit u st v = st := if_pos h
theorem visit_none {u v : Nat} {st : Ways × List Nat} (h : ¬ (st.1 v).isSome = true) : visit u st v = (setW st.1 v ((st.1 u).getD [] ++ [v]), st.2 ++ [v]) := if_neg h
theorem visit_keep {u v x : Nat} {st : Ways × List Nat} {r : List Nat} (h : st.1 x = some r) : (visit u st v).1 x = some r := by
  by_cases e : (st.1 v).isSome = true
  · rw [visit_some e]; exact h
  · rw [visit_none e]
    show setW st.1 v _ x = some r
    unfold setW
    rw [if_neg fun z => e (by rw [← z, h]; rfl)]
    exact h
theorem Prog.visit {n u v : Nat} {st : Ways × List Nat} (h : Prog n st) (hv : v < n) : Prog n (visit u st v) := by
  by_cases e : (st.1 v).isSome = true
  · rw [visit_some e]; exact h
  · have hk : ∀ x, (st.1 x).isSome = true → ((My.visit u st v).1 x).isSome = true := fun x hx => by
      obtain ⟨r, hr⟩ := Option.isSome_iff_exists.mp hx
      rw [visit_keep hr]; rfl
    refine ⟨?_, fun x hx => ?_⟩
    · rw [visit_none e]
      exact nd_snoc' h.nd fun m => e (h.lt v m).2
    · have hx2 : x ∈ st.2 ++ [v] := by rw [visit_none e] at hx; exact hx
      rcases List.mem_append.mp hx2 with q | q
      · exact ⟨(h.lt x q).1, hk x (h.lt x q).2⟩
      · rw [List.mem_singleton.mp q]
        refine ⟨hv, ?_⟩
        rw [visit_none e]
        show (setW st.1 v _ v).isSome = true
        unfold setW
        rw [if_pos rfl]
        rfl
theorem Prog.fold {n u : Nat} : ∀ (l : List Nat) {st : Ways × List Nat}, Prog n st → (∀ v ∈ l, v < n) → Prog n (l.foldl (My.visit u) st)
  | [], _, h, _ => h
  | v :: r, _, h, hl => Prog.fold r (h.visit (hl v List.mem_cons_self)) fun x hx => hl x (List.mem_cons_of_mem _ hx)
theorem Prog.fold2 {n : Nat} {A : Nat → List Nat} : ∀ (l : List Nat) {st : Ways × List Nat}, Prog n st → (∀ u ∈ l, ∀ v ∈ A u, v < n) → Prog n (l.foldl (fun s u => (A u).foldl (My.visit u) s) st)
  | [], _, h, _ => h
  | u :: r, _, h, hl => Prog.fold2 r (h.fold (A u) (hl u List.mem_cons_self)) fun x hx => hl x (List.mem_cons_of_mem _ hx)
theorem keep_fold {u x : Nat} {r : List Nat} : ∀ (l : List Nat) {st : Ways × List Nat}, st.1 x = some r → (l.foldl (My.visit u) st).1 x = some r
  | [], _, h => h
  | v :: t, _, h => keep_fold t (visit_keep h)
theorem keep_fold2 {A : Nat → List Nat} {x : Nat} {r : List Nat} : ∀ (l : List Nat) {st : Ways × List Nat}, st.1 x = some r → (l.foldl (fun s u => (A u).foldl (My.visit u) s) st).1 x = some r
  | [], _, h => h
  | u :: t, _, h => keep_fold2 t (keep_fold (A u) h)
theorem lev_prog {A : Nat → List Nat} {s n : Nat} (hs : s < n) (hA : ∀ a, a < n → ∀ b ∈ A a, b < n) : ∀ t, Prog n (lev A s t)
  | 0 => ⟨by show [s].Nodup; simp, fun v hv => by
      have hv : v ∈ [s] := hv
      rw [List.mem_singleton.mp hv]
      exact ⟨hs, by show (if s = s then some [s] else none).isSome = true; rw [if_pos rfl]; rfl⟩⟩
  | t + 1 => by
    have ih := lev_prog hs hA t
    exact Prog.fold2 (st := ((lev A s t).1, [])) _ ⟨List.nodup_nil, fun v hv => by cases hv⟩ fun u hu => hA u (ih.lt u hu).1
theorem lev_end {A : Nat → List Nat} {s t : Nat} (h : (lev A s t).2 = []) : ∀ k, lev A s (t + k) = ((lev A s t).1, []) ∨ k = 0
  | 0 => .inr rfl
  | k + 1 => by
    refine .inl ?_
    show levStep A (lev A s (t + k)) = _
    rcases lev_end h k with e | e
    · rw [e]
      rfl
    · rw [e]
      unfold levStep
      rw [Nat.add_zero, h]
      rfl
theorem lev_same {A : Nat → List Nat} {s t T : Nat} (h : (lev A s t).2 = []) (ht : t ≤ T) : (lev A s T).1 = (lev A s t).1 := by
  obtain ⟨k, rfl⟩ : ∃ k, T = t + k := ⟨T - t, by omega⟩
  rcases lev_end h k with e | e
  · rw [e]
  · rw [e]; rfl
/-! ### how the heap bears them -/
def ArcsAt (H : Hp) (d : Addr) (A : Nat → List Nat) (n : Nat) : Prop := ∃ kvs : List (Key × V), H d = some (.dK kvs) ∧ ∀ a, a < n → ∃ l, valV kvs (Sum.inl (a : Int)) = some (.ref l) ∧ H l = some (.lst (natsV (A a)))
theorem ArcsAt.same {H H' : Hp} {d : Addr} {A : Nat → List Nat} {n : Nat} (h : ArcsAt H d A n) (e : Same H H') : ArcsAt H' d A n := by
  obtain ⟨kvs, h1, h2⟩ := h
  exact ⟨kvs, e _ _ h1, fun a ha => let ⟨l, x, y⟩ := h2 a ha; ⟨l, x, e _ _ y⟩⟩
/-- the dict of ways; no way's list is q -/
def WaysAt (H0 H : Hp) (d : Addr) (W : Ways) (m : Nat) (q : Addr) : Prop := ∃ kvs : List (Key × V), H d = some (.dK kvs) ∧ kvs.length ≤ m ∧ (∀ v, W v = none → valV kvs (Sum.inl (v : Int)) = none) ∧
  ∀ v r, W v = some r → r.length ≤ kvs.length ∧ ∃ l, valV kvs (Sum.inl (v : Int)) = some (.ref l) ∧ H l = some (.lst (natsV r)) ∧ H0 l = none ∧ l ≠ q
def WayV (H0 H : Hp) (o : Option (List Nat)) (v : V) : Prop := match o with
  | none => v = .non
  | some r => ∃ l, v = .ref l ∧ H0 l = none ∧ H l = some (.lst (natsV r))
theorem WaysAt.get {H0 H : Hp} {d : Addr} {W : Ways} {m : Nat} {q : Addr} (h : WaysAt H0 H d W m q) (v : Nat) : ∃ o, DGet H d (.int (v : Int)) o ∧ o.isSome = (W v).isSome ∧ WayV H0 H (W v) (o.getD .non) := by
  obtain ⟨kvs, h1, _, h2, h3⟩ := h
  refine ⟨valV kvs (Sum.inl (v : Int)), DGet.k (k := Sum.inl (v : Int)) h1, ?_, ?_⟩
  · cases e : W v with
    | none => rw [h2 v e]; rfl
    | some r =>
      obtain ⟨_, l, x, _⟩ := h3 v r e
      rw [x]
      rfl
  · cases e : W v with
    | none => rw [h2 v e]; rfl
    | some r =>
      obtain ⟨_, l, x, y, z, _⟩ := h3 v r e
      rw [x]
      exact ⟨l, rfl, z, y⟩
theorem WaysAt.mono {H0 H H' : Hp} {d : Addr} {W : Ways} {m : Nat} {q q' : Addr} (h : WaysAt H0 H d W m q) (hd : ∀ kvs, H d = some (.dK kvs) → H' d = some (.dK kvs)) (hl : ∀ l r, l ≠ q → H l = some (.lst (natsV r)) → H' l = some (.lst (natsV r)) ∧ l ≠ q') : WaysAt H0 H' d W m q' := by
  obtain ⟨kvs, h1, h2, h3, h4⟩ := h
  refine ⟨kvs, hd _ h1, h2, h3, fun v r e => ?_⟩
  obtain ⟨a, l, x, y, z, n⟩ := h4 v r e
  exact ⟨a, l, x, (hl l r n y).1, z, (hl l r n y).2⟩
theorem WaysAt.put {H0 H : Hp} {d : Addr} {W : Ways} {m : Nat} {q : Addr} {v : Nat} {r : List Nat} {l : Addr} {kvs : List (Key × V)} (h : WaysAt H0 H d W m q) (hd : H d = some (.dK kvs)) (hv : W v = none) (hr : r.length ≤ kvs.length + 1) (hl : H l = some (.lst (natsV r))) (h0 : H0 l = none) (hq : l ≠ q) :
    WaysAt H0 (upd H d (.dK (putK kvs (Sum.inl (v : Int)) (.ref l)))) d (setW W v r) (m + 1) q := by
  obtain ⟨kvs', h1, h2, h3, h4⟩ := h
  rw [hd] at h1
  cases h1
  have en := putK_new (V.ref l) (h3 v hv)
  have key : ∀ x : Nat, ((Sum.inl (x : Int) : Key) = Sum.inl (v : Int)) ↔ x = v := fun x => ⟨fun z => by injection z with z; omega, fun z => by rw [z]⟩
  have nd : ∀ (l' : Addr) (r' : List Nat), H l' = some (.lst (natsV r')) → l' ≠ d := fun l' r' e => ne_of e hd (by intro z; cases z)
  refine ⟨_, upd_same, by rw [en, List.length_append, List.length_singleton]; omega, fun x hx => ?_, fun x r' hx => ?_⟩
  · unfold setW at hx
    by_cases e : x = v
    · rw [if_pos e] at hx; cases hx
    · rw [if_neg e] at hx
      rw [valV_put, if_neg fun z => e ((key x).mp z)]
      exact h3 x hx
  · unfold setW at hx
    by_cases e : x = v
    · rw [if_pos e] at hx
      cases hx
      refine ⟨by rw [en, List.length_append, List.length_singleton]; exact hr, l, ?_, by rw [upd_ne (nd l r hl)]; exact hl, h0, hq⟩
      rw [valV_put, if_pos ((key x).mpr e)]
    · rw [if_neg e] at hx
      obtain ⟨a, l', x', y, z, n⟩ := h4 x r' hx
      refine ⟨by rw [en, List.length_append, List.length_singleton]; omega, l', ?_, by rw [upd_ne (nd l' r' y)]; exact y, z, n⟩
      rw [valV_put, if_neg fun z => e ((key x).mp z)]
      exact x'
end My
/-! The rows found one by one, and the search level by level: the same shortest rows. No row of Lean's, no Python. -/
namespace My
open PySem PySem.Spec PyProof.Rows L2
/-! ### order -/
def lexlt : List Nat → List Nat → Prop
  | x :: xs, y :: ys => x < y ∨ (x = y ∧ lexlt xs ys)
  | _, _ => False
theorem lex_irr : ∀ x : List Nat, ¬ lexlt x x
  | [], h => h
  | x :: xs, h => by
    rcases h with h | ⟨_, h⟩
    · omega
    · exact lex_irr xs h
theorem lex_trans : ∀ {x y z : List Nat}, lexlt x y → lexlt y z → lexlt x z
  | [], _, _, h, _ => h.elim
  | _ :: _, [], _, h, _ => h.elim
  | _ :: _, _ :: _, [], _, h => h.elim
  | a :: x, b :: y, c :: z, h1, h2 => by
    rcases h1 with h1 | ⟨e1, h1⟩ <;> rcases h2 with h2 | ⟨e2, h2⟩
    · exact .inl (by omega)
    · exact .inl (by omega)
    · exact .inl (by omega)
    · exact .inr ⟨by omega, lex_trans h1 h2⟩
theorem lex_app1 : ∀ {x y : List Nat} (s t : List Nat), lexlt x y → lexlt (x ++ s) (y ++ t)
  | [], _, _, _, h => h.elim
  | _ :: _, [], _, _, h => h.elim
  | a :: x, b :: y, s, t, h => by
    rcases h with h | ⟨e, h⟩
    · exact .inl h
    · exact .inr ⟨e, lex_app1 s t h⟩
theorem lex_app2 : ∀ (x : List Nat) {s t : List Nat}, lexlt s t → lexlt (x ++ s) (x ++ t)
  | [], _, _, h => h
  | a :: x, _, _, h => .inr ⟨rfl, lex_app2 x h⟩
theorem lex_one {b c : Nat} (h : b < c) (x : List Nat) : lexlt (x ++ [b]) (x ++ [c]) := lex_app2 x (.inl h)
/-- fewer nodes, or as many and lexicographically less -/
def rlt (x y : List Nat) : Prop := x.length < y.length ∨ (x.length = y.length ∧ lexlt x y)
def rle (x y : List Nat) : Prop := x = y ∨ rlt x y
theorem rlt_irr (x : List Nat) : ¬ rlt x x := fun h => by
  rcases h with h | ⟨_, h⟩
  · omega
  · exact lex_irr x h
theorem rlt_trans {x y z : List Nat} (h1 : rlt x y) (h2 : rlt y z) : rlt x z := by
  rcases h1 with h1 | ⟨e1, h1⟩ <;> rcases h2 with h2 | ⟨e2, h2⟩
  · exact .inl (by omega)
  · exact .inl (by omega)
  · exact .inl (by omega)
  · exact .inr ⟨by omega, lex_trans h1 h2⟩
/-! ### rows -/
inductive Row (N : NetD) (a : Nat) : List Nat → Prop
  | start : Row N a [a]
  | ext {r : List Nat} {b : Nat} : Row N a r → (r = [a] ∨ host N (lastN r) = false) → okb N r b = true → b < N.ks.length → Row N a (r ++ [b])
theorem lastN_app (r : List Nat) (b : Nat) : lastN (r ++ [b]) = b := by
  unfold lastN
  rw [List.length_append, List.length_singleton, Nat.add_sub_cancel, List.getD_eq_getElem?_getD, List.getElem?_append_right (Nat.le_refl _), Nat.sub_self]
  rfl
theorem lastN_one (a : Nat) : lastN [a] = a := rfl
theorem okb_mem {N : NetD} {r : List Nat} {b : Nat} (h : okb N r b = true) : b ∉ r ∧ adj N (lastN r) b = true := by
  unfold okb at h
  rw [Bool.and_eq_true, Bool.not_eq_true'] at h
  refine ⟨fun m => ?_, h.2⟩
  have := List.contains_iff_mem.mpr m
  rw [h.1] at this
  cases this
theorem okb_of {N : NetD} {r : List Nat} {b : Nat} (h1 : b ∉ r) (h2 : adj N (lastN r) b = true) : okb N r b = true := by
  unfold okb
  rw [Bool.and_eq_true, Bool.not_eq_true']
  refine ⟨?_, h2⟩
  cases e : r.contains b with
  | false => rfl
  | true => exact absurd (List.contains_iff_mem.mp e) h1
theorem Row.ne {N : NetD} {a : Nat} {r : List Nat} (h : Row N a r) : r ≠ [] := by
  cases h with
  | start => simp
  | ext => simp
theorem Row.pos {N : NetD} {a : Nat} {r : List Nat} (h : Row N a r) : 1 ≤ r.length := List.length_pos_iff.mpr h.ne
theorem Row.nodup {N : NetD} {a : Nat} {r : List Nat} (h : Row N a r) : r.Nodup := by
  induction h with
  | start => simp
  | ext _ _ o _ ih => exact nd_snoc' ih (okb_mem o).1
theorem Row.head {N : NetD} {a : Nat} {r : List Nat} (h : Row N a r) : r.head? = some a := by
  induction h with
  | start => rfl
  | ext h _ _ _ ih =>
    cases ‹List Nat› with
    | nil => exact absurd rfl h.ne
    | cons x t => exact ih
theorem Row.lt {N : NetD} {a : Nat} {r : List Nat} (h : Row N a r) (ha : a < N.ks.length) : ∀ x ∈ r, x < N.ks.length := by
  induction h with
  | start => intro x hx; rw [List.mem_singleton.mp hx]; exact ha
  | ext _ _ _ hb ih =>
    intro x hx
    rcases List.mem_append.mp hx with q | q
    · exact ih x q
    · rw [List.mem_singleton.mp q]; exact hb
theorem Row.mem_last {N : NetD} {a : Nat} {r : List Nat} (h : Row N a r) : lastN r ∈ r := by
  cases h with
  | start => exact List.mem_singleton.mpr rfl
  | ext => rw [lastN_app]; exact List.mem_append.mpr (.inr (List.mem_singleton.mpr rfl))
/-- a node of a row is the end of a row that is not longer -/
theorem Row.pre {N : NetD} {a : Nat} {r : List Nat} (h : Row N a r) : ∀ v ∈ r, ∃ x, Row N a x ∧ lastN x = v ∧ x.length ≤ r.length := by
  induction h with
  | start => intro v hv; exact ⟨[a], .start, (List.mem_singleton.mp hv).symm ▸ rfl, Nat.le_refl _⟩
  | @ext r b h1 h2 o hb ih =>
    intro v hv
    rcases List.mem_append.mp hv with q | q
    · obtain ⟨x, x1, x2, x3⟩ := ih v q
      exact ⟨x, x1, x2, by rw [List.length_append]; omega⟩
    · exact ⟨r ++ [b], .ext h1 h2 o hb, by rw [lastN_app, List.mem_singleton.mp q], Nat.le_refl _⟩
theorem Row.split {N : NetD} {a : Nat} {x : List Nat} (h : Row N a x) : x = [a] ∨ ∃ y b, x = y ++ [b] ∧ Row N a y ∧ (y = [a] ∨ host N (lastN y) = false) ∧ okb N y b = true ∧ b < N.ks.length := by
  cases h with
  | start => exact .inl rfl
  | ext h1 h2 o hb => exact .inr ⟨_, _, rfl, h1, h2, o, hb⟩
theorem Row.back {N : NetD} {a : Nat} {r : List Nat} (h : Row N a r) (e : lastN r = a) : r = [a] := by
  rcases h.split with z | ⟨y, b, rfl, h1, _, o, _⟩
  · exact z
  · rw [lastN_app] at e
    exact absurd (by rw [e]; exact List.mem_of_mem_head? h1.head) (okb_mem o).1
/-! ### what the law finds -/
theorem mem_rows {N : NetD} : ∀ (t : Nat) (r : List Nat), r ∈ rowsOf N t ↔ ∃ a, a < N.ks.length ∧ host N a = true ∧ Row N a r ∧ r.length = t + 1 ∧ (r = [a] ∨ host N (lastN r) = false)
  | 0, r => by
    constructor
    · intro h
      obtain ⟨a, ha, rfl⟩ := List.mem_map.mp h
      obtain ⟨h1, h2⟩ := List.mem_filter.mp ha
      exact ⟨a, List.mem_range.mp h1, h2, .start, rfl, .inl rfl⟩
    · rintro ⟨a, h1, h2, h3, h4, _⟩
      rcases h3.split with rfl | ⟨y, b, rfl, h5, _⟩
      · exact List.mem_map.mpr ⟨a, List.mem_filter.mpr ⟨List.mem_range.mpr h1, h2⟩, rfl⟩
      · have := h5.pos
        rw [List.length_append, List.length_singleton] at h4
        omega
  | t + 1, r => by
    constructor
    · intro h
      obtain ⟨y, hy, hr⟩ := List.mem_flatMap.mp h
      obtain ⟨a, h1, h2, h3, h4, h5⟩ := (mem_rows t y).mp hy
      obtain ⟨b, hb, rfl⟩ := List.mem_map.mp hr
      obtain ⟨b1, b2⟩ := List.mem_filter.mp hb
      rw [Bool.and_eq_true, Bool.not_eq_true'] at b2
      exact ⟨a, h1, h2, .ext h3 h5 b2.1 (List.mem_range.mp b1), by rw [List.length_append, h4]; rfl, .inr (by rw [lastN_app]; exact b2.2)⟩
    · rintro ⟨a, h1, h2, h3, h4, h5⟩
      rcases h3.split with rfl | ⟨y, b, rfl, h6, h7, o, hb⟩
      · cases h4
      · rw [List.length_append, List.length_singleton] at h4
        have hb2 : host N b = false := by
          rcases h5 with z | z
          · have w1 := congrArg List.length z
            rw [List.length_append, List.length_singleton, List.length_singleton] at w1
            omega
          · rw [lastN_app] at z; exact z
        exact List.mem_flatMap.mpr ⟨y, (mem_rows t y).mpr ⟨a, h1, h2, h6, by omega, h7⟩, List.mem_map.mpr ⟨b, List.mem_filter.mpr ⟨List.mem_range.mpr hb, by rw [o, hb2]; rfl⟩, rfl⟩⟩
theorem mem_found {N : NetD} : ∀ (t : Nat) (r : List Nat), r ∈ foundOf N t ↔ ∃ a, a < N.ks.length ∧ host N a = true ∧ Row N a r ∧ 2 ≤ r.length ∧ r.length ≤ t + 1 ∧ host N (lastN r) = true
  | 0, r => by
    constructor
    · intro h; cases h
    · rintro ⟨a, _, _, _, h1, h2, _⟩; omega
  | t + 1, r => by
    have ih := mem_found (N := N) t r
    constructor
    · intro h
      rcases List.mem_append.mp h with q | q
      · obtain ⟨a, h1, h2, h3, h4, h5, h6⟩ := ih.mp q
        exact ⟨a, h1, h2, h3, h4, by omega, h6⟩
      · obtain ⟨y, hy, hr⟩ := List.mem_flatMap.mp q
        obtain ⟨a, h1, h2, h3, h4, h5⟩ := (mem_rows t y).mp hy
        obtain ⟨b, hb, rfl⟩ := List.mem_map.mp hr
        obtain ⟨b1, b2⟩ := List.mem_filter.mp hb
        rw [Bool.and_eq_true] at b2
        refine ⟨a, h1, h2, .ext h3 h5 b2.1 (List.mem_range.mp b1), ?_, ?_, by rw [lastN_app]; exact b2.2⟩
        · rw [List.length_append, List.length_singleton]; omega
        · rw [List.length_append, List.length_singleton]; omega
    · rintro ⟨a, h1, h2, h3, h4, h5, h6⟩
      by_cases hl : r.length ≤ t + 1
      · exact List.mem_append.mpr (.inl (ih.mpr ⟨a, h1, h2, h3, h4, hl, h6⟩))
      · refine List.mem_append.mpr (.inr ?_)
        rcases h3.split with rfl | ⟨y, b, rfl, h7, h8, o, hb⟩
        · rw [List.length_singleton] at h4; omega
        · rw [lastN_app] at h6
          rw [List.length_append, List.length_singleton] at hl h5
          exact List.mem_flatMap.mpr ⟨y, (mem_rows t y).mpr ⟨a, h1, h2, h7, by omega, h8⟩, List.mem_map.mpr ⟨b, List.mem_filter.mpr ⟨List.mem_range.mpr hb, by rw [o, h6]; rfl⟩, rfl⟩⟩
theorem range_pw (n : Nat) : (List.range n).Pairwise (· < ·) := List.pairwise_lt_range
theorem ext_pw {p : Nat → Bool} (r : List Nat) (n : Nat) : (((List.range n).filter p).map fun b => r ++ [b]).Pairwise lexlt := by
  refine List.Pairwise.map _ (fun b c h => lex_one h r) ((range_pw n).filter p)
theorem flat_pw {f : List Nat → List (List Nat)} {l : List (List Nat)} (hl : l.Pairwise lexlt) (hf : ∀ r ∈ l, (f r).Pairwise lexlt) (hx : ∀ r, ∀ x ∈ f r, ∃ b, x = r ++ [b]) : (l.flatMap f).Pairwise lexlt := by
  rw [List.pairwise_flatMap]
  refine ⟨hf, List.Pairwise.imp (fun {r r'} h x hx1 y hy1 => ?_) hl⟩
  obtain ⟨b, rfl⟩ := hx r x hx1
  obtain ⟨c, rfl⟩ := hx r' y hy1
  exact lex_app1 _ _ h
theorem exS_ext {N : NetD} {r x : List Nat} (h : x ∈ exS N r) : ∃ b, x = r ++ [b] := by
  obtain ⟨b, _, rfl⟩ := List.mem_map.mp h
  exact ⟨b, rfl⟩
theorem exH_ext {N : NetD} {r x : List Nat} (h : x ∈ exH N r) : ∃ b, x = r ++ [b] := by
  obtain ⟨b, _, rfl⟩ := List.mem_map.mp h
  exact ⟨b, rfl⟩
theorem rows_pw {N : NetD} : ∀ t, (rowsOf N t).Pairwise lexlt
  | 0 => by
    show (((List.range N.ks.length).filter (host N)).map fun b => ([] : List Nat) ++ [b]).Pairwise lexlt
    exact ext_pw [] _
  | t + 1 => flat_pw (rows_pw t) (fun r _ => ext_pw r _) fun r x h => exS_ext h
theorem found_pw {N : NetD} : ∀ t, (foundOf N t).Pairwise rlt
  | 0 => List.Pairwise.nil
  | t + 1 => by
    show (foundOf N t ++ (rowsOf N t).flatMap (exH N)).Pairwise rlt
    have hlen : ∀ x ∈ (rowsOf N t).flatMap (exH N), x.length = t + 2 := fun x hx => by
      obtain ⟨y, hy, hr⟩ := List.mem_flatMap.mp hx
      obtain ⟨b, rfl⟩ := exH_ext hr
      rw [List.length_append, rows_row N t y hy]
      rfl
    rw [List.pairwise_append]
    refine ⟨found_pw t, ?_, fun x hx y hy => .inl ?_⟩
    · have h := flat_pw (f := exH N) (rows_pw (N := N) t) (fun r _ => ext_pw r _) fun r x h => exH_ext h
      refine List.Pairwise.imp_of_mem (fun {x y} hx hy h => .inr ⟨?_, h⟩) h
      rw [hlen x hx, hlen y hy]
    · obtain ⟨_, _, _, _, _, h5, _⟩ := (mem_found t x).mp hx
      rw [hlen y hy]
      omega
def matchP (a b : Nat) (r : List Nat) : Bool := (r.getD 0 0 == a) && (lastN r == b)
theorem row_matchP {N : NetD} {a b : Nat} {r : List Nat} (h : Row N a r) (e : lastN r = b) : matchP a b r = true := by
  unfold matchP
  rw [Bool.and_eq_true, beq_iff_eq, beq_iff_eq]
  refine ⟨?_, e⟩
  have := h.head
  cases r with
  | nil => cases this
  | cons x t => exact Option.some.inj this
theorem matchP_row {N : NetD} {a b c : Nat} {r : List Nat} (h : Row N c r) (m : matchP a b r = true) : c = a ∧ lastN r = b := by
  unfold matchP at m
  rw [Bool.and_eq_true, beq_iff_eq, beq_iff_eq] at m
  refine ⟨?_, m.2⟩
  have := h.head
  have m1 := m.1
  cases r with
  | nil => cases this
  | cons x t =>
    have e : x = c := Option.some.inj this
    rw [← e]
    exact m1
theorem find_first {l : List (List Nat)} {p : List Nat → Bool} {r : List Nat} (hs : l.Pairwise rlt) (hr : r ∈ l) (hp : p r = true) (hmin : ∀ x ∈ l, p x = true → rle r x) : l.find? p = some r := by
  induction l with
  | nil => cases hr
  | cons x t ih =>
    rw [List.find?_cons]
    rw [List.pairwise_cons] at hs
    cases hx : p x with
    | true =>
      show some x = some r
      rcases hmin x List.mem_cons_self hx with e | e
      · rw [e]
      · rcases List.mem_cons.mp hr with q | q
        · rw [q]
        · exact absurd (rlt_trans e (hs.1 r q)) (rlt_irr r)
    | false =>
      show t.find? p = some r
      rcases List.mem_cons.mp hr with q | q
      · rw [q, hx] at hp; cases hp
      · exact ih hs.2 q fun y hy => hmin y (List.mem_cons_of_mem _ hy)
end My
/-! The search level by level gives the least of the shortest rows. -/
namespace My
open PySem PySem.Spec PyProof.Rows L2
/-- a level's fold, pair by pair -/
def pairsOf (A : Nat → List Nat) (L : List Nat) : List (Nat × Nat) := L.flatMap fun u => (A u).map fun v => (u, v)
def visitP (st : Ways × List Nat) (p : Nat × Nat) : Ways × List Nat := visit p.1 st p.2
theorem foldl_pairs1 (u : Nat) : ∀ (l : List Nat) (st : Ways × List Nat), l.foldl (visit u) st = (l.map fun v => (u, v)).foldl visitP st
  | [], _ => rfl
  | v :: r, st => foldl_pairs1 u r (visit u st v)
theorem foldl_pairs (A : Nat → List Nat) : ∀ (L : List Nat) (st : Ways × List Nat), L.foldl (fun s u => (A u).foldl (visit u) s) st = (pairsOf A L).foldl visitP st
  | [], _ => rfl
  | u :: r, st => by
    show r.foldl _ ((A u).foldl (visit u) st) = _
    rw [foldl_pairs A r, foldl_pairs1]
    show _ = (((A u).map fun v => (u, v)) ++ pairsOf A r).foldl visitP st
    rw [List.foldl_append]
/-- the way that a pair gives -/
def wayP (W : Ways) (p : Nat × Nat) : List Nat := (W p.1).getD [] ++ [p.2]
/-- within a level: the pairs of `done` are through -/
structure Mid (W0 : Ways) (done : List (Nat × Nat)) (st : Ways × List Nat) : Prop where
  val : ∀ v, st.1 v = match W0 v with | some r => some r | none => (done.find? fun p => p.2 == v).map (wayP W0)
  mem : ∀ v, v ∈ st.2 ↔ W0 v = none ∧ (st.1 v).isSome = true
  ord : st.2.Pairwise fun v v' => ∀ r r', st.1 v = some r → st.1 v' = some r' → lexlt r r'
theorem Mid.start (W0 : Ways) : Mid W0 [] (W0, []) := by
  refine ⟨fun v => ?_, fun v => ⟨(fun h => by cases h), fun ⟨h1, h2⟩ => ?_⟩, List.Pairwise.nil⟩
  · show W0 v = _
    cases W0 v <;> rfl
  · have h2 : (W0 v).isSome = true := h2
    rw [h1] at h2
    cases h2
theorem Mid.step {W0 : Ways} {done : List (Nat × Nat)} {st : Ways × List Nat} {p : Nat × Nat} (h : Mid W0 done st) (hs : (done ++ [p]).Pairwise fun q q' => lexlt (wayP W0 q) (wayP W0 q')) (hu : (W0 p.1).isSome = true) : Mid W0 (done ++ [p]) (visitP st p) := by
  obtain ⟨u, v⟩ := p
  have hval := h.val v
  by_cases e : (st.1 v).isSome = true
  · have ev : visitP st (u, v) = st := visit_some e
    rw [ev]
    refine ⟨fun x => ?_, h.mem, h.ord⟩
    rw [h.val x]
    cases e0 : W0 x with
    | some r => rfl
    | none =>
      show (done.find? fun p => p.2 == x).map (wayP W0) = ((done ++ [(u, v)]).find? fun p => p.2 == x).map (wayP W0)
      rw [List.find?_append]
      cases e1 : done.find? fun p => p.2 == x with
      | some q => rfl
      | none =>
        have hx : ¬ v = x := fun z => by
          subst z
          rw [hval, e0, e1] at e
          cases e
        have : (v == x) = false := beq_eq_false_iff_ne.mpr hx
        show Option.map (wayP W0) none = Option.map (wayP W0) ([(u, v)].find? fun p => p.2 == x)
        rw [List.find?_cons, this]
        rfl
  · have en : st.1 v = none := by
      cases z : st.1 v with
      | none => rfl
      | some y => rw [z] at e; exact absurd rfl e
    have e0 : W0 v = none := by
      cases z : W0 v with
      | none => rfl
      | some y => rw [z] at hval; rw [hval] at en; cases en
    have e1 : (done.find? fun p => p.2 == v) = none := by
      rw [e0, en] at hval
      cases z : done.find? fun p => p.2 == v with
      | none => rfl
      | some y => rw [z] at hval; cases hval
    have eu : st.1 u = W0 u := by
      obtain ⟨r, hr⟩ := Option.isSome_iff_exists.mp hu
      have hr : W0 u = some r := hr
      rw [h.val u, hr]
    have ev : visitP st (u, v) = (setW st.1 v (wayP W0 (u, v)), st.2 ++ [v]) := by
      show visit u st v = _
      rw [visit_none e, eu]
      rfl
    rw [ev]
    have hne : ∀ x, x ∈ st.2 → ¬ x = v := fun x hx z => by
      have := ((h.mem x).mp hx).2
      rw [z, en] at this
      cases this
    refine ⟨fun x => ?_, fun x => ?_, ?_⟩
    · show setW st.1 v (wayP W0 (u, v)) x = _
      unfold setW
      by_cases ex : x = v
      · subst ex
        rw [if_pos rfl, e0]
        show some (wayP W0 (u, x)) = ((done ++ [(u, x)]).find? fun p => p.2 == x).map (wayP W0)
        rw [List.find?_append, e1, List.find?_cons, show (x == x) = true from beq_self_eq_true x]
        rfl
      · rw [if_neg ex, h.val x]
        cases W0 x with
        | some r => rfl
        | none =>
          show (done.find? fun p => p.2 == x).map (wayP W0) = ((done ++ [(u, v)]).find? fun p => p.2 == x).map (wayP W0)
          rw [List.find?_append]
          cases done.find? fun p => p.2 == x with
          | some q => rfl
          | none =>
            have : (v == x) = false := beq_eq_false_iff_ne.mpr fun z => ex z.symm
            show Option.map (wayP W0) none = Option.map (wayP W0) ([(u, v)].find? fun p => p.2 == x)
            rw [List.find?_cons, this]
            rfl
    · show x ∈ st.2 ++ [v] ↔ W0 x = none ∧ (setW st.1 v (wayP W0 (u, v)) x).isSome = true
      unfold setW
      rw [List.mem_append, List.mem_singleton]
      by_cases ex : x = v
      · subst ex
        rw [if_pos rfl]
        exact ⟨fun _ => ⟨e0, rfl⟩, fun _ => .inr rfl⟩
      · rw [if_neg ex, h.mem x]
        exact ⟨fun q => q.resolve_right ex, fun q => .inl q⟩
    · show (st.2 ++ [v]).Pairwise _
      rw [List.pairwise_append]
      refine ⟨List.Pairwise.imp_of_mem (fun {x y} hx hy hr r r' h1 h2 => ?_) h.ord, List.pairwise_singleton _ _, fun x hx y hy r r' h1 h2 => ?_⟩
      · have h1 : setW st.1 v (wayP W0 (u, v)) x = some r := h1
        have h2 : setW st.1 v (wayP W0 (u, v)) y = some r' := h2
        unfold setW at h1 h2
        rw [if_neg (hne x hx)] at h1
        rw [if_neg (hne y hy)] at h2
        exact hr r r' h1 h2
      · rw [List.mem_singleton.mp hy] at h2
        have h1 : setW st.1 v (wayP W0 (u, v)) x = some r := h1
        have h2 : setW st.1 v (wayP W0 (u, v)) v = some r' := h2
        unfold setW at h1 h2
        rw [if_neg (hne x hx)] at h1
        rw [if_pos rfl] at h2
        cases h2
        rw [h.val x, ((h.mem x).mp hx).1] at h1
        obtain ⟨q, hq, rfl⟩ := Option.map_eq_some_iff.mp h1
        have hqm : q ∈ done := List.mem_of_find?_eq_some hq
        rw [List.pairwise_append] at hs
        exact hs.2.2 q hqm (u, v) (List.mem_singleton.mpr rfl)
theorem Mid.fold {W0 : Ways} : ∀ (l done : List (Nat × Nat)) {st : Ways × List Nat}, Mid W0 done st → (done ++ l).Pairwise (fun q q' => lexlt (wayP W0 q) (wayP W0 q')) → (∀ p ∈ l, (W0 p.1).isSome = true) → Mid W0 (done ++ l) (l.foldl visitP st)
  | [], done, _, h, _, _ => by rw [List.append_nil]; exact h
  | p :: r, done, st, h, hs, hu => by
    have e : done ++ p :: r = (done ++ [p]) ++ r := by rw [List.append_assoc]; rfl
    rw [e] at hs ⊢
    refine Mid.fold r (done ++ [p]) (h.step ?_ (hu p List.mem_cons_self)) hs fun q hq => hu q (List.mem_cons_of_mem _ hq)
    exact (List.pairwise_append.mp hs).1
/-! ### the levels -/
def arcsOf (N : NetD) (first a : Nat) : List Nat := if decide (a = first) || !host N a then nbs N a else []
theorem arcs_pw (N : NetD) (a u : Nat) : (arcsOf N a u).Pairwise (· < ·) := by
  unfold arcsOf nbs
  split
  · exact (range_pw _).filter _
  · exact List.Pairwise.nil
theorem mem_arcs {N : NetD} {a u v : Nat} : v ∈ arcsOf N a u ↔ (u = a ∨ host N u = false) ∧ v < N.ks.length ∧ adj N u v = true := by
  unfold arcsOf nbs
  by_cases e : (decide (u = a) || !host N u) = true
  · rw [if_pos e, List.mem_filter, List.mem_range]
    rw [Bool.or_eq_true, decide_eq_true_eq, Bool.not_eq_true'] at e
    exact ⟨fun h => ⟨e, h⟩, fun h => h.2⟩
  · rw [if_neg e]
    rw [Bool.or_eq_true, decide_eq_true_eq, Bool.not_eq_true'] at e
    exact ⟨(fun h => by cases h), fun h => absurd h.1 e⟩
theorem rle_len {x y : List Nat} (h : rle x y) : x.length ≤ y.length := by
  rcases h with rfl | h | ⟨h, _⟩
  · exact Nat.le_refl _
  · omega
  · omega
structure Lv (N : NetD) (a t : Nat) (st : Ways × List Nat) : Prop where
  row : ∀ v r, st.1 v = some r → Row N a r ∧ lastN r = v ∧ r.length ≤ t + 1 ∧ ∀ x, Row N a x → lastN x = v → rle r x
  all : ∀ x, Row N a x → x.length ≤ t + 1 → (st.1 (lastN x)).isSome = true
  mem : ∀ u, u ∈ st.2 ↔ ∃ r, st.1 u = some r ∧ r.length = t + 1
  ord : st.2.Pairwise fun u u' => ∀ r r', st.1 u = some r → st.1 u' = some r' → lexlt r r'
theorem lv_zero (N : NetD) (a : Nat) : Lv N a 0 (lev (arcsOf N a) a 0) := by
  have ev : ∀ v, (lev (arcsOf N a) a 0).1 v = if v = a then some [a] else none := fun v => rfl
  refine ⟨fun v r h => ?_, fun x hx hl => ?_, fun u => ?_, List.pairwise_singleton _ _⟩
  · rw [ev] at h
    by_cases e : v = a
    · rw [if_pos e] at h
      cases h
      refine ⟨.start, e.symm ▸ rfl, Nat.le_refl _, fun x hx _ => ?_⟩
      rcases hx.split with rfl | ⟨y, b, rfl, h1, _⟩
      · exact .inl rfl
      · refine .inr (.inl ?_)
        have := h1.pos
        rw [List.length_append, List.length_singleton, List.length_singleton]
        omega
    · rw [if_neg e] at h; cases h
  · rcases hx.split with rfl | ⟨y, b, rfl, h1, _⟩
    · rw [lastN_one, ev, if_pos rfl]; rfl
    · have := h1.pos
      rw [List.length_append, List.length_singleton] at hl
      omega
  · show u ∈ [a] ↔ _
    rw [List.mem_singleton]
    constructor
    · intro e
      exact ⟨[a], by rw [ev, if_pos e], rfl⟩
    · rintro ⟨r, h, _⟩
      rw [ev] at h
      by_cases e : u = a
      · exact e
      · rw [if_neg e] at h; cases h
theorem mem_pairs {A : Nat → List Nat} {L : List Nat} {p : Nat × Nat} : p ∈ pairsOf A L ↔ p.1 ∈ L ∧ p.2 ∈ A p.1 := by
  unfold pairsOf
  rw [List.mem_flatMap]
  constructor
  · rintro ⟨u, hu, h⟩
    obtain ⟨v, hv, rfl⟩ := List.mem_map.mp h
    exact ⟨hu, hv⟩
  · rintro ⟨h1, h2⟩
    exact ⟨p.1, h1, List.mem_map.mpr ⟨p.2, h2, rfl⟩⟩
theorem pairs_pw {N : NetD} {a t : Nat} {st : Ways × List Nat} (h : Lv N a t st) : (pairsOf (arcsOf N a) st.2).Pairwise fun q q' => lexlt (wayP st.1 q) (wayP st.1 q') := by
  unfold pairsOf
  rw [List.pairwise_flatMap]
  refine ⟨fun u hu => ?_, List.Pairwise.imp_of_mem (fun {u u'} hu hu' hr p hp q hq => ?_) h.ord⟩
  · exact List.Pairwise.map _ (fun v v' hv => lex_one hv _) (arcs_pw N a u)
  · obtain ⟨v, _, rfl⟩ := List.mem_map.mp hp
    obtain ⟨v', _, rfl⟩ := List.mem_map.mp hq
    obtain ⟨r, h1, _⟩ := (h.mem u).mp hu
    obtain ⟨r', h2, _⟩ := (h.mem u').mp hu'
    unfold wayP
    show lexlt ((st.1 u).getD [] ++ [v]) ((st.1 u').getD [] ++ [v'])
    rw [h1, h2]
    exact lex_app1 _ _ (hr r r' h1 h2)
theorem find_least {W : Ways} {v : Nat} {p q : Nat × Nat} : ∀ {l : List (Nat × Nat)}, l.Pairwise (fun q q' => lexlt (wayP W q) (wayP W q')) → (l.find? fun p => p.2 == v) = some p → q ∈ l → q.2 = v → q = p ∨ lexlt (wayP W p) (wayP W q)
  | [], _, h, _, _ => by cases h
  | x :: t, hs, h, hq, e => by
    rw [List.pairwise_cons] at hs
    rw [List.find?_cons] at h
    cases hx : x.2 == v with
    | true =>
      rw [hx] at h
      cases h
      rcases List.mem_cons.mp hq with z | z
      · exact .inl z
      · exact .inr (hs.1 q z)
    | false =>
      rw [hx] at h
      rcases List.mem_cons.mp hq with z | z
      · rw [z] at e
        rw [e, beq_self_eq_true] at hx
        cases hx
      · exact find_least hs.2 h z e
theorem lv_succ {N : NetD} {a t : Nat} (ha : a < N.ks.length) (h : Lv N a t (lev (arcsOf N a) a t)) : Lv N a (t + 1) (lev (arcsOf N a) a (t + 1)) := by
  generalize hst : lev (arcsOf N a) a t = st at h
  have e1 : lev (arcsOf N a) a (t + 1) = (pairsOf (arcsOf N a) st.2).foldl visitP (st.1, []) := by
    show levStep (arcsOf N a) (lev (arcsOf N a) a t) = _
    rw [hst]
    exact foldl_pairs _ _ _
  have hL : ∀ p ∈ pairsOf (arcsOf N a) st.2, ∃ r, st.1 p.1 = some r ∧ r.length = t + 1 := fun p hp => (h.mem p.1).mp (mem_pairs.mp hp).1
  have M : Mid st.1 (pairsOf (arcsOf N a) st.2) ((pairsOf (arcsOf N a) st.2).foldl visitP (st.1, [])) := by
    have := Mid.fold (pairsOf (arcsOf N a) st.2) [] (Mid.start st.1) (by rw [List.nil_append]; exact pairs_pw h) fun p hp => by
      obtain ⟨r, hr, _⟩ := hL p hp
      rw [hr]; rfl
    rw [List.nil_append] at this
    exact this
  rw [e1]
  generalize hs2 : (pairsOf (arcsOf N a) st.2).foldl visitP (st.1, []) = st2 at M
  have hpw := pairs_pw h
  -- a node that is not yet there is in no row that is as short
  have notin : ∀ v, st.1 v = none → ∀ r, Row N a r → r.length ≤ t + 1 → v ∉ r := fun v hv r hr hl m => by
    obtain ⟨x, x1, x2, x3⟩ := hr.pre v m
    have := h.all x x1 (by omega)
    rw [x2, hv] at this
    cases this
  -- a row one longer comes from a pair
  have from_ : ∀ x, Row N a x → x.length ≤ t + 2 → st.1 (lastN x) = none → ∃ y b, x = y ++ [b] ∧ y.length = t + 1 ∧ ∃ r', st.1 (lastN y) = some r' ∧ r'.length = t + 1 ∧ rle r' y ∧ (lastN y, b) ∈ pairsOf (arcsOf N a) st.2 := fun x hx hl hv => by
    have hlen : ¬ x.length ≤ t + 1 := fun z => by
      have := h.all x hx z
      rw [hv] at this
      cases this
    rcases hx.split with rfl | ⟨y, b, rfl, y1, y2, o, hb⟩
    · rw [List.length_singleton] at hlen; omega
    · rw [List.length_append, List.length_singleton] at hl hlen
      rw [lastN_app] at hv
      have yl : y.length = t + 1 := by omega
      obtain ⟨r', hr'⟩ := Option.isSome_iff_exists.mp (h.all y y1 (by omega))
      obtain ⟨w1, w2, w3, w4⟩ := h.row _ _ hr'
      have hle := w4 y y1 rfl
      have hu : lastN y = a ∨ host N (lastN y) = false := y2.imp (fun z => by rw [z]; rfl) id
      have hadj := (okb_mem o).2
      have hr'l : r'.length = t + 1 := by
        rcases Nat.lt_or_ge r'.length (t + 1) with z | z
        · exfalso
          have hbn : b ∉ r' := notin b hv r' w1 w3
          have hx2 : Row N a (r' ++ [b]) := by
            refine .ext w1 ?_ (okb_of hbn (by rw [w2]; exact hadj)) hb
            rcases hu with q | q
            · exact .inl (w1.back (by rw [w2]; exact q))
            · exact .inr (by rw [w2]; exact q)
          have := h.all _ hx2 (by rw [List.length_append, List.length_singleton]; omega)
          rw [lastN_app, hv] at this
          cases this
        · omega
      exact ⟨y, b, rfl, yl, r', hr', hr'l, hle, mem_pairs.mpr ⟨(h.mem _).mpr ⟨r', hr', hr'l⟩, mem_arcs.mpr ⟨hu, hb, hadj⟩⟩⟩
  refine ⟨fun v r hr => ?_, fun x hx hl => ?_, fun u => ?_, M.ord⟩
  · rw [M.val v] at hr
    cases e0 : st.1 v with
    | some r0 =>
      rw [e0] at hr
      cases hr
      obtain ⟨w1, w2, w3, w4⟩ := h.row v r e0
      exact ⟨w1, w2, by omega, w4⟩
    | none =>
      rw [e0] at hr
      obtain ⟨p, hp, rfl⟩ := Option.map_eq_some_iff.mp hr
      have hpm := List.mem_of_find?_eq_some hp
      have hp2 : p.2 = v := by
        have := List.find?_some hp
        exact beq_iff_eq.mp this
      obtain ⟨ru, hru, hrul⟩ := hL p hpm
      obtain ⟨w1, w2, w3, w4⟩ := h.row p.1 ru hru
      obtain ⟨c1, c2, c3⟩ := mem_arcs.mp (mem_pairs.mp hpm).2
      have ew : wayP st.1 p = ru ++ [v] := by
        unfold wayP
        rw [hru, hp2]
        rfl
      rw [ew]
      have hvn : v ∉ ru := notin v e0 ru w1 w3
      have hrow : Row N a (ru ++ [v]) := by
        refine .ext w1 ?_ (okb_of hvn (by rw [w2, ← hp2]; exact c3)) (by rw [← hp2]; exact c2)
        rcases c1 with q | q
        · exact .inl (w1.back (by rw [w2]; exact q))
        · exact .inr (by rw [w2]; exact q)
      refine ⟨hrow, lastN_app _ _, by rw [List.length_append, List.length_singleton]; omega, fun x hx hv => ?_⟩
      by_cases hl : x.length ≤ t + 2
      · obtain ⟨y, b, rfl, yl, r', hr', hr'l, hle, hpair⟩ := from_ x hx hl (by rw [hv]; exact e0)
        rw [lastN_app] at hv
        have ewq : wayP st.1 (lastN y, b) = r' ++ [b] := by
          unfold wayP
          rw [hr']
          rfl
        have key : rle (ru ++ [v]) (r' ++ [b]) := by
          rcases find_least hpw hp hpair hv with z | z
          · rw [← ew, ← ewq, z]
            exact .inl rfl
          · rw [ew, ewq] at z
            exact .inr (.inr ⟨by rw [List.length_append, List.length_append, hrul, hr'l]; rfl, z⟩)
        have key2 : rle (r' ++ [b]) (y ++ [b]) := by
          rcases hle with z | z | ⟨_, z⟩
          · rw [z]; exact .inl rfl
          · omega
          · exact .inr (.inr ⟨by rw [List.length_append, List.length_append, yl, hr'l], lex_app1 _ _ z⟩)
        rcases key with z | z
        · rw [z]; exact key2
        · rcases key2 with z2 | z2
          · rw [← z2]; exact .inr z
          · exact .inr (rlt_trans z z2)
      · refine .inr (.inl ?_)
        rw [List.length_append, List.length_singleton]
        omega
  · rw [M.val]
    cases e0 : st.1 (lastN x) with
    | some r0 => rfl
    | none =>
      obtain ⟨y, b, rfl, yl, r', hr', hr'l, hle, hpair⟩ := from_ x hx hl e0
      rw [lastN_app]
      show (Option.map (wayP st.1) _).isSome = true
      rw [Option.isSome_map, List.find?_isSome]
      exact ⟨_, hpair, beq_iff_eq.mpr rfl⟩
  · rw [M.mem u]
    constructor
    · rintro ⟨e0, e2⟩
      have hv := M.val u
      rw [e0] at hv
      rw [hv] at e2
      obtain ⟨r, hr⟩ := Option.isSome_iff_exists.mp e2
      refine ⟨r, by rw [hv]; exact hr, ?_⟩
      obtain ⟨p, hp, rfl⟩ := Option.map_eq_some_iff.mp hr
      obtain ⟨ru, hru, hrul⟩ := hL p (List.mem_of_find?_eq_some hp)
      unfold wayP
      rw [hru, List.length_append]
      show ru.length + 1 = _
      rw [hrul]
    · rintro ⟨r, hr, hrl⟩
      refine ⟨?_, by rw [hr]; rfl⟩
      cases e0 : st.1 u with
      | none => rfl
      | some r0 =>
        have hv := M.val u
        rw [e0] at hv
        rw [hv] at hr
        cases hr
        obtain ⟨_, _, w3, _⟩ := h.row u r e0
        omega
theorem lv_all {N : NetD} {a : Nat} (ha : a < N.ks.length) : ∀ t, Lv N a t (lev (arcsOf N a) a t)
  | 0 => lv_zero N a
  | t + 1 => lv_succ ha (lv_all ha t)
/-- no level is longer than there are nodes -/
theorem lev_stop {N : NetD} {a : Nat} (ha : a < N.ks.length) : (lev (arcsOf N a) a N.ks.length).2 = [] := by
  have h := lv_all ha N.ks.length
  cases e : (lev (arcsOf N a) a N.ks.length).2 with
  | nil => rfl
  | cons u t =>
    obtain ⟨r, hr, hl⟩ := (h.mem u).mp (by rw [e]; exact List.mem_cons_self)
    obtain ⟨w1, _⟩ := h.row u r hr
    have := nodup_lt N.ks.length r w1.nodup (w1.lt ha)
    omega
/-- a row between hosts has at most two nodes more than there are switches -/
theorem nodup_sub : ∀ {l m : List Nat}, l.Nodup → (∀ x ∈ l, x ∈ m) → l.length ≤ m.length
  | [], _, _, _ => Nat.zero_le _
  | x :: l, m, hd, hs => by
    rw [List.nodup_cons] at hd
    have hx := hs x List.mem_cons_self
    have ih := nodup_sub (l := l) (m := m.erase x) hd.2 fun y hy => (List.mem_erase_of_ne (fun z => hd.1 (by rw [← z]; exact hy))).mpr (hs y (List.mem_cons_of_mem _ hy))
    rw [List.length_erase_of_mem hx] at ih
    have := List.length_pos_of_mem hx
    rw [List.length_cons]
    omega
theorem count_range (p : Nat → Bool) (ks : List Bool) (off : Nat) (hp : ∀ i, i < ks.length → p (off + i) = !(ks.getD i true)) : ((List.range' off ks.length).filter p).length = ks.count false := by
  induction ks generalizing off with
  | nil => rfl
  | cons b r ih =>
    have h0 := hp 0 (by rw [List.length_cons]; omega)
    have h0 : p off = !b := h0
    have ih := ih (off + 1) fun i hi => by
      have := hp (i + 1) (by rw [List.length_cons]; omega)
      rw [show off + 1 + i = off + (i + 1) by omega, this]
      rfl
    rw [List.length_cons, List.range'_succ, List.filter_cons, List.count_cons, h0]
    cases b with
    | true =>
      show ((List.range' (off + 1) r.length).filter p).length = _
      rw [ih]
      rfl
    | false =>
      show ((List.range' (off + 1) r.length).filter p).length + 1 = _
      rw [ih]
      rfl
theorem switches_len (N : NetD) : ((List.range N.ks.length).filter fun a => !host N a).length = N.ks.count false := by
  rw [List.range_eq_range']
  refine count_range _ N.ks 0 fun i _ => ?_
  unfold host
  rw [Nat.zero_add]
/-- all but the first and the last are switches -/
theorem Row.inner {N : NetD} {a : Nat} {r : List Nat} (h : Row N a r) (ha : a < N.ks.length) : ∃ m, (r = [a] ∧ m = []) ∨ (∃ b, r = a :: (m ++ [b])) ∧ m.Nodup ∧ ∀ x ∈ m, x < N.ks.length ∧ host N x = false := by
  induction h with
  | start => exact ⟨[], .inl ⟨rfl, rfl⟩⟩
  | @ext r b h1 h2 o hb ih =>
    obtain ⟨m, z⟩ := ih
    rcases z with ⟨z, _⟩ | ⟨⟨c, z⟩, m1, m2⟩
    · exact ⟨[], .inr ⟨⟨b, by rw [z]; rfl⟩, List.nodup_nil, fun x hx => by cases hx⟩⟩
    · refine ⟨m ++ [c], .inr ⟨⟨b, by rw [z]; rfl⟩, ?_, ?_⟩⟩
      · have := h1.nodup
        rw [z, List.nodup_cons] at this
        exact this.2
      · intro x hx
        rcases List.mem_append.mp hx with q | q
        · exact m2 x q
        · rw [List.mem_singleton.mp q]
          have hl : lastN r = c := by
            rw [z]
            exact lastN_app (a :: m) c
          refine ⟨h1.lt ha c (by rw [z]; simp), ?_⟩
          rcases h2 with y | y
          · rw [z] at y
            have := congrArg List.length y
            rw [List.length_cons, List.length_append] at this
            simp at this
          · rw [← hl]; exact y
theorem Row.short {N : NetD} {a : Nat} {r : List Nat} (h : Row N a r) (ha : a < N.ks.length) : r.length ≤ N.ks.count false + 2 := by
  obtain ⟨m, z⟩ := h.inner ha
  rcases z with ⟨z, _⟩ | ⟨⟨b, z⟩, m1, m2⟩
  · rw [z, List.length_singleton]; omega
  · have := nodup_sub (m := (List.range N.ks.length).filter fun a => !host N a) m1 fun x hx => by
      obtain ⟨y1, y2⟩ := m2 x hx
      exact List.mem_filter.mpr ⟨List.mem_range.mpr y1, by rw [y2]; rfl⟩
    rw [switches_len] at this
    rw [z, List.length_cons, List.length_append, List.length_singleton]
    omega
/-- THE POINT: the search's way is the first row found -/
theorem way_is_found {N : NetD} {a b T : Nat} (ha : a < N.ks.length) (ha2 : host N a = true) (hb : host N b = true) (hab : a ≠ b) (hT : N.ks.count false + 1 ≤ T) : (lev (arcsOf N a) a N.ks.length).1 b = (foundOf N T).find? (matchP a b) := by
  have h := lv_all ha N.ks.length
  have two : ∀ x, Row N a x → lastN x = b → 2 ≤ x.length := fun x hx e => by
    rcases hx.split with rfl | ⟨y, c, rfl, y1, _⟩
    · exact absurd e hab
    · have := y1.pos
      rw [List.length_append, List.length_singleton]
      omega
  have inF : ∀ x, Row N a x → lastN x = b → x ∈ foundOf N T := fun x hx e => by
    have := hx.short ha
    exact (mem_found _ _).mpr ⟨a, ha, ha2, hx, two x hx e, by omega, by rw [e]; exact hb⟩
  cases e : (lev (arcsOf N a) a N.ks.length).1 b with
  | none =>
    symm
    rw [List.find?_eq_none]
    intro x hx m
    obtain ⟨c, _, _, h3, _⟩ := (mem_found _ _).mp hx
    obtain ⟨rfl, e2⟩ := matchP_row h3 m
    have := h.all x h3 (by have := nodup_lt N.ks.length x h3.nodup (h3.lt ha); omega)
    rw [e2, e] at this
    cases this
  | some r =>
    obtain ⟨w1, w2, w3, w4⟩ := h.row b r e
    symm
    refine find_first (found_pw T) (inF r w1 w2) (row_matchP w1 w2) fun x hx m => ?_
    obtain ⟨c, _, _, h3, _⟩ := (mem_found _ _).mp hx
    obtain ⟨rfl, e2⟩ := matchP_row h3 m
    exact w4 x h3 e2
end My
/-! Rows as data: ==, < of pairs (len(row), row). -/
namespace My
open PySem PySem.Spec PyProof.Rows L2
def dList (r : List Nat) : PyData := .list (r.map fun (n : Nat) => PyData.int (n : Int))
def dPair (r : List Nat) : PyData := .tuple [.int ((r.length : Nat) : Int), dList r]
theorem dp_ints {K : PySem.W.Frag} {H : Hp} : ∀ r : List Nat, DpAll K H (natsV r) (r.map fun (n : Nat) => PyData.int (n : Int))
  | [] => .nil
  | n :: r => .cons (.int _) (dp_ints r)
theorem dp_list {K : PySem.W.Frag} {H : Hp} {a : Addr} {r : List Nat} (h : SqL K H a (natsV r)) : Dp K H (.ref a) (dList r) := .lst h (dp_ints r)
theorem canLay_ints : ∀ r : List Nat, PyData.canLayAll0 (r.map fun (n : Nat) => PyData.int (n : Int)) = true
  | [] => rfl
  | n :: r => by
    rw [List.map_cons, PyData.canLayAll0, canLay_ints r]
    rfl
theorem depth_ints : ∀ r : List Nat, PyData.depthAll (r.map fun (n : Nat) => PyData.int (n : Int)) = 0
  | [] => by rw [List.map_nil, PyData.depthAll]
  | n :: r => by
    rw [List.map_cons, PyData.depthAll, depth_ints r, PyData.depth]
    rfl
theorem depth_list (r : List Nat) : (dList r).depth = 1 := by
  unfold dList
  rw [PyData.depth, depth_ints]
theorem shaped_list (r : List Nat) : SeqAt.shaped (dList r) = true := by
  unfold SeqAt.shaped
  rw [depth_list]
  unfold dList
  rw [PyData.canLay0, canLay_ints]
  rfl
theorem shaped_none : SeqAt.shaped PyData.none = true := by decide +kernel
theorem eqv_list (r : List Nat) : PyData.eqv (dList r) (dList r) = true := SeqAt.eqv_refl _ (SeqAt.canLay_of_shaped (shaped_list r))
theorem eqv_none : PyData.eqv PyData.none PyData.none = true := by rw [PyData.eqv]
theorem alike_ints : ∀ r x : List Nat, PySem.W.alikeAll (r.map fun (n : Nat) => PyData.int (n : Int)) (x.map fun (n : Nat) => PyData.int (n : Int)) = true
  | [], x => by rw [List.map_nil, PySem.W.alikeAll]
  | n :: r, [] => by
    rw [List.map_cons, List.map_nil]
    rw [PySem.W.alikeAll]
  | n :: r, y :: x => by
    rw [List.map_cons, List.map_cons, PySem.W.alikeAll, alike_ints r x, PySem.W.alike]
    rfl
theorem alike_pair (r x : List Nat) : PySem.W.alike (dPair r) (dPair x) = true := by
  unfold dPair dList
  rw [PySem.W.alike, PySem.W.alikeAll, PySem.W.alikeAll, PySem.W.alikeAll, PySem.W.alike, PySem.W.alike, alike_ints]
  rfl
theorem depth_pair (r : List Nat) : (dPair r).depth = 2 := by
  unfold dPair
  rw [PyData.depth, PyData.depthAll, PyData.depthAll, PyData.depthAll, depth_list, PyData.depth]
  rfl
theorem eqv_int (i j : Int) : PyData.eqv (.int i) (.int j) = (i == j) := by rw [PyData.eqv]
theorem alike_int (i j : Int) : PySem.W.alike (.int i) (.int j) = true := by rw [PySem.W.alike]
/-- lists of ints: the greater one is not less -/
theorem ints_nlt : ∀ {b x : List Nat}, lexlt b x → PyProof.Rows.lexLt PyProof.Rows.itemOrd (PySem.W.keyToksAll (x.map fun (n : Nat) => PyData.int (n : Int))) (PySem.W.keyToksAll (b.map fun (n : Nat) => PyData.int (n : Int))) = false
  | [], _, h => h.elim
  | _ :: _, [], h => h.elim
  | n :: b, y :: x, h => by
    rw [List.map_cons, List.map_cons]
    by_cases e : y = n
    · rw [PySem.W.dataLt_all_yes (alike_int _ _) (by rw [eqv_int, e]; exact beq_self_eq_true _)]
      rcases h with h | ⟨_, h⟩
      · omega
      · exact ints_nlt h
    · rw [PySem.W.dataLt_all_no (alike_int _ _) (by rw [eqv_int]; exact beq_eq_false_iff_ne.mpr (by omega)), PySem.W.dataLt_int]
      rcases h with h | ⟨z, _⟩
      · exact decide_eq_false (by omega)
      · exact absurd z.symm e
theorem lex_len : ∀ {b x : List Nat}, lexlt b x → b.length = x.length → PyData.eqvAll (x.map fun (n : Nat) => PyData.int (n : Int)) (b.map fun (n : Nat) => PyData.int (n : Int)) = false
  | [], _, h, _ => h.elim
  | _ :: _, [], h, _ => h.elim
  | n :: b, y :: x, h, hl => by
    rw [List.map_cons, List.map_cons, PyData.eqvAll, eqv_int]
    rcases h with h | ⟨e, h⟩
    · rw [show (((y : Nat) : Int) == (n : Int)) = false from beq_eq_false_iff_ne.mpr (by omega)]
      rfl
    · rw [lex_len h (by simpa using hl), Bool.and_false]
theorem pair_nlt {b x : List Nat} (h : rlt b x) : PySem.W.dataLt (dPair x) (dPair b) = false := by
  unfold dPair
  rw [PySem.W.dataLt_tuple]
  by_cases e : x.length = b.length
  · rw [PySem.W.dataLt_all_yes (alike_int _ _) (by rw [eqv_int, e]; exact beq_self_eq_true _)]
    rcases h with h | ⟨_, h⟩
    · omega
    · have al : PySem.W.alike (dList x) (dList b) = true := by
        unfold dList
        rw [PySem.W.alike]
        exact alike_ints x b
      have ev : PyData.eqv (dList x) (dList b) = false := by
        unfold dList
        rw [PyData.eqv]
        exact lex_len h e.symm
      rw [PySem.W.dataLt_all_no al ev]
      unfold dList
      rw [PySem.W.dataLt_list]
      exact ints_nlt h
  · rw [PySem.W.dataLt_all_no (alike_int _ _) (by rw [eqv_int]; exact beq_eq_false_iff_ne.mpr (by omega)), PySem.W.dataLt_int]
    rcases h with h | ⟨z, _⟩
    · exact decide_eq_false (by omega)
    · exact absurd z.symm e
end My
/-! The dict of a net's lines as data: the same for turned lines, another one for other lines. No row. -/
namespace My
open PySem PySem.Spec PyProof.Rows L2 Dq
structure Dist (ls : List (Nat × Nat × Int)) : Prop where
  nd : (ls.map norm).Nodup
  ne : ∀ l ∈ ls, l.1 ≠ l.2.1
theorem LsOk.dist {n : Nat} {ls : List (Nat × Nat × Int)} (h : LsOk n ls) : Dist ls := ⟨h.nd, fun l hl e => by
  have := (h.bd l hl).1
  unfold norm at this
  rw [if_neg (by omega)] at this
  have : l.1 < l.2.1 := this
  omega⟩
theorem hits_of {a b : Nat} {l : Nat × Nat × Int} (h : hits a b l = true) : (l.1 = a ∧ l.2.1 = b) ∨ (l.1 = b ∧ l.2.1 = a) := by
  unfold hits at h
  rw [Bool.or_eq_true, Bool.and_eq_true, Bool.and_eq_true, decide_eq_true_eq, decide_eq_true_eq, decide_eq_true_eq, decide_eq_true_eq] at h
  exact h
theorem hits_mk {a b : Nat} {l : Nat × Nat × Int} (h : (l.1 = a ∧ l.2.1 = b) ∨ (l.1 = b ∧ l.2.1 = a)) : hits a b l = true := by
  unfold hits
  rw [Bool.or_eq_true, Bool.and_eq_true, Bool.and_eq_true, decide_eq_true_eq, decide_eq_true_eq, decide_eq_true_eq, decide_eq_true_eq]
  exact h
theorem norm_eq {l k : Nat × Nat × Int} (h : (l.1 = k.1 ∧ l.2.1 = k.2.1) ∨ (l.1 = k.2.1 ∧ l.2.1 = k.1)) : norm l = norm k := by
  unfold norm
  rcases h with ⟨e1, e2⟩ | ⟨e1, e2⟩
  · rw [e1, e2]
  · rw [e1, e2]
    by_cases z : k.1 < k.2.1
    · rw [if_pos z, if_neg (by omega)]
    · by_cases z' : k.2.1 < k.1
      · rw [if_neg z, if_pos z']
      · have e : k.1 = k.2.1 := by omega
        rw [if_neg z, if_neg z', e]
theorem hits_norm {a b : Nat} {l k : Nat × Nat × Int} (h : hits a b l = true) (h' : hits a b k = true) : norm l = norm k := by
  refine norm_eq ?_
  rcases hits_of h with ⟨e1, e2⟩ | ⟨e1, e2⟩ <;> rcases hits_of h' with ⟨e3, e4⟩ | ⟨e3, e4⟩ <;> omega
theorem nodup_inj {α β : Type} (f : α → β) : ∀ {ls : List α}, (ls.map f).Nodup → ∀ {l k : α}, l ∈ ls → k ∈ ls → f l = f k → l = k
  | [], _, _, _, h, _, _ => by cases h
  | x :: r, hn, l, k, h1, h2, e => by
    rw [List.map_cons, List.nodup_cons] at hn
    rcases List.mem_cons.mp h1 with e1 | h1 <;> rcases List.mem_cons.mp h2 with e2 | h2
    · rw [e1, e2]
    · exact absurd (List.mem_map.mpr ⟨k, h2, by rw [← e, e1]⟩) hn.1
    · exact absurd (List.mem_map.mpr ⟨l, h1, by rw [e, e2]⟩) hn.1
    · exact nodup_inj f hn.2 h1 h2 e
def two (l : Nat × Nat × Int) : List (List Key × V) := [(key2 l.1 l.2.1, .int l.2.2), (key2 l.2.1 l.1, .int l.2.2)]
def flatD (ls : List (Nat × Nat × Int)) : List (List Key × V) := ls.flatMap two
theorem flat_mem {ls : List (Nat × Nat × Int)} {p : List Key × V} : p ∈ flatD ls ↔ ∃ l ∈ ls, (p.1 = key2 l.1 l.2.1 ∨ p.1 = key2 l.2.1 l.1) ∧ p.2 = .int l.2.2 := by
  unfold flatD two
  rw [List.mem_flatMap]
  constructor
  · rintro ⟨l, hl, h⟩
    refine ⟨l, hl, ?_⟩
    rcases List.mem_cons.mp h with e | h
    · rw [e]; exact ⟨.inl rfl, rfl⟩
    · rw [List.mem_singleton.mp h]; exact ⟨.inr rfl, rfl⟩
  · rintro ⟨l, hl, h, e⟩
    refine ⟨l, hl, ?_⟩
    obtain ⟨p1, p2⟩ := p
    rcases h with h | h
    · cases h; cases e; exact List.mem_cons_self
    · cases h; cases e; exact List.mem_cons_of_mem _ (List.mem_singleton.mpr rfl)
theorem flat_none {ls : List (Nat × Nat × Int)} {a b : Nat} (h : ∀ l ∈ ls, hits a b l = false) : valV (flatD ls) (key2 a b) = none := by
  cases e : valV (flatD ls) (key2 a b) with
  | none => rfl
  | some v =>
    obtain ⟨p, hp, _, e2⟩ := valV_mem e
    obtain ⟨l, hl, h1, _⟩ := flat_mem.mp hp
    have := h l hl
    rw [hits_mk (by
      rcases h1 with h1 | h1
      · rw [e2] at h1
        obtain ⟨z1, z2⟩ := key2_inj h1
        exact .inl ⟨z1.symm, z2.symm⟩
      · rw [e2] at h1
        obtain ⟨z1, z2⟩ := key2_inj h1
        exact .inr ⟨z2.symm, z1.symm⟩)] at this
    cases this
theorem nodup_mid {xs ys : List (Nat × Nat × Int)} {l : Nat × Nat × Int} (h : Dist (xs ++ l :: ys)) : ∀ k ∈ xs, norm k ≠ norm l := by
  intro k hk e
  have := h.nd
  rw [List.map_append, List.map_cons, List.nodup_append] at this
  exact this.2.2 _ (List.mem_map.mpr ⟨k, hk, rfl⟩) _ List.mem_cons_self e
theorem fold_flat : ∀ (ys xs : List (Nat × Nat × Int)), Dist (xs ++ ys) → ys.foldl put2 (flatD xs) = flatD (xs ++ ys)
  | [], xs, _ => by rw [List.append_nil]; rfl
  | l :: ys, xs, h => by
    have hm := nodup_mid h
    have hne : l.1 ≠ l.2.1 := h.ne l (by simp)
    have n1 : valV (flatD xs) (key2 l.1 l.2.1) = none := flat_none fun k hk => by
      cases e : hits l.1 l.2.1 k with
      | false => rfl
      | true => exact absurd (hits_norm e (hits_mk (.inl ⟨rfl, rfl⟩))) (hm k hk)
    have n2 : valV (flatD xs) (key2 l.2.1 l.1) = none := flat_none fun k hk => by
      cases e : hits l.2.1 l.1 k with
      | false => rfl
      | true => exact absurd (hits_norm e (hits_mk (.inr ⟨rfl, rfl⟩))) (hm k hk)
    have e1 : put2 (flatD xs) l = flatD (xs ++ [l]) := by
      unfold put2
      rw [putK_new _ n1, putK_new _ (by
        rw [← putK_new (.int l.2.2) n1, valV_put, if_neg (fun z => hne (key2_inj z).2), n2]), List.append_assoc]
      unfold flatD
      rw [List.flatMap_append, List.flatMap_cons, List.flatMap_nil, List.append_nil]
      rfl
    rw [List.foldl_cons, e1, fold_flat ys (xs ++ [l]) (by rw [List.append_assoc]; exact h), List.append_assoc]
    rfl
theorem delays_flat {ls : List (Nat × Nat × Int)} (h : Dist ls) : delaysOf ls = flatD ls := fold_flat ls [] h
theorem flat_len : ∀ ls : List (Nat × Nat × Int), (flatD ls).length = 2 * ls.length
  | [] => rfl
  | l :: r => by
    have := flat_len r
    unfold flatD at this ⊢
    rw [List.flatMap_cons, List.length_append, this, List.length_cons]
    show 2 + 2 * r.length = _
    omega
theorem flat_ints (ls : List (Nat × Nat × Int)) : IntVals (flatD ls) := fun p hp => by
  obtain ⟨l, _, _, e⟩ := flat_mem.mp hp
  exact ⟨_, e⟩
theorem flat_nodup : ∀ {ls : List (Nat × Nat × Int)}, Dist ls → ((flatD ls).map (·.1)).Nodup
  | [], _ => List.nodup_nil
  | l :: r, h => by
    have hd : Dist r := ⟨by have := h.nd; rw [List.map_cons, List.nodup_cons] at this; exact this.2, fun k hk => h.ne k (List.mem_cons_of_mem _ hk)⟩
    have hne : l.1 ≠ l.2.1 := h.ne l List.mem_cons_self
    have hn : ∀ k ∈ r, norm k ≠ norm l := fun k hk e => by
      have := h.nd
      rw [List.map_cons, List.nodup_cons] at this
      exact this.1 (List.mem_map.mpr ⟨k, hk, e⟩)
    have out : ∀ a b : Nat, (l.1 = a ∧ l.2.1 = b) ∨ (l.1 = b ∧ l.2.1 = a) → key2 a b ∉ (flatD r).map (·.1) := fun a b hab hm => by
      obtain ⟨p, hp, e⟩ := List.mem_map.mp hm
      obtain ⟨k, hk, h1, _⟩ := flat_mem.mp hp
      refine hn k hk (hits_norm (a := a) (b := b) (hits_mk ?_) (hits_mk hab))
      rcases h1 with h1 | h1
      · rw [e] at h1
        obtain ⟨z1, z2⟩ := key2_inj h1
        exact .inl ⟨z1.symm, z2.symm⟩
      · rw [e] at h1
        obtain ⟨z1, z2⟩ := key2_inj h1
        exact .inr ⟨z2.symm, z1.symm⟩
    show (key2 l.1 l.2.1 :: key2 l.2.1 l.1 :: (flatD r).map (·.1)).Nodup
    rw [List.nodup_cons, List.nodup_cons]
    refine ⟨fun hm => ?_, out _ _ (.inr ⟨rfl, rfl⟩), flat_nodup hd⟩
    rcases List.mem_cons.mp hm with e | hm
    · exact hne (key2_inj e).1
    · exact out _ _ (.inl ⟨rfl, rfl⟩) hm
theorem flat_val {ls : List (Nat × Nat × Int)} (h : Dist ls) {l : Nat × Nat × Int} (hl : l ∈ ls) {a b : Nat} (e : hits a b l = true) : valV (flatD ls) (key2 a b) = some (.int l.2.2) := by
  have hm : (key2 a b, V.int l.2.2) ∈ flatD ls := flat_mem.mpr ⟨l, hl, by
    rcases hits_of e with ⟨e1, e2⟩ | ⟨e1, e2⟩
    · exact .inl (by rw [e1, e2])
    · exact .inr (by rw [e1, e2]), rfl⟩
  exact valV_of (flat_nodup h) hm
theorem find_one {ls : List (Nat × Nat × Int)} (h : Dist ls) {l : Nat × Nat × Int} (hl : l ∈ ls) {a b : Nat} (e : hits a b l = true) : ls.find? (hits a b) = some l := by
  cases q : ls.find? (hits a b) with
  | none => exact absurd e (by have := List.find?_eq_none.mp q l hl; exact this)
  | some k =>
    have hk := List.mem_of_find?_eq_some q
    have e' := List.find?_some q
    rw [nodup_inj norm h.nd hk hl (hits_norm e' e)]
/-- the delay by the dict is that of the first line -/
theorem val_joined {N : NetD} (h : Dist N.ls) (a b : Nat) : (valV (delaysOf N.ls) (key2 a b)).getD .non = optV (joined N a b) := by
  rw [delays_flat h]
  unfold joined
  by_cases e : ∃ l ∈ N.ls, hits a b l = true
  · obtain ⟨l, hl, e⟩ := e
    rw [flat_val h hl e, find_one h hl e]
    rfl
  · have z : ∀ l ∈ N.ls, hits a b l = false := fun l hl => by
      cases q : hits a b l with
      | false => rfl
      | true => exact absurd ⟨l, hl, q⟩ e
    rw [flat_none z, List.find?_eq_none.mpr fun l hl => by rw [z l hl]; decide]
    rfl
theorem adj_self {N : NetD} (h : Dist N.ls) (a : Nat) : adj N a a = false := by
  unfold adj
  rw [List.any_eq_false]
  intro l hl e
  have := h.ne l hl
  rcases hits_of e with ⟨e1, e2⟩ | ⟨e1, e2⟩ <;> omega
/-! ### turned lines -/
def flip (l : Nat × Nat × Int) : Nat × Nat × Int := (l.2.1, l.1, l.2.2)
def turn (ls : List (Nat × Nat × Int)) : List (Nat × Nat × Int) := (ls.map flip).reverse
theorem norm_flip (l : Nat × Nat × Int) : norm (flip l) = norm l := norm_eq (.inr ⟨rfl, rfl⟩)
theorem hits_flip (a b : Nat) (l : Nat × Nat × Int) : hits a b (flip l) = hits a b l := by
  rw [Bool.eq_iff_iff]
  constructor
  · intro h
    rcases hits_of h with ⟨e1, e2⟩ | ⟨e1, e2⟩
    · exact hits_mk (.inr ⟨e2, e1⟩)
    · exact hits_mk (.inl ⟨e2, e1⟩)
  · intro h
    rcases hits_of h with ⟨e1, e2⟩ | ⟨e1, e2⟩
    · exact hits_mk (.inr ⟨e2, e1⟩)
    · exact hits_mk (.inl ⟨e2, e1⟩)
theorem turn_mem {ls : List (Nat × Nat × Int)} {l : Nat × Nat × Int} : l ∈ turn ls ↔ ∃ k ∈ ls, flip k = l := by
  unfold turn
  rw [List.mem_reverse, List.mem_map]
theorem Dist.turn {ls : List (Nat × Nat × Int)} (h : Dist ls) : Dist (turn ls) := ⟨by
  have e : (My.turn ls).map norm = (ls.map norm).reverse := by
    unfold My.turn
    rw [List.map_reverse, List.map_map]
    congr 2
    funext l
    exact norm_flip l
  rw [e]
  exact List.pairwise_reverse.mpr (h.nd.imp fun z => z.symm), fun l hl => by
  obtain ⟨k, hk, rfl⟩ := turn_mem.mp hl
  exact (h.ne k hk).symm⟩
theorem turn_len (ls : List (Nat × Nat × Int)) : (turn ls).length = ls.length := by
  unfold turn
  rw [List.length_reverse, List.length_map]
theorem same_turn {ls : List (Nat × Nat × Int)} (h : Dist ls) : sameD (delaysOf ls) (delaysOf (turn ls)) = true := by
  rw [delays_flat h, delays_flat h.turn]
  unfold sameD
  rw [Bool.and_eq_true]
  refine ⟨by rw [flat_len, flat_len, turn_len, beq_self_eq_true], ?_⟩
  rw [List.all_eq_true]
  intro p hp
  refine decide_eq_true ?_
  have e := valV_of (flat_nodup h) hp
  obtain ⟨l, hl, h1, h2⟩ := flat_mem.mp hp
  rw [e, h2]
  have hf : flip l ∈ turn ls := turn_mem.mpr ⟨l, hl, rfl⟩
  rcases h1 with h1 | h1
  · rw [h1]
    exact flat_val h.turn hf (by rw [hits_flip]; exact hits_mk (.inl ⟨rfl, rfl⟩))
  · rw [h1]
    exact flat_val h.turn hf (by rw [hits_flip]; exact hits_mk (.inr ⟨rfl, rfl⟩))
theorem same_len {ls ks : List (Nat × Nat × Int)} (h : Dist ls) (h' : Dist ks) (e : ls.length ≠ ks.length) : sameD (delaysOf ls) (delaysOf ks) = false := by
  rw [delays_flat h, delays_flat h']
  unfold sameD
  rw [flat_len, flat_len, beq_eq_false_iff_ne.mpr (by omega)]
  rfl
theorem same_other {ls ks : List (Nat × Nat × Int)} (h : Dist ls) (h' : Dist ks) {l k : Nat × Nat × Int} (hl : l ∈ ls) (hk : k ∈ ks) {a b : Nat} (e1 : hits a b l = true) (e2 : hits a b k = true) (e : l.2.2 ≠ k.2.2) : sameD (delaysOf ls) (delaysOf ks) = false := by
  rw [delays_flat h, delays_flat h']
  have v1 := flat_val h hl e1
  have v2 := flat_val h' hk e2
  obtain ⟨p, hp, _, e4⟩ := valV_mem v1
  unfold sameD
  rw [Bool.and_eq_false_iff]
  refine .inr ?_
  rw [List.all_eq_false]
  refine ⟨p, hp, ?_⟩
  rw [e4, v1, v2]
  intro z
  have z := of_decide_eq_true z
  injection z with z
  injection z with z
  exact e z.symm
end My
/-! Paths: what they are, the rows that are found are some; when two are separate. No row of Lean's. -/
namespace My
open PySem PySem.Spec PyProof.Rows L2
structure IsP (N : NetD) (r : List Nat) : Prop where
  two : 2 ≤ r.length
  nd : r.Nodup
  hs : ∀ k, k < r.length → host N (r.getD k 0) = (decide (k = 0) || decide (k + 1 = r.length))
  ad : ∀ k, k + 1 < r.length → adj N (r.getD k 0) (r.getD (k + 1) 0) = true
theorem app_l {r : List Nat} {b k : Nat} (h : k < r.length) : (r ++ [b]).getD k 0 = r.getD k 0 := by
  rw [List.getD_eq_getElem?_getD, List.getElem?_append_left h, ← List.getD_eq_getElem?_getD]
theorem app_r {r : List Nat} {b : Nat} : (r ++ [b]).getD r.length 0 = b := by
  rw [List.getD_eq_getElem?_getD, List.getElem?_append_right (Nat.le_refl _), Nat.sub_self]
  rfl
theorem Row.mids {N : NetD} {a : Nat} {r : List Nat} (h : Row N a r) : r.getD 0 0 = a ∧ (∀ k, 0 < k → k + 1 < r.length → host N (r.getD k 0) = false) ∧ ∀ k, k + 1 < r.length → adj N (r.getD k 0) (r.getD (k + 1) 0) = true := by
  induction h with
  | start => exact ⟨rfl, fun k _ h => by (have : k + 1 < 1 := h); omega, fun k h => by (have : k + 1 < 1 := h); omega⟩
  | @ext r b h1 h2 o hb ih =>
    obtain ⟨i1, i2, i3⟩ := ih
    have hp := h1.pos
    refine ⟨by rw [app_l (by omega)]; exact i1, fun k k0 k1 => ?_, fun k k1 => ?_⟩
    · rw [List.length_append, List.length_singleton] at k1
      rw [app_l (by omega)]
      by_cases e : k + 1 < r.length
      · exact i2 k k0 e
      · have e' : k = r.length - 1 := by omega
        rcases h2 with h2 | h2
        · rw [h2] at e'
          have : k = 0 := e'
          omega
        · unfold lastN at h2
          rw [e']
          exact h2
    · rw [List.length_append, List.length_singleton] at k1
      by_cases e : k + 1 < r.length
      · rw [app_l (by omega), app_l e]
        exact i3 k e
      · have e' : k + 1 = r.length := by omega
        have e2 : k = r.length - 1 := by omega
        rw [app_l (by omega), e', app_r, e2]
        exact (okb_mem o).2
theorem found_is {N : NetD} {t : Nat} {r : List Nat} (h : r ∈ foundOf N t) : IsP N r := by
  obtain ⟨a, ha, hh, hr, h2, _, hl⟩ := (mem_found t r).mp h
  obtain ⟨i1, i2, i3⟩ := hr.mids
  refine ⟨h2, hr.nodup, fun k hk => ?_, i3⟩
  by_cases e0 : k = 0
  · rw [e0, i1, hh]; rfl
  · by_cases e1 : k + 1 = r.length
    · unfold lastN at hl
      have e : k = r.length - 1 := by omega
      rw [e, hl, decide_eq_true (by omega : r.length - 1 + 1 = r.length), Bool.or_true]
    · rw [i2 k (by omega) (by omega), decide_eq_false e0, decide_eq_false e1]; rfl
theorem found_lt {N : NetD} {t : Nat} {r : List Nat} (h : r ∈ foundOf N t) : (∀ x ∈ r, x < N.ks.length) ∧ r.length ≤ t + 1 := by
  obtain ⟨a, ha, hh, hr, h2, h3, hl⟩ := (mem_found t r).mp h
  exact ⟨hr.lt ha, h3⟩
def inner (r : List Nat) : List Nat := (r.drop 1).take (r.length - 1 - 1)
def portsOf (r : List Nat) : List (Nat × Nat) := r.zip (r.drop 1)
theorem mem_inner {r : List Nat} {x : Nat} : x ∈ inner r ↔ ∃ k, 0 < k ∧ k + 1 < r.length ∧ r.getD k 0 = x := by
  unfold inner
  constructor
  · intro h
    obtain ⟨i, e⟩ := List.mem_iff_getElem?.mp h
    rw [List.getElem?_take] at e
    split at e
    · rename_i hi
      rw [List.getElem?_drop] at e
      exact ⟨1 + i, by omega, by omega, by rw [List.getD_eq_getElem?_getD, e]; rfl⟩
    · cases e
  · rintro ⟨k, k0, k1, e⟩
    refine List.mem_iff_getElem?.mpr ⟨k - 1, ?_⟩
    rw [List.getElem?_take, if_pos (by omega), List.getElem?_drop, show 1 + (k - 1) = k by omega, getD_at 0 (by omega), e]
theorem mem_ports {r : List Nat} {p : Nat × Nat} : p ∈ portsOf r ↔ ∃ k, k + 1 < r.length ∧ p = (r.getD k 0, r.getD (k + 1) 0) := by
  unfold portsOf
  constructor
  · intro h
    obtain ⟨i, e⟩ := List.mem_iff_getElem?.mp h
    rw [List.getElem?_zip_eq_some] at e
    obtain ⟨e1, e2⟩ := e
    rw [List.getElem?_drop] at e2
    obtain ⟨h2, _⟩ := List.getElem?_eq_some_iff.mp e2
    refine ⟨i, by omega, ?_⟩
    obtain ⟨p1, p2⟩ := p
    rw [List.getD_eq_getElem?_getD, List.getD_eq_getElem?_getD, e1, Nat.add_comm i 1, e2]
    rfl
  · rintro ⟨k, hk, e⟩
    refine List.mem_iff_getElem?.mpr ⟨k, ?_⟩
    rw [List.getElem?_zip_eq_some, List.getElem?_drop, e, Nat.add_comm 1 k]
    exact ⟨getD_at 0 (by omega), getD_at 0 hk⟩
theorem ports_len (r : List Nat) : (portsOf r).length = r.length - 1 := by
  unfold portsOf
  rw [List.length_zip, List.length_drop]
  omega
theorem ports_at {r : List Nat} {k : Nat} (hk : k + 1 < r.length) : (portsOf r)[k]? = some (r.getD k 0, r.getD (k + 1) 0) := by
  unfold portsOf
  rw [List.getElem?_zip_eq_some, List.getElem?_drop, Nat.add_comm 1 k]
  exact ⟨getD_at 0 (by omega), getD_at 0 hk⟩
theorem getD_in {r : List Nat} {k : Nat} (h : k < r.length) : r.getD k 0 ∈ r := List.mem_iff_getElem?.mpr ⟨k, getD_at 0 h⟩
theorem IsP.in_inner {N : NetD} {r : List Nat} (h : IsP N r) {x : Nat} (hx : x ∈ r) (e : host N x = false) : x ∈ inner r := by
  obtain ⟨k, ek⟩ := List.mem_iff_getElem?.mp hx
  obtain ⟨hk, _⟩ := List.getElem?_eq_some_iff.mp ek
  have ex : r.getD k 0 = x := by rw [List.getD_eq_getElem?_getD, ek]; rfl
  have := h.hs k hk
  rw [ex, e] at this
  have this := this.symm
  rw [Bool.or_eq_false_iff, decide_eq_false_iff_not, decide_eq_false_iff_not] at this
  exact mem_inner.mpr ⟨k, by omega, by omega, ex⟩
theorem IsP.inner_sw {N : NetD} {r : List Nat} (h : IsP N r) {x : Nat} (hx : x ∈ inner r) : x ∈ r ∧ host N x = false := by
  obtain ⟨k, k0, k1, e⟩ := mem_inner.mp hx
  refine ⟨by rw [← e]; exact getD_in (by omega), ?_⟩
  rw [← e, h.hs k (by omega), decide_eq_false (by omega), decide_eq_false (by omega)]
  rfl
/-- a port of a path of more than two nodes has a switch in it -/
theorem IsP.port_sw {N : NetD} {r : List Nat} (h : IsP N r) (h2 : 2 < r.length) {p : Nat × Nat} (hp : p ∈ portsOf r) : (p.1 ∈ r ∧ host N p.1 = false) ∨ (p.2 ∈ r ∧ host N p.2 = false) := by
  obtain ⟨k, hk, rfl⟩ := mem_ports.mp hp
  by_cases e : k = 0
  · refine .inr ⟨getD_in hk, ?_⟩
    show host N (r.getD (k + 1) 0) = false
    rw [h.hs (k + 1) hk, decide_eq_false (by omega), decide_eq_false (by omega)]
    rfl
  · refine .inl ⟨getD_in (by omega), ?_⟩
    show host N (r.getD k 0) = false
    rw [h.hs k (by omega), decide_eq_false (by omega), decide_eq_false (by omega)]
    rfl
theorem port_both {r : List Nat} {p : Nat × Nat} (hp : p ∈ portsOf r) : p.1 ∈ r ∧ p.2 ∈ r := by
  obtain ⟨k, hk, rfl⟩ := mem_ports.mp hp
  exact ⟨getD_in (by omega), getD_in hk⟩
def sepA (r s : List Nat) : Bool := ((inner r).filter fun x => s.contains x).isEmpty && ((portsOf r).filter fun p => (portsOf s).contains p).isEmpty
def sepB (r s : List Nat) : Bool := ((inner r).all fun x => !(inner s).contains x) && (decide (2 < r.length) || decide (2 < s.length))
theorem sep_eq {N : NetD} {r s : List Nat} (hr : IsP N r) (hs : IsP N s) (e0 : r.getD 0 0 = s.getD 0 0) (e1 : lastN r = lastN s) : sepA r s = sepB r s := by
  have hA : sepA r s = true ↔ (∀ x ∈ inner r, x ∉ s) ∧ ∀ p ∈ portsOf r, p ∉ portsOf s := by
    unfold sepA
    rw [Bool.and_eq_true, List.isEmpty_iff, List.isEmpty_iff, List.filter_eq_nil_iff, List.filter_eq_nil_iff]
    simp
  have hB : sepB r s = true ↔ (∀ x ∈ inner r, x ∉ inner s) ∧ (2 < r.length ∨ 2 < s.length) := by
    unfold sepB
    rw [Bool.and_eq_true, List.all_eq_true, Bool.or_eq_true, decide_eq_true_eq, decide_eq_true_eq]
    simp
  rw [Bool.eq_iff_iff, hA, hB]
  constructor
  · rintro ⟨h1, h2⟩
    refine ⟨fun x hx hy => h1 x hx (hs.inner_sw hy).1, ?_⟩
    by_cases q : 2 < r.length ∨ 2 < s.length
    · exact q
    · have r2 : r.length = 2 := by have := hr.two; omega
      have s2 : s.length = 2 := by have := hs.two; omega
      unfold lastN at e1
      rw [r2, s2] at e1
      refine absurd (mem_ports.mpr ⟨0, by omega, ?_⟩) (h2 (r.getD 0 0, r.getD 1 0) (mem_ports.mpr ⟨0, by omega, rfl⟩))
      rw [e0, show r.getD 1 0 = s.getD 1 0 from e1]
  · rintro ⟨h1, h2⟩
    have h3 : ∀ x, x ∈ r → x ∈ s → host N x = false → False := fun x hx hy hh => h1 x (hr.in_inner hx hh) (hs.in_inner hy hh)
    refine ⟨fun x hx hy => h3 x (hr.inner_sw hx).1 hy (hr.inner_sw hx).2, fun p hp hq => ?_⟩
    obtain ⟨p1, p2⟩ := port_both hp
    obtain ⟨q1, q2⟩ := port_both hq
    rcases h2 with h2 | h2
    · rcases hr.port_sw h2 hp with ⟨_, z⟩ | ⟨_, z⟩
      · exact h3 _ p1 q1 z
      · exact h3 _ p2 q2 z
    · rcases hs.port_sw h2 hq with ⟨_, z⟩ | ⟨_, z⟩
      · exact h3 _ p1 q1 z
      · exact h3 _ p2 q2 z
end My
/-! == of lists of kinds, nodes, ports, lines as data. No row. -/
namespace My
open PySem PySem.Spec PyProof.Rows L2
structure Shp (n : Nat) (d : PyData) : Prop where
  c : d.canLay0 = true
  d : d.depth ≤ n
theorem Shp.shaped {n : Nat} {d : PyData} (h : Shp n d) (hn : n ≤ 64 := by decide) : SeqAt.shaped d = true := by
  unfold SeqAt.shaped
  rw [h.c, decide_eq_true (Nat.le_trans h.d hn)]
  rfl
theorem shp_int (i : Int) : Shp 0 (.int i) := ⟨by rw [PyData.canLay0], by rw [PyData.depth]; exact Nat.le_refl _⟩
theorem shp_kind (b : Bool) : Shp 0 (.str (if b then "host" else "switch")) := ⟨by rw [PyData.canLay0]; cases b <;> decide +kernel, by rw [PyData.depth]; exact Nat.le_refl _⟩
theorem shp_all {n : Nat} : ∀ {ds : List PyData}, (∀ d ∈ ds, Shp n d) → PyData.canLayAll0 ds = true ∧ PyData.depthAll ds ≤ n
  | [], _ => ⟨by rw [PyData.canLayAll0], by rw [PyData.depthAll]; exact Nat.zero_le _⟩
  | d :: r, h => by
    have h1 := h d List.mem_cons_self
    have h2 := shp_all (ds := r) fun x hx => h x (List.mem_cons_of_mem _ hx)
    refine ⟨by rw [PyData.canLayAll0, h1.c, h2.1]; rfl, by rw [PyData.depthAll]; exact Nat.max_le.mpr ⟨h1.d, h2.2⟩⟩
theorem shp_list {n : Nat} {ds : List PyData} (h : ∀ d ∈ ds, Shp n d) : Shp (n + 1) (.list ds) := ⟨by rw [PyData.canLay0]; exact (shp_all h).1, by rw [PyData.depth]; exact Nat.succ_le_succ (shp_all h).2⟩
theorem shp_tuple {n : Nat} {ds : List PyData} (h : ∀ d ∈ ds, Shp n d) : Shp (n + 1) (.tuple ds) := ⟨by rw [PyData.canLay0]; exact (shp_all h).1, by rw [PyData.depth]; exact Nat.succ_le_succ (shp_all h).2⟩
theorem shp_map {α : Type} {n : Nat} {f : α → PyData} {xs : List α} (h : ∀ x, Shp n (f x)) : ∀ d ∈ xs.map f, Shp n d := fun d hd => by
  obtain ⟨x, _, rfl⟩ := List.mem_map.mp hd
  exact h x
theorem eqv_map {α : Type} [DecidableEq α] (f : α → PyData) (h : ∀ x y, PyData.eqv (f x) (f y) = decide (x = y)) : ∀ xs ys : List α, PyData.eqvAll (xs.map f) (ys.map f) = decide (xs = ys)
  | [], [] => by rw [List.map_nil, PyData.eqvAll, decide_eq_true rfl]
  | [], y :: ys => by rw [List.map_nil, List.map_cons, PyData.eqvAll, decide_eq_false (by simp)]
  | x :: xs, [] => by rw [List.map_nil, List.map_cons, PyData.eqvAll, decide_eq_false (by simp)]
  | x :: xs, y :: ys => by
    rw [List.map_cons, List.map_cons, PyData.eqvAll, h, eqv_map f h xs ys, Bool.eq_iff_iff, Bool.and_eq_true, decide_eq_true_eq, decide_eq_true_eq, decide_eq_true_eq, List.cons.injEq]
theorem beq_dec (i j : Int) : (i == j) = decide (i = j) := by
  rw [Bool.eq_iff_iff, beq_iff_eq, decide_eq_true_eq]
/-! ### kinds -/
def dKind (b : Bool) : PyData := .str (if b then "host" else "switch")
def dKinds (ks : List Bool) : PyData := .list (ks.map dKind)
theorem eqv_kind (a b : Bool) : PyData.eqv (dKind a) (dKind b) = decide (a = b) := by
  unfold dKind
  rw [PyData.eqv]
  cases a <;> cases b <;> decide +kernel
theorem eqv_kinds (a b : List Bool) : PyData.eqv (dKinds a) (dKinds b) = decide (a = b) := by
  unfold dKinds
  rw [PyData.eqv, eqv_map dKind eqv_kind]
theorem shp_kinds (ks : List Bool) : Shp 1 (dKinds ks) := shp_list (shp_map shp_kind)
theorem dp_all {α : Type} {K : PySem.W.Frag} {H : Hp} (f : α → PyData) (g : α → V) (h : ∀ x, Dp K H (g x) (f x)) : ∀ xs : List α, DpAll K H (xs.map g) (xs.map f)
  | [] => .nil
  | x :: r => .cons (h x) (dp_all f g h r)
theorem dp_kinds {K : PySem.W.Frag} {H : Hp} {a : Addr} {ks : List Bool} (h : SqL K H a (ks.map kindV)) : Dp K H (.ref a) (dKinds ks) := .lst h (dp_all dKind kindV (fun _ => .str _) ks)
/-! ### nodes -/
theorem shp_nats (r : List Nat) : Shp 1 (dList r) := shp_list (shp_map (f := fun (n : Nat) => PyData.int (n : Int)) fun _ => shp_int _)
theorem eqv_nats (a b : List Nat) : PyData.eqv (dList a) (dList b) = decide (a = b) := by
  unfold dList
  rw [PyData.eqv, eqv_map (fun (n : Nat) => PyData.int (n : Int)) fun x y => by
    rw [eqv_int, beq_dec]
    by_cases e : x = y
    · rw [e, decide_eq_true rfl, decide_eq_true rfl]
    · rw [decide_eq_false e, decide_eq_false (by omega)]]
/-! ### ports -/
def portV (p : Nat × Nat) : List V := [.int (p.1 : Int), .int (p.2 : Int)]
def dPort (p : Nat × Nat) : PyData := .tuple [.int (p.1 : Int), .int (p.2 : Int)]
def dPorts (ps : List (Nat × Nat)) : PyData := .list (ps.map dPort)
theorem shp_port (p : Nat × Nat) : Shp 1 (dPort p) := shp_tuple fun d hd => by
  rcases List.mem_cons.mp hd with e | hd
  · rw [e]; exact shp_int _
  · rw [List.mem_singleton.mp hd]; exact shp_int _
theorem eqv_port (p q : Nat × Nat) : PyData.eqv (dPort p) (dPort q) = decide (p = q) := by
  obtain ⟨a, b⟩ := p
  obtain ⟨c, d⟩ := q
  unfold dPort
  rw [PyData.eqv, PyData.eqvAll, PyData.eqvAll, PyData.eqvAll, eqv_int, eqv_int, beq_dec, beq_dec, Bool.and_true, Bool.eq_iff_iff, Bool.and_eq_true, decide_eq_true_eq, decide_eq_true_eq, decide_eq_true_eq, Prod.mk.injEq]
  show ((a : Int) = (c : Int) ∧ (b : Int) = (d : Int)) ↔ _
  omega
theorem shp_ports (ps : List (Nat × Nat)) : Shp 2 (dPorts ps) := shp_list (shp_map shp_port)
theorem eqv_ports (a b : List (Nat × Nat)) : PyData.eqv (dPorts a) (dPorts b) = decide (a = b) := by
  unfold dPorts
  rw [PyData.eqv, eqv_map dPort eqv_port]
theorem dp_paired {α : Type} {K : PySem.W.Frag} {H : Hp} (f : α → PyData) {F : Addr → α → Prop} (h : ∀ t x, F t x → Dp K H (.ref t) (f x)) : ∀ {ts : List Addr} {xs : List α}, Paired F ts xs → DpAll K H (ts.map V.ref) (xs.map f)
  | _, _, .nil => .nil
  | _, _, .cons r t => .cons (h _ _ r) (dp_paired f h t)
theorem dp_port {K : PySem.W.Frag} {H : Hp} {t : Addr} {p : Nat × Nat} (h : SqT K H t (portV p)) : Dp K H (.ref t) (dPort p) := .tup h (.cons (.int _) (.cons (.int _) .nil))
theorem dp_ports {K : PySem.W.Frag} {H : Hp} {a : Addr} {ts : List Addr} {ps : List (Nat × Nat)} (h : SqL K H a (ts.map V.ref)) (p : PairsAt K H ts ps) : Dp K H (.ref a) (dPorts ps) := .lst h (dp_paired dPort (fun _ _ z => dp_port z) p)
/-! ### lines -/
def dLine (l : Nat × Nat × Int) : PyData := .tuple [.int (l.1 : Int), .int (l.2.1 : Int), .int l.2.2]
def dLines (ls : List (Nat × Nat × Int)) : PyData := .list (ls.map dLine)
theorem shp_line (l : Nat × Nat × Int) : Shp 1 (dLine l) := shp_tuple fun d hd => by
  rcases List.mem_cons.mp hd with e | hd
  · rw [e]; exact shp_int _
  · rcases List.mem_cons.mp hd with e | hd
    · rw [e]; exact shp_int _
    · rw [List.mem_singleton.mp hd]; exact shp_int _
theorem eqv_line (p q : Nat × Nat × Int) : PyData.eqv (dLine p) (dLine q) = decide (p = q) := by
  obtain ⟨a, b, x⟩ := p
  obtain ⟨c, d, y⟩ := q
  unfold dLine
  rw [PyData.eqv, PyData.eqvAll, PyData.eqvAll, PyData.eqvAll, PyData.eqvAll, eqv_int, eqv_int, eqv_int, beq_dec, beq_dec, beq_dec, Bool.and_true, Bool.eq_iff_iff, Bool.and_eq_true, Bool.and_eq_true, decide_eq_true_eq, decide_eq_true_eq, decide_eq_true_eq, decide_eq_true_eq, Prod.mk.injEq, Prod.mk.injEq]
  show ((a : Int) = (c : Int) ∧ (b : Int) = (d : Int) ∧ x = y) ↔ _
  omega
theorem shp_lines (ls : List (Nat × Nat × Int)) : Shp 2 (dLines ls) := shp_list (shp_map shp_line)
theorem eqv_lines (a b : List (Nat × Nat × Int)) : PyData.eqv (dLines a) (dLines b) = decide (a = b) := by
  unfold dLines
  rw [PyData.eqv, eqv_map dLine eqv_line]
theorem dp_lines {K : PySem.W.Frag} {H : Hp} {a : Addr} {ts : List Addr} {ls : List (Nat × Nat × Int)} (h : SqL K H a (ts.map V.ref)) (p : LinesAt K H ts ls) : Dp K H (.ref a) (dLines ls) := .lst h (dp_paired dLine (fun _ _ z => .tup z (.cons (.int _) (.cons (.int _) (.cons (.int _) .nil)))) p)
end My
/-! An own `__eq__` with both answers. No row. -/
namespace My
open PySem PySem.Spec PyProof.Rows L2
/-- what may stand on the right -/
inductive RightV (K : PySem.W.Frag) (C : Addr) (H : Hp) : V → Prop where
  | own {b dx : Addr} {fs : List (Str × V)} (h : H b = some (.ins C dx fs)) : RightV K C H (.ref b)
  | int (i : Int) (n : PySem.W.notFirst K C (.type "int") = true) : RightV K C H (.int i)
  | lst {b : Addr} {xs : List V} (h : H b = some (.lst xs)) (n : PySem.W.notFirst K C (.type "list") = true) : RightV K C H (.ref b)
def rOwnE (K : PySem.W.Frag) (C : Addr) (sp : Sp) (E : XK) : R2 := fun x y H Q => ∃ (a dx : Addr) (fs : List (Str × V)), x = .ref a ∧ H a = some (.ins C dx fs) ∧ RightV K C H y ∧ sp [.ref a, y] H Q E
theorem op_ownE {X : Cx} {CX : CXT} {C g : Addr} {fd : FuncData} {ps : List Str} {k : Nat} {sp : Sp} {E : XK} (F : FnOk X.prog X.w X.K X.mg X.base CX k g fd ps sp) (hr : Room k X.A) (hs : PySem.W.findIn X.K (.ref C) "__eq__" = some (some (.ref g))) (hf : PySem.W.isFn X.K (.ref g) = true)
    (hb : Binds X.K fd ps []) (hx : Passes CX X E) : OpR X (compareOp .Eq) (rOwnE X.K C sp E) := by
  intro pins s σ H x y v u Q I rx ry h
  obtain ⟨a, dx, fs, rfl, ha, hy, q⟩ := h
  cases (show v = Value.ref a from rx)
  obtain ⟨mA, O, _⟩ := ins_get I.hok ha
  obtain ⟨od, J, _⟩ := O.look
  obtain ⟨m, hF⟩ := I.fr
  have go : ∀ tb : Value, PySem.W.Looks (model X.prog X.w) s.heap (typeOf u) tb → PySem.W.notFirst X.K C tb = true → wpAny (model X.prog X.w) X.A (compareOp .Eq (.ref a) u) (EP X pins σ Q) X.xe s := by
    intro tb lb nb
    show wpAny (model X.prog X.w) X.A (richCompare .Eq (.ref a) u) (EP X pins σ Q) X.xe s
    refine PySem.W.cmp_K (op := .Eq) (tb := tb) hr.units0 hF I.ok.mod.kin J lb nb hs hf ?_
    refine wpAny_mono (run_fn (us := [.ref a, u]) (vs := [.ref a, y]) F hr hb .nil hx I (.cons rfl (.cons ry .nil)) q) (fun w s' z => ?_) fun _ _ x => x
    obtain ⟨z', H', I', rz, qz⟩ := z
    exact SlX.cmpback rz ⟨z', H', I', rz, qz⟩
  cases hy with
  | @own b dy gs hb' =>
    cases (show u = Value.ref b from ry)
    obtain ⟨mB, O', _⟩ := ins_get I.hok hb'
    obtain ⟨od', J', _⟩ := O'.look
    exact go (.ref C) J'.type (by simp [PySem.W.notFirst])
  | int i n =>
    obtain ⟨t, e⟩ := (show ∃ t, u = Value.int i t from ry)
    subst e
    exact go (.type "int") (PySem.W.Looks.of_pure rfl) n
  | @lst b xs hb' n =>
    cases (show u = Value.ref b from ry)
    obtain ⟨_, _, k, _, h1⟩ := (show ObjOk X.prog X.w H s.heap b (.lst xs) from I.hok b _ hb')
    exact go (.type "list") ((PySem.W.Looks.ld h1).andThen .now) n
end My
namespace My
open PySem PySem.Spec PyProof.Rows L2
def top (i : Nat) : Stmt := PySem.Challenge.pw_metronet_k01_nets_and_paths.main.body.getD i (.Pass ⟨0, 0, 0, 0⟩)
abbrev sDraw : Stmt := top 6
abbrev sCell : Stmt := top 7
/-- the built-in names that the module leaves -/
structure Blt (mg : Str → Option Value) : Prop where
  range : mg "range" = none
  len : mg "len" = none
  int : mg "int" = none
  list : mg "list" = none
  enum : mg "enumerate" = none
section
variable {P : Program} {w : World} {K : PySem.W.Frag} {mg : Str → Option Value} {base : Heap}
/-! ### _law_draw -/
theorem scDraw : FnScope ["cell", "many", "bound", "numbers", "k", "seed", "mixed"] ["cell", "many", "bound"] (defScope sDraw) := ⟨rfl, rfl, rfl, by decide +kernel, rfl, by decide +kernel, by decide +kernel⟩
def spDraw : Sp := fun vs H Q _ => ∃ (c b : Int) (m : Nat), vs = [.int c, .int (m : Int), .int b] ∧ m ≤ 1000 ∧ 0 < b ∧ b < 2 ^ 64 ∧
  ∀ (H' : Hp) (p : Addr) (ns : List Int), Same H H' → H p = none → H' p = some (.lst (ns.map V.int)) → ns.length = m → (∀ x ∈ ns, 0 ≤ x ∧ x < b) → Q (.ref p) H'
theorem ok_draw {f : Addr} {fd : FuncData} {k : Nat} (F : Fun K "_law_draw" "_law_draw" sDraw f fd) (T : Blt mg) : FnOk P w K mg base CX0 (k + 1) f fd ["cell", "many", "bound"] spDraw := by
  refine F.ok scDraw (fun vs H Q E h => ?_) (fun cdv A outer s H vs Q E hr h => ?_)
  · obtain ⟨c, b, m, rfl, _⟩ := h
    rfl
  · obtain ⟨c, b, m, rfl, hm, hb0, hb1, q⟩ := h
    have nd := scDraw.nd
    refine ⟨_, pss_cons (ps_set (i := 3) nd rfl (.inl rfl) (pe_lst pa_nil))
      (pss_cons (ps_if (pt_cmpR op_ge (pv 0) (pe_op op_pow pe_int pe_int) (nomark _))
        (pss_cons (ps_for PassesOwn.never rfl (pi_range1 (by rfl) T.range (pa_cons (pv 1) pa_nil)) (pg_name (i := 4) nd rfl (.inl rfl))
          (pss_cons (ps_expr (pe_bm PySem.F.plainAttrs_list PySem.F.slot_list_append PySem.F.type_list_append mt_append (pv 3)
              (pa_cons (pe_op op_mod (pe_callTy call_int1 (by rfl) T.int (by decide +kernel) (pa_cons (pv 0) pa_nil)) (pv 2)) pa_nil)))
          (pss_one (ps_set (i := 0) nd rfl (.inl rfl) (pe_op op_fdivW (pv 0) (pv 2))))))
        (pss_one (ps_ret (pv 3)))) pss_nil)
      (pss_cons (ps_set (i := 5) nd rfl (.inl rfl) (pe_op op_mod (pe_callTy call_int1 (by rfl) T.int (by decide +kernel) (pa_cons (pv 0) pa_nil)) pe_int))
      (pss_cons (ps_for PassesOwn.never rfl (pi_range1 (by rfl) T.range (pa_cons (pv 1) pa_nil)) (pg_name (i := 4) nd rfl (.inl rfl))
          (pss_cons (ps_set (i := 5) nd rfl (.inl rfl) (pe_op op_mod (pe_callTy call_int1 (by rfl) T.int (by decide +kernel)
              (pa_cons (pe_op op_add (pe_op op_add (pe_op op_mul (pv 5) pe_int) pe_int) (pv 4)) pa_nil)) pe_int))
          (pss_cons (ps_set (i := 6) nd rfl (.inl rfl) (pe_op op_mod (pe_callTy call_int1 (by rfl) T.int (by decide +kernel)
              (pa_cons (pe_op op_add (pe_op op_mul (pv 5) pe_int) (pe_op op_mul pe_int (pv 4))) pa_nil)) pe_int))
          (pss_one (ps_expr (pe_bm PySem.F.plainAttrs_list PySem.F.slot_list_append PySem.F.type_list_append mt_append (pv 3)
              (pa_cons (pe_op op_mod (pe_callTy call_int1 (by rfl) T.int (by decide +kernel) (pa_cons (pe_op op_fdiv (pv 6) pe_int) pa_nil)) (pv 2)) pa_nil)))))))
      (pss_one (ps_ret (pv 3)))))), ?_⟩
    -- numbers = []
    refine ⟨Nat.zero_le _, fun p np => ?_⟩
    have s1 : Same H (upd H p (.lst [])) := same_new np
    -- cell >= 10 ** 18
    refine ⟨_, rfl, _, _, rfl, rfl, ⟨by decide, by decide, by decide⟩, _, _, rfl, rfl, _, rfl, ite2 (fun _ => ?_) (fun _ => ?_)⟩
    · refine ⟨_, rfl, (m : Int), rfl, by omega, by omega, for_range (n := m) (fun i σ H' => ∃ (c' : Int) (ns : List Int) (v4 v5 v6 : Option V), σ = [some (.int c'), some (.int m), some (.int b), some (.ref p), v4, v5, v6] ∧
        Same H H' ∧ H' p = some (.lst (ns.map V.int)) ∧ ns.length = i ∧ ∀ x ∈ ns, 0 ≤ x ∧ x < b) ⟨c, [], none, none, none, rfl, s1, upd_same, rfl, fun x hx => by cases hx⟩ ?_ ?_⟩
      · rintro i σ H' hi ⟨c', ns, v4, v5, v6, rfl, sm, hp, hl, hx⟩
        refine ⟨_, rfl, .inl ⟨rfl, _, SqL.of hp⟩, _, rfl, .inl ⟨_, rfl, _, rfl, _, _, rfl, rfl, hb0, ?_⟩⟩
        refine ⟨p, _, _, rfl, rfl, hp, by rw [List.length_map]; exact small1000 (by omega), ?_⟩
        refine ⟨_, rfl, _, rfl, _, _, rfl, rfl, wide_div (b := 64) hb0 (by omega) (by decide) (by decide), ?_⟩
        refine ⟨c' / b, ns ++ [c' % b], _, v5, v6, rfl, same_mut sm np, ?_, by rw [List.length_append, hl]; rfl, ?_⟩
        · rw [upd_same, List.map_append]; rfl
        · intro x hm
          rcases List.mem_append.mp hm with h1 | h1
          · exact hx x h1
          · rw [List.mem_singleton.mp h1]
            exact ⟨Int.emod_nonneg _ (by omega), Int.emod_lt_of_pos _ hb0⟩
      · rintro σ H' ⟨c', ns, v4, v5, v6, rfl, sm, hp, hl, hx⟩
        exact ⟨_, rfl, q H' p ns sm np hp hl hx⟩
    · refine ⟨_, rfl, .inl ⟨_, rfl, _, _, rfl, rfl, (by show (0 : Int) < 2147483647; decide), ?_⟩⟩
      refine ⟨_, rfl, (m : Int), rfl, by omega, by omega, for_range (n := m) (fun i σ H' => ∃ (c' sd : Int) (ns : List Int) (v4 v6 : Option V), σ = [some (.int c'), some (.int m), some (.int b), some (.ref p), v4, some (.int sd), v6] ∧
        0 ≤ sd ∧ sd < 2147483647 ∧ Same H H' ∧ H' p = some (.lst (ns.map V.int)) ∧ ns.length = i ∧ ∀ x ∈ ns, 0 ≤ x ∧ x < b)
        ⟨c, c % 2147483647, [], none, none, rfl, Int.emod_nonneg _ (by decide), Int.emod_lt_of_pos _ (by decide), s1, upd_same, rfl, fun x hx => by cases hx⟩ ?_ ?_⟩
      · rintro i σ H' hi ⟨c', sd, ns, v4, v6, rfl, d0, d1, sm, hp, hl, hx⟩
        refine ⟨_, rfl, _, _, rfl, rfl, .inl ⟨by omega, by omega⟩, _, _, rfl, rfl, _, rfl, _, _, rfl, rfl, .inl ⟨_, rfl, _, _, rfl, rfl, (by show (0 : Int) < 2147483647; decide), ?_⟩⟩
        have e0 : 0 ≤ (sd * 48271 + 12345 + (0 + (i : Int))) % 2147483647 := Int.emod_nonneg _ (by decide)
        have e1 : (sd * 48271 + 12345 + (0 + (i : Int))) % 2147483647 < 2147483647 := Int.emod_lt_of_pos _ (by decide)
        refine ⟨_, rfl, _, _, rfl, rfl, .inl ⟨by omega, by omega⟩, _, rfl, _, _, rfl, rfl, .inl ⟨by decide, by decide⟩, _, _, rfl, rfl, .inl ⟨_, rfl, _, _, rfl, rfl, (by show (0 : Int) < 2147483629; decide), ?_⟩⟩
        refine ⟨_, rfl, .inl ⟨rfl, _, SqL.of hp⟩, _, rfl, _, _, rfl, rfl, ⟨by decide, by decide⟩, .inl ⟨_, rfl, _, rfl, _, _, rfl, rfl, hb0, ?_⟩⟩
        refine ⟨p, _, _, rfl, rfl, hp, by rw [List.length_map]; exact small1000 (by omega), ?_⟩
        refine ⟨c', _, ns ++ [((sd * 48271 + 12345 + (0 + (i : Int))) % 2147483647 * 69621 + 977 * (0 + (i : Int))) % 2147483629 / 3 % b], _, _, rfl, e0, e1, same_mut sm np, ?_, by rw [List.length_append, hl]; rfl, ?_⟩
        · rw [upd_same, List.map_append]; rfl
        · intro x hm
          rcases List.mem_append.mp hm with h1 | h1
          · exact hx x h1
          · rw [List.mem_singleton.mp h1]
            exact ⟨Int.emod_nonneg _ (by omega), Int.emod_lt_of_pos _ hb0⟩
      · rintro σ H' ⟨c', sd, ns, v4, v6, rfl, d0, d1, sm, hp, hl, hx⟩
        exact ⟨_, rfl, q H' p ns sm np hp hl hx⟩
/-! ### _law_cell -/
theorem scCell : FnScope ["script", "k"] ["script", "k"] (defScope sCell) := ⟨rfl, rfl, rfl, by decide +kernel, rfl, by decide +kernel, by decide +kernel⟩
def spCell (K : PySem.W.Frag) : Sp := fun vs H Q _ => ∃ (a : Addr) (ns : List Int) (j : Nat), vs = [.ref a, .int (j : Int)] ∧ SqL K H a (ns.map V.int) ∧ Q (.int (ns.getD j 0)) H
theorem ok_cell {f : Addr} {fd : FuncData} {k : Nat} (F : Fun K "_law_cell" "_law_cell" sCell f fd) (T : Blt mg) : FnOk P w K mg base CX0 (k + 1) f fd ["script", "k"] (spCell K) := by
  refine F.ok scCell (fun vs H Q E h => ?_) (fun cdv A outer s H vs Q E hr h => ?_)
  · obtain ⟨a, ns, j, rfl, _⟩ := h
    rfl
  · obtain ⟨a, ns, j, rfl, hS, q⟩ := h
    refine ⟨_, pss_cons (ps_if (pt_cmpR op_lt (pv 1) (pe_callB call_len_seq (by rfl) T.len PySem.boot_len (pa_cons (pv 0) pa_nil)) (nomark _))
        (pss_one (ps_ret (pe_ix ix_list (pv 0) (pv 1) (fun _ _ => rfl)))) pss_nil) (pss_one (ps_ret pe_int)), ?_⟩
    refine ⟨_, rfl, _, rfl, a, _, rfl, .inl hS, _, _, rfl, rfl, _, rfl, ite2 (fun e => ?_) (fun e => ?_)⟩
    · have hj : j < ns.length := by
        have := of_decide_eq_true e
        rw [List.length_map] at this
        omega
      refine ⟨_, rfl, _, rfl, a, _, _, _, rfl, rfl, hS, atI_int hj, ?_⟩
      rw [List.getD_eq_getElem?_getD, List.getElem?_eq_getElem hj] at q
      exact q
    · have hj : ns.length ≤ j := by
        rcases Nat.lt_or_ge j ns.length with h | h
        · exact absurd (decide_eq_true (by rw [List.length_map]; omega)) e
        · exact h
      rw [List.getD_eq_getElem?_getD, List.getElem?_eq_none hj] at q
      exact q
end
end My
namespace My
open PySem PySem.Spec PyProof.Rows L2
abbrev sNet : Stmt := top 1
abbrev sInit : Stmt := inClass sNet 0
abbrev sNb : Stmt := inClass sNet 3
section
variable {P : Program} {w : World} {K : PySem.W.Frag} {mg : Str → Option Value} {base : Heap}
/-! ### Net.__init__ -/
theorem scInit : FnScope ["self", "kinds", "lines", "processing", "error", "a", "b", "ticks"] ["self", "kinds", "lines", "processing", "error"] (defScope sInit) := ⟨rfl, rfl, rfl, by decide +kernel, rfl, by decide +kernel, by decide +kernel⟩
abbrev FunInit (K : PySem.W.Frag) (f : Addr) (fd : FuncData) : Prop := FunD K "__init__" "Net.__init__" (defArgs sInit) (defBody sInit) (defScope sInit) [] [("processing", .int 0), ("error", .int 0)] f fd
/-- a Net stands at p, its lists are new -/
def NetNew (K : PySem.W.Frag) (C : Addr) (H H' : Hp) (p : Addr) (N : NetD) : Prop := ∃ (dx lk ll ld : Addr) (ts : List Addr), H' p = some (.ins C dx (netF lk ll N.pr N.er ld)) ∧ H' lk = some (.lst (N.ks.map kindV)) ∧ H' ll = some (.lst (ts.map V.ref)) ∧
  LinesAt K H' ts N.ls ∧ H' ld = some (.dT (delaysOf N.ls)) ∧ H lk = none ∧ H ll = none
theorem NetNew.at {K : PySem.W.Frag} {C : Addr} {H H' : Hp} {p : Addr} {N : NetD} (h : NetNew K C H H' p N) : NetAt K C H' p N := by
  obtain ⟨dx, lk, ll, ld, ts, h1, h2, h3, h4, h5, _⟩ := h
  exact ⟨dx, lk, ll, ld, ts, h1, h2, h3, h4, h5⟩
def spInit (K : PySem.W.Frag) (C : Addr) : Sp := fun vs H Q _ => ∃ (p dx l0 l1 : Addr) (ts : List Addr) (N : NetD), vs = [.ref p, .ref l0, .ref l1, .int N.pr, .int N.er] ∧ H p = some (.ins C dx []) ∧
  SqL K H l0 (N.ks.map kindV) ∧ SqL K H l1 (ts.map V.ref) ∧ LinesAt K H ts N.ls ∧ N.ls.length ≤ 1000 ∧
  ∀ H', (∀ b o, H b = some o → b ≠ p → H' b = some o) → NetNew K C H H' p N → Q .non H'
theorem ok_init {f C : Addr} {fd : FuncData} {k : Nat} (F : FunInit K f fd) (T : Blt mg) (c : NetC K C) : FnOk P w K mg base CX0 (k + 1) f fd ["self", "kinds", "lines", "processing", "error"] (spInit K C) := by
  refine F.ok scInit (fun vs H Q E h => ?_) (fun cdv A outer s H vs Q E hr h => ?_)
  · obtain ⟨p, dx, l0, l1, ts, N, rfl, _⟩ := h
    rfl
  · obtain ⟨p, dx, l0, l1, ts, N, rfl, hp, h0, h1, hts, hlen, q⟩ := h
    have nd := scInit.nd
    have hu := hu_of hr
    refine ⟨_, PSs.nox (pss_cons (ps_fld (pv 0) (pe_callTy call_list_of (by rfl) T.list (by decide +kernel) (pa_cons (pv 1) pa_nil)) rfl)
      (pss_cons (ps_fld (pv 0) (pe_callTy call_list_of (by rfl) T.list (by decide +kernel) (pa_cons (pv 2) pa_nil)) rfl)
      (pss_cons (ps_fld (pv 0) (pv 3) rfl) (pss_cons (ps_fld (pv 0) (pv 4) rfl) (pss_cons (ps_fld (pv 0) pe_dnewT rfl)
      (pss_one (ps_for PassesOwn.never rfl (pi_list (pe_fld (pv 0) rfl))
        (pg_tup rfl (pgs_cons (pg_name (i := 5) nd rfl (.inl rfl)) (pgs_cons (pg_name (i := 6) nd rfl (.inl rfl)) (pgs_cons (pg_name (i := 7) nd rfl (.inl rfl)) pgs_nil))))
        (pss_cons (ps_dput hu (pe_fld (pv 0) rfl) (pe_tup (pa_cons (pv 5) (pa_cons (pv 6) pa_nil))) (pv 7) rfl)
        (pss_one (ps_dput hu (pe_fld (pv 0) rfl) (pe_tup (pa_cons (pv 6) (pa_cons (pv 5) pa_nil))) (pv 7) rfl)))))))))), ?_⟩
    have pnn : ∀ {H1 : Hp} {a : Addr} {u : HO}, H1 p = some u → H1 a = none → p ≠ a := fun e n => ne_of_none e n
    -- self.kinds = list(kinds)
    refine ⟨_, rfl, l0, _, rfl, .inl h0, fun lk nk => ?_⟩
    have npk := pnn hp nk
    refine ⟨_, rfl, p, C, dx, [], rfl, (by rw [upd_ne npk]; exact hp), c.cl, c.n1, (by show 0 < 1000; decide), ?_⟩
    have k1 : But p H _ := but_new (u := .ins C dx (putF "kinds" (.ref lk) [])) (o := .lst (N.ks.map kindV)) nk
    have a1 : (upd (upd H lk (.lst (N.ks.map kindV))) p (.ins C dx (putF "kinds" (.ref lk) []))) lk = some (.lst (N.ks.map kindV)) := by rw [upd_ne npk.symm, upd_same]
    have p1 : (upd (upd H lk (.lst (N.ks.map kindV))) p (.ins C dx (putF "kinds" (.ref lk) []))) p = some (.ins C dx (putF "kinds" (.ref lk) [])) := upd_same
    generalize (upd (upd H lk (.lst (N.ks.map kindV))) p (.ins C dx (putF "kinds" (.ref lk) []))) = H1 at k1 a1 p1 ⊢
    rw [f1] at p1
    -- self.lines = list(lines)
    refine ⟨_, rfl, l1, ts.map V.ref, rfl, .inl (k1.seq hp h1), fun ll nl => ?_⟩
    have npl := pnn p1 nl
    have nlH : H ll = none := by
      cases e : H ll with
      | none => rfl
      | some o =>
        have z := k1 _ _ e npl.symm
        rw [nl] at z
        cases z
    refine ⟨_, rfl, p, C, dx, _, rfl, (by rw [upd_ne npl]; exact p1), c.cl, c.n2, (by show 1 < 1000; decide), ?_⟩
    have k2 : But p H1 _ := but_new (u := .ins C dx (putF "lines" (.ref ll) [(("kinds" : Str), V.ref lk)])) (o := .lst (ts.map V.ref)) nl
    have b2 : (upd (upd H1 ll (.lst (ts.map V.ref))) p (.ins C dx (putF "lines" (.ref ll) [(("kinds" : Str), V.ref lk)]))) ll = some (.lst (ts.map V.ref)) := by rw [upd_ne npl.symm, upd_same]
    have p2 : (upd (upd H1 ll (.lst (ts.map V.ref))) p (.ins C dx (putF "lines" (.ref ll) [(("kinds" : Str), V.ref lk)]))) p = some (.ins C dx (putF "lines" (.ref ll) [(("kinds" : Str), V.ref lk)])) := upd_same
    generalize (upd (upd H1 ll (.lst (ts.map V.ref))) p (.ins C dx (putF "lines" (.ref ll) [(("kinds" : Str), V.ref lk)]))) = H2 at k2 b2 p2 ⊢
    rw [f2] at p2
    have a2 := k2 _ _ a1 npk.symm
    have q2 := k1.trans k2
    -- self.processing, self.error
    refine ⟨_, rfl, _, rfl, p, C, dx, _, rfl, p2, c.cl, c.n3, (by show 2 < 1000; decide), ?_⟩
    refine ⟨_, rfl, _, rfl, p, C, dx, _, rfl, upd_same, c.cl, c.n4, (by rw [f3]; show 3 < 1000; decide), ?_⟩
    have k3 : But p H2 _ := but_self (u := .ins C dx (putF "processing" (.int N.pr) [(("kinds" : Str), V.ref lk), ("lines", V.ref ll)]))
    have k4 : But p _ _ := but_self (H := upd H2 p (.ins C dx (putF "processing" (.int N.pr) [(("kinds" : Str), V.ref lk), ("lines", V.ref ll)]))) (u := .ins C dx (putF "error" (.int N.er) (putF "processing" (.int N.pr) [(("kinds" : Str), V.ref lk), ("lines", V.ref ll)])))
    have q4 := (q2.trans k3).trans k4
    have k34 := k3.trans k4
    have p4 : (upd (upd H2 p (.ins C dx (putF "processing" (.int N.pr) [(("kinds" : Str), V.ref lk), ("lines", V.ref ll)]))) p (.ins C dx (putF "error" (.int N.er) (putF "processing" (.int N.pr) [(("kinds" : Str), V.ref lk), ("lines", V.ref ll)])))) p = some (.ins C dx (putF "error" (.int N.er) (putF "processing" (.int N.pr) [(("kinds" : Str), V.ref lk), ("lines", V.ref ll)]))) := upd_same
    clear k3 k4
    generalize (upd (upd H2 p (.ins C dx (putF "processing" (.int N.pr) [(("kinds" : Str), V.ref lk), ("lines", V.ref ll)]))) p (.ins C dx (putF "error" (.int N.er) (putF "processing" (.int N.pr) [(("kinds" : Str), V.ref lk), ("lines", V.ref ll)])))) = H4 at k34 q4 p4 ⊢
    rw [f3, f4] at p4
    have a4 := k34 _ _ a2 npk.symm
    have b4 := k34 _ _ b2 npl.symm
    -- self._delays = {}
    refine fun ld nd5 => ?_
    have npd := pnn p4 nd5
    refine ⟨_, rfl, p, C, dx, _, rfl, (by rw [upd_ne npd]; exact p4), c.cl, c.n5, (by show 4 < 1000; decide), ?_⟩
    rw [f5]
    have k5 : But p H4 _ := but_new (u := .ins C dx (netF lk ll N.pr N.er ld)) (o := .dT []) nd5
    have c5 : (upd (upd H4 ld (.dT [])) p (.ins C dx (netF lk ll N.pr N.er ld))) ld = some (.dT []) := by rw [upd_ne npd.symm, upd_same]
    have p5 : (upd (upd H4 ld (.dT [])) p (.ins C dx (netF lk ll N.pr N.er ld))) p = some (.ins C dx (netF lk ll N.pr N.er ld)) := upd_same
    generalize (upd (upd H4 ld (.dT [])) p (.ins C dx (netF lk ll N.pr N.er ld))) = H5 at k5 c5 p5 ⊢
    have a5 := k5 _ _ a4 npk.symm
    have b5 := k5 _ _ b4 npl.symm
    have q5 := q4.trans k5
    have ldH : H ld = none := by
      cases z : H ld with
      | none => rfl
      | some u => rw [q4 _ _ z npd.symm] at nd5; cases nd5
    have nkd : lk ≠ ld := fun z => by rw [z, nd5] at a4; cases a4
    have nld : ll ≠ ld := fun z => by rw [z, nd5] at b4; cases b4
    have tlen : ts.length = N.ls.length := hts.length
    -- the loop
    refine ⟨_, rfl, p, C, dx, _, _, rfl, p5, c.cl, c.n2, g2, ll, rfl, ⟨_, SqL.of b5⟩, for_list (K := K) (a := ll) (xs := ts.map V.ref) (fun i σ H' => ∃ (v5 v6 v7 : Option V), σ = [some (.ref p), some (.ref l0), some (.ref l1), some (.int N.pr), some (.int N.er), v5, v6, v7] ∧
      But p H H' ∧ H' p = some (.ins C dx (netF lk ll N.pr N.er ld)) ∧ H' lk = some (.lst (N.ks.map kindV)) ∧ H' ll = some (.lst (ts.map V.ref)) ∧ H' ld = some (.dT (delaysOf (N.ls.take i))))
      ⟨none, none, none, rfl, q5, p5, a5, b5, c5⟩ (fun i σ H' _ ⟨_, _, _, _, _, _, _, hl, _⟩ => SqL.of hl) ?_ ?_⟩
    · rintro i x σ H' hi ⟨v5, v6, v7, rfl, kb, hp', hk', hl', hd'⟩
      rw [List.getElem?_map] at hi
      cases ht : ts[i]? with
      | none => rw [ht] at hi; cases hi
      | some t =>
        rw [ht] at hi
        cases hi
        obtain ⟨l, el, hT⟩ := Paired.at hts ht
        have hT' := kb.tup hp hT
        refine ⟨t, _, rfl, hT', rfl, _, _, rfl, _, _, rfl, _, _, rfl, rfl, ?_⟩
        have hsz : (delaysOf (N.ls.take i)).length ≤ 2000 := by
          have := delays_len (N.ls.take i)
          rw [List.length_take] at this
          omega
        -- self._delays[a, b] = ticks
        refine ⟨_, rfl, _, rfl, p, C, dx, _, _, rfl, hp', c.cl, c.n5, g5, _, rfl, _, rfl, by show 2 ≤ sizeLine; decide, fun k1 nk1 => ?_⟩
        have z1 := same_new (o := .tup [.int (l.1 : Int), .int (l.2.1 : Int)]) nk1
        refine ⟨ld, _, rfl, DPut.t (k := key2 l.1 l.2.1) (z1 _ _ hd') upd_same (szl (by omega)), ?_⟩
        have nk1d : ld ≠ k1 := ne_of_none hd' nk1
        have pd' : p ≠ ld := npd
        refine ⟨_, rfl, _, rfl, p, C, dx, _, _, rfl, by rw [upd_ne pd']; exact z1 _ _ hp', c.cl, c.n5, g5, _, rfl, _, rfl, by show 2 ≤ sizeLine; decide, fun k2 nk2 => ?_⟩
        have z2 := same_new (o := .tup [.int (l.2.1 : Int), .int (l.1 : Int)]) nk2
        refine ⟨ld, _, rfl, DPut.t (k := key2 l.2.1 l.1) (z2 _ _ upd_same) upd_same (szl (by have := length_putK (delaysOf (N.ls.take i)) (key2 l.1 l.2.1) (V.int l.2.2); omega)), ?_⟩
        have all : ∀ b o, H' b = some o → b ≠ ld → (upd (upd (upd (upd H' k1 (.tup [.int (l.1 : Int), .int (l.2.1 : Int)])) ld (.dT (putK (delaysOf (N.ls.take i)) (key2 l.1 l.2.1) (.int l.2.2)))) k2 (.tup [.int (l.2.1 : Int), .int (l.1 : Int)])) ld
            (.dT (putK (putK (delaysOf (N.ls.take i)) (key2 l.1 l.2.1) (.int l.2.2)) (key2 l.2.1 l.1) (.int l.2.2)))) b = some o := fun b o e n => by
          rw [upd_ne n]
          refine z2 _ _ ?_
          rw [upd_ne n]
          exact z1 _ _ e
        refine ⟨_, _, _, rfl, fun b o e n => all _ _ (kb _ _ e n) (ne_of_none e ldH), all _ _ hp' pd', all _ _ hk' nkd, all _ _ hl' nld, ?_⟩
        rw [upd_same, take_snoc el, delays_snoc]
        rfl
    · rintro σ H' ⟨v5, v6, v7, rfl, kb, hp', hk', hl', hd'⟩
      rw [List.length_map, tlen, List.take_length] at hd'
      exact q H' kb ⟨dx, lk, ll, ld, ts, hp', hk', hl', Paired.imp hts fun _ _ z => kb.tup hp z, hd', nk, nlH⟩
/-! ### Net.neighbours -/
theorem scNb : FnScope ["self", "a", "b"] ["self", "a"] (defScope sNb) := ⟨rfl, rfl, rfl, by decide +kernel, rfl, by decide +kernel, by decide +kernel⟩
def spNb (K : PySem.W.Frag) (C : Addr) : Sp := fun vs H Q _ => ∃ (p : Addr) (a : Nat) (N : NetD), vs = [.ref p, .int (a : Int)] ∧ NetAt K C H p N ∧ N.ks.length ≤ 1000 ∧
  ∀ (H' : Hp) (D : Addr), Same H H' → H D = none → H' D = some (.lst (natsV (nbs N a))) → Q (.ref D) H'
theorem ok_nb {f C : Addr} {fd : FuncData} {k : Nat} (F : Fun K "neighbours" "Net.neighbours" sNb f fd) (T : Blt mg) (c : NetC K C) : FnOk P w K mg base CX0 (k + 1) f fd ["self", "a"] (spNb K C) := by
  refine F.ok scNb (fun vs H Q E h => ?_) (fun cdv A outer s H vs Q E hr h => ?_)
  · obtain ⟨p, a, N, rfl, _⟩ := h
    rfl
  · obtain ⟨p, a, N, rfl, hN, hlen, q⟩ := h
    have nd := scNb.nd
    have hu := hu_of hr
    refine ⟨_, pss_one (ps_ret (pe_lc (own := [("b", 2)]) (g := gName 2) rfl nd
      (pi_range1 (by rfl) T.range (pa_cons (pe_callB call_len_seq (by rfl) T.len PySem.boot_len (pa_cons (pe_fld (pv 0) rfl) pa_nil)) pa_nil))
      (blkOk_by (own := [("b", 2)]) (N := ["self", "a", "b"]) (sc := defScope sNb) (by decide +kernel))
      (fun _ _ _ _ _ => pg_name (i := 2) nd rfl (Or.inl rfl))
      (fun _ _ _ _ _ => pts_one (pt_cmp (pc_din hu (pe_tup (pa_cons (pv 1) (pa_cons (pv 2) pa_nil))) (pe_fldK (K := K) (pv 0)))))
      (fun _ _ _ _ _ => pv 2))), ?_⟩
    obtain ⟨dx, lk, ll, ld, ts, e1, e2, e3, e4, e5⟩ := id hN
    refine ⟨_, rfl, p, C, dx, _, _, rfl, e1, c.cl, c.n1, g1, lk, _, rfl, .inl (SqL.of e2), _, rfl, by omega, by rw [List.length_map]; omega, fun D nD => ?_⟩
    have sD := same_new (o := .lst []) nD
    have en : (N.ks.map kindV).length = N.ks.length := List.length_map ..
    refine lc_range (lo := 0) (n := (N.ks.map kindV).length) (fun i H' => Same H H' ∧ H' D = some (.lst (natsV ((List.range i).filter (adj N a))))) ⟨sD, upd_same⟩ ?_ ?_
    · rintro i H' hi ⟨sm, hD⟩
      refine ⟨rfl, ?_⟩
      refine ⟨_, rfl, _, rfl, by show 2 ≤ sizeLine; decide, fun t nt => ?_⟩
      have st := same_new (o := .tup [.int (a : Int), .int (0 + (i : Int))]) nt
      have e5t := st _ _ (sm _ _ e5)
      have nDt : D ≠ t := ne_of_none hD nt
      refine ⟨_, rfl, p, C, dx, _, _, rfl, st _ _ (sm _ _ e1), c.cl, c.n5, g5, ld, valV (delaysOf N.ls) (key2 a i), rfl, ?_, _, rfl, ?_⟩
      · refine DGet.t e5t (k := key2 a i) ?_
        rw [upd_same, Int.zero_add]
        rfl
      · rw [adj_val]
        refine ite2 (fun ea => ?_) (fun ea => ?_)
        · refine ⟨_, rfl, _, by rw [upd_ne nDt]; exact hD, ?_, ?_, ?_⟩
          · rw [natsV, List.length_map]
            have := List.length_filter_le (adj N a) (List.range i)
            rw [List.length_range] at this
            exact small1000 (by omega)
          · exact fun b o e => by
              rw [upd_ne (ne_of_none e nD)]
              exact st _ _ (sm _ _ e)
          · rw [upd_same, List.range_succ, List.filter_append, List.filter_cons, if_pos ea, natsV, natsV, List.map_append, Int.zero_add]
            rfl
        · refine ⟨fun b o e => st _ _ (sm _ _ e), ?_⟩
          rw [upd_ne nDt, List.range_succ, List.filter_append, List.filter_cons, if_neg ea]
          simpa using hD
    · rintro H' ⟨sm, hD⟩
      rw [en] at hD
      exact q H' D sm nD hD
end
end My
namespace My
open PySem PySem.Spec PyProof.Rows L2
abbrev sLNet : Stmt := top 8
/-- how Net(..) is called by its keywords -/
abbrev KBNet (K : PySem.W.Frag) (fd : FuncData) (mv : List Value) : Prop := KBn K fd ["self", "kinds", "lines", "processing", "error"] 3 ["processing", "error"] (fun us ws => us ++ ws) (fun vs zs => vs ++ zs)
theorem kb_net {K : PySem.W.Frag} {f : Addr} {fd : FuncData} (F : FunInit K f fd) : KBn K fd ["self", "kinds", "lines", "processing", "error"] 3 ["processing", "error"] (fun us ws => us ++ ws) (fun vs zs => vs ++ zs) := by
  obtain ⟨mv, h⟩ := F.kbinds0 (ps := ["self", "kinds", "lines", "processing", "error"]) 3 ["processing", "error"] [] (fun us _ ws => us ++ ws) (by simp) (fun q hq => by cases hq) (fun r1 _ r3 => r1.append r3)
    (fun D doc pm an cdv ct us mv ws h1 _ h3 => match us, ws, h1, h3 with | [_, _, _], [_, _], _, _ => rfl)
  exact h
section
variable {P : Program} {w : World} {K : PySem.W.Frag} {mg : Str → Option Value} {base : Heap}
theorem scLNet : FnScope ["cell", "more", "numbers", "hosts", "switches", "kinds", "k", "pairs", "a", "b", "draws", "lines", "near"] ["cell", "more"] (defScope sLNet) := ⟨rfl, rfl, rfl, by decide +kernel, rfl, by decide +kernel, by decide +kernel⟩
def spLNet (K : PySem.W.Frag) (C : Addr) : Sp := fun vs H Q _ => ∃ (c m : Int), vs = [.int c, .int m] ∧
  ∀ (H' : Hp) (p : Addr) (N : NetD), Same H H' → H p = none → NetAt K C H' p N → NetWf N → Q (.ref p) H'
/-- what a def's caller knows of it -/
structure Callee (P : Program) (w : World) (K : PySem.W.Frag) (mg : Str → Option Value) (base : Heap) (k : Nat) (x : Str) (ps : List Str) (sp : Sp) (f : Addr) (fd : FuncData) : Prop where
  ok : FnOk P w K mg base CX0 k f fd ps sp
  mg : mg x = some (.ref f)
  kp : PySem.W.keepIn K (.ref f) = true
  b : Binds K fd ps []
structure NetMk (P : Program) (w : World) (K : PySem.W.Frag) (mg : Str → Option Value) (base : Heap) (C f : Addr) (fd : FuncData) : Prop where
  ok : FnOk P w K mg base CX0 1 f fd ["self", "kinds", "lines", "processing", "error"] (spInit K C)
  mg : mg "Net" = some (.ref C)
  mkC : Mk K C f
  kb : KBn K fd ["self", "kinds", "lines", "processing", "error"] 3 ["processing", "error"] (fun us ws => us ++ ws) (fun vs zs => vs ++ zs)
theorem er_at {z : Int} (h0 : 0 ≤ z) (h1 : z < 4) : ∃ e : Int, atI [V.int 0, V.int 1, V.int 0, V.int 2] z = some (.int e) ∧ 0 ≤ e ∧ e ≤ 2 := by
  have : z = 0 ∨ z = 1 ∨ z = 2 ∨ z = 3 := by omega
  rcases this with rfl | rfl | rfl | rfl
  · exact ⟨0, rfl, by decide, by decide⟩
  · exact ⟨1, rfl, by decide, by decide⟩
  · exact ⟨0, rfl, by decide, by decide⟩
  · exact ⟨2, rfl, by decide, by decide⟩
theorem ok_lnet {f C fD fI : Addr} {fd fdD fdI : FuncData} {k : Nat} (F : Fun K "_law_net" "_law_net" sLNet f fd) (T : Blt mg) (D : Callee P w K mg base 1 "_law_draw" ["cell", "many", "bound"] spDraw fD fdD) (G : NetMk P w K mg base C fI fdI) :
    FnOk P w K mg base CX0 (k + 3) f fd ["cell", "more"] (spLNet K C) := by
  refine F.ok scLNet (fun vs H Q E h => ?_) (fun cdv A outer s H vs Q E hr h => ?_)
  · obtain ⟨c, m, rfl, _⟩ := h
    rfl
  · obtain ⟨c, m, rfl, q⟩ := h
    have nd := scLNet.nd
    have hr1 : Room 1 _ := hr.mono (by omega)
    have hr2 : Room 2 _ := hr.mono (by omega)
    refine ⟨_, pss_cons (ps_set (i := 2) nd rfl (.inl rfl) (pe_call D.ok hr1 (by rfl) D.mg D.kp D.b .nil pass0 (pa_cons (pv 0) (pa_cons pe_int (pa_cons (pe_op op_shl pe_int pe_int) pa_nil))))) <| pss_cons (ps_set (i := 3) nd rfl (.inl rfl) (pe_op op_add pe_int (pe_op op_mod (pe_ix ix_list (pv 2) pe_int (fun _ _ => rfl)) pe_int))) <| pss_cons (ps_set (i := 4) nd rfl (.inl rfl) (pe_op op_add pe_int (pe_op op_mod (pe_ix ix_list (pv 2) pe_int (fun _ _ => rfl)) pe_int))) <| pss_cons (ps_set (i := 5) nd rfl (.inl rfl) (pe_op op_rep (pe_lst (pa_cons pe_str pa_nil)) (pv 3))) <| pss_cons (ps_for PassesOwn.never rfl (pi_range1 (by rfl) T.range (pa_cons (pv 4) pa_nil)) (pg_name (i := 6) nd rfl (.inl rfl)) (pss_one (ps_expr (pe_bm PySem.F.plainAttrs_list PySem.F.slot_list_insert PySem.F.type_list_insert mt_insert (pv 5) (pa_cons (pe_op op_mod (pe_ix ix_list (pv 2) (pe_op op_add pe_int (pv 6)) (fun _ _ => rfl)) (pe_op op_add (pe_callB call_len_seq (by rfl) T.len PySem.boot_len (pa_cons (pv 5) pa_nil)) pe_int)) (pa_cons pe_str pa_nil)))))) <| pss_cons (ps_set (i := 7) nd rfl (.inl rfl) (pe_lst pa_nil)) <| pss_cons (ps_for PassesOwn.never rfl (pi_range1 (by rfl) T.range (pa_cons (pe_callB call_len_seq (by rfl) T.len PySem.boot_len (pa_cons (pv 5) pa_nil)) pa_nil)) (pg_name (i := 8) nd rfl (.inl rfl)) (pss_one (ps_for PassesOwn.never rfl (pi_range1 (by rfl) T.range (pa_cons (pv 8) pa_nil)) (pg_name (i := 9) nd rfl (.inl rfl)) (pss_one (ps_if (PW.pt (pw_or (pt_cmpR op_eq (pe_ix ix_list (pv 5) (pv 8) (fun _ _ => rfl)) pe_str (nomark _)) (pw_or1 (pt_cmpR op_eq (pe_ix ix_list (pv 5) (pv 9) (fun _ _ => rfl)) pe_str (nomark _))))) (pss_one (ps_expr (pe_bm PySem.F.plainAttrs_list PySem.F.slot_list_append PySem.F.type_list_append mt_append (pv 7) (pa_cons (pe_tup (pa_cons (pv 8) (pa_cons (pv 9) pa_nil))) pa_nil)))) (pss_nil)))))) <| pss_cons (ps_set (i := 10) nd rfl (.inl rfl) (pe_call D.ok hr1 (by rfl) D.mg D.kp D.b .nil pass0 (pa_cons (pv 1) (pa_cons (pe_op op_mul pe_int (pe_callB call_len_seq (by rfl) T.len PySem.boot_len (pa_cons (pv 7) pa_nil))) (pa_cons (pe_op op_shl pe_int pe_int) pa_nil))))) <| pss_cons (ps_set (i := 11) nd rfl (.inl rfl) (pe_lst pa_nil)) <| pss_cons (ps_for PassesOwn.never rfl (pi_range1 (by rfl) T.range (pa_cons (pe_callB call_len_seq (by rfl) T.len PySem.boot_len (pa_cons (pv 7) pa_nil)) pa_nil)) (pg_name (i := 6) nd rfl (.inl rfl)) (pss_cons (ps_asg (pe_ix ix_list (pv 7) (pv 6) (fun _ _ => rfl)) (pg_tup rfl (pgs_cons (pg_name (i := 8) nd rfl (.inl rfl)) (pgs_cons (pg_name (i := 9) nd rfl (.inl rfl)) pgs_nil)))) <| pss_cons (ps_set (i := 12) nd rfl (.inl rfl) (pe_cmpR op_ne (pe_ix ix_list (pv 5) (pv 8) (fun _ _ => rfl)) (pe_ix ix_list (pv 5) (pv 9) (fun _ _ => rfl)) (nomark _))) <| pss_one (ps_if (PW.pt (pw_or (pt_cmpR op_lt (pe_op op_mod (pe_ix ix_list (pv 10) (pe_op op_mul pe_int (pv 6)) (fun _ _ => rfl)) pe_int) pe_int (nomark _)) (pw_or1 (PW.pt (pw_and (pt_val (pv 12)) (pw_and1 (pt_cmpR op_eq (pe_op op_mod (pe_ix ix_list (pv 10) (pe_op op_mul pe_int (pv 6)) (fun _ _ => rfl)) pe_int) pe_int (nomark _)))))))) (pss_one (ps_if (pt_cmpR op_eq (pe_op op_mod (pe_ix ix_list (pv 10) (pe_op op_add (pe_op op_mul pe_int (pv 6)) pe_int) (fun _ _ => rfl)) pe_int) pe_int (nomark _)) (pss_one (ps_expr (pe_bm PySem.F.plainAttrs_list PySem.F.slot_list_append PySem.F.type_list_append mt_append (pv 11) (pa_cons (pe_tup (pa_cons (pv 8) (pa_cons (pv 9) (pa_cons (pe_op op_mod (pe_op op_fdiv (pe_ix ix_list (pv 10) (pe_op op_add (pe_op op_mul pe_int (pv 6)) pe_int) (fun _ _ => rfl)) pe_int) pe_int) pa_nil)))) pa_nil)))) (pss_one (ps_expr (pe_bm PySem.F.plainAttrs_list PySem.F.slot_list_append PySem.F.type_list_append mt_append (pv 11) (pa_cons (pe_tup (pa_cons (pv 9) (pa_cons (pv 8) (pa_cons (pe_op op_mod (pe_op op_fdiv (pe_ix ix_list (pv 10) (pe_op op_add (pe_op op_mul pe_int (pv 6)) pe_int) (fun _ _ => rfl)) pe_int) pe_int) pa_nil)))) pa_nil)))))) (pss_nil)))) <| pss_cons (ps_if (pt_cmpR op_eq (pe_op op_mod (pe_ix ix_list (pv 2) pe_int (fun _ _ => rfl)) pe_int) pe_int (nomark _)) (pss_one (ps_for PassesOwn.never rfl (pi_range1 (by rfl) T.range (pa_cons (pe_callB call_len_seq (by rfl) T.len PySem.boot_len (pa_cons (pv 5) pa_nil)) pa_nil)) (pg_name (i := 8) nd rfl (.inl rfl)) (pss_one (ps_for PassesOwn.never rfl (pi_range1 (by rfl) T.range (pa_cons (pv 8) pa_nil)) (pg_name (i := 9) nd rfl (.inl rfl)) (pss_one (ps_if (PW.pt (pw_and (pt_cmpR op_eq (pe_ix ix_list (pv 5) (pv 8) (fun _ _ => rfl)) pe_str (nomark _)) (pw_and (pt_cmpR op_eq (pe_ix ix_list (pv 5) (pv 9) (fun _ _ => rfl)) pe_str (nomark _)) (pw_and1 (pt_cmpR op_lt (pe_callB call_len_seq (by rfl) T.len PySem.boot_len (pa_cons (pv 11) pa_nil)) pe_int (nomark _)))))) (pss_one (ps_expr (pe_bm PySem.F.plainAttrs_list PySem.F.slot_list_append PySem.F.type_list_append mt_append (pv 11) (pa_cons (pe_tup (pa_cons (pv 8) (pa_cons (pv 9) (pa_cons (pe_op op_mod (pe_ix ix_list (pv 2) pe_int (fun _ _ => rfl)) pe_int) pa_nil)))) pa_nil)))) (pss_nil))))))) (pss_nil)) <| pss_one (ps_ret (pe_makeK G.mkC G.ok hr2 (by rfl) G.mg G.kb pass0 (pa_cons (pv 5) (pa_cons (pv 11) pa_nil)) (pk_cons (pe_op op_mod (pe_op op_fdiv (pe_ix ix_list (pv 2) pe_int (fun _ _ => rfl)) pe_int) pe_int) (pk_cons (pe_ix ix_list (pe_lst (pa_cons pe_int (pa_cons pe_int (pa_cons pe_int (pa_cons pe_int pa_nil))))) (pe_op op_mod (pe_ix ix_list (pv 2) pe_int (fun _ _ => rfl)) pe_int) (fun _ _ => rfl)) pk_nil)))), ?_⟩
    -- numbers
    refine ⟨_, rfl, _, _, rfl, rfl, ⟨by decide, by decide, by decide⟩, c, _, 8, rfl, by decide, by decide, by decide, fun H1 pn ns s1 npn hn ln bn => ?_⟩
    have bd : ∀ j, j < 8 → 0 ≤ ns.getD j 0 ∧ ns.getD j 0 < 1048576 := fun j hj => bn _ (getD_mem (by omega))
    -- hosts, switches
    refine ⟨_, rfl, pn, _, _, _, rfl, rfl, SqL.of hn, atI_ints (j := 0) rfl (by omega), _, _, rfl, rfl, (by show (0 : Int) < 3; decide), _, _, rfl, rfl, ?_⟩
    refine ⟨_, rfl, pn, _, _, _, rfl, rfl, SqL.of hn, atI_ints (j := 1) rfl (by omega), _, _, rfl, rfl, (by show (0 : Int) < 3; decide), _, _, rfl, rfl, ?_⟩
    have x0 : 0 ≤ ns.getD 0 0 % 3 := Int.emod_nonneg _ (by decide)
    have x1 : ns.getD 0 0 % 3 < 3 := Int.emod_lt_of_pos _ (by decide)
    have y0 : 0 ≤ ns.getD 1 0 % 3 := Int.emod_nonneg _ (by decide)
    have y1 : ns.getD 1 0 % 3 < 3 := Int.emod_lt_of_pos _ (by decide)
    have hh : 2 ≤ (2 + ns.getD 0 0 % 3).toNat ∧ (2 + ns.getD 0 0 % 3).toNat ≤ 4 := by omega
    have hs : 1 ≤ (1 + ns.getD 1 0 % 3).toNat ∧ (1 + ns.getD 1 0 % 3).toNat ≤ 3 := by omega
    -- kinds = ["host"] * hosts
    refine ⟨by show 1 ≤ sizeLine; decide, fun p0 np0 => ?_⟩
    have s2 : Same H1 (upd H1 p0 (.lst [V.str "host"])) := same_new np0
    refine ⟨_, rfl, p0, _, _, rfl, rfl, upd_same, by omega, by omega, (by show 1 * (2 + ns.getD 0 0 % 3).toNat ≤ sizeLine; exact sz (by omega)), fun pk npk => ?_⟩
    have s3 := same_new (o := .lst (List.replicate (2 + ns.getD 0 0 % 3).toNat [V.str "host"]).flatten) npk
    have hn2 := (s2.trans s3) _ _ hn
    have hk0 : (upd (upd H1 p0 (.lst [V.str "host"])) pk (.lst (List.replicate (2 + ns.getD 0 0 % 3).toNat [V.str "host"]).flatten)) pk = some (.lst ((List.replicate (2 + ns.getD 0 0 % 3).toNat true).map kindV)) := by
      rw [upd_same, rep_flat, List.map_replicate]
      rfl
    have S2 := (s1.trans s2).trans s3
    have npkH : H pk = none := (s1.trans s2).free npk
    have nnk : pn ≠ pk := ne_of_none (s2 _ _ hn) npk
    generalize (upd (upd H1 p0 (.lst [V.str "host"])) pk (.lst (List.replicate (2 + ns.getD 0 0 % 3).toNat [V.str "host"]).flatten)) = H2 at S2 hn2 hk0 ⊢
    clear s2 s3 np0 npk
    -- the switches are put in
    refine ⟨_, rfl, 1 + ns.getD 1 0 % 3, rfl, by omega, by omega, for_range (n := (1 + ns.getD 1 0 % 3).toNat) (fun i σ H' => ∃ (v6 : Option V) (ks : List Bool), σ = [some (.int c), some (.int m), some (.ref pn), some (.int (2 + ns.getD 0 0 % 3)), some (.int (1 + ns.getD 1 0 % 3)), some (.ref pk), v6, none, none, none, none, none, none] ∧
      But pk H2 H' ∧ H' pk = some (.lst (ks.map kindV)) ∧ ks.count true = (2 + ns.getD 0 0 % 3).toNat ∧ ks.count false = i) ⟨none, _, rfl, But.refl _ _, hk0, List.count_replicate_self, by rw [List.count_replicate]; rfl⟩ ?_ ?_⟩
    · rintro i σ H' hi ⟨v6, ks, rfl, kb, hk, c1, c0⟩
      have lk := len_count ks
      have hn' := kb _ _ hn2 nnk
      refine ⟨_, rfl, .inl ⟨rfl, _, SqL.of hk⟩, _, rfl, _, rfl, _, _, rfl, rfl, pn, _, _, _, rfl, rfl, SqL.of hn', atI_ints (j := 2 + i) (by omega) (by omega), _, rfl, pk, _, rfl, .inl (SqL.of hk), _, _, rfl, rfl, _, _, rfl, rfl, (by rw [List.length_map]; omega), ?_⟩
      rw [List.length_map]
      have z0 : 0 ≤ ns.getD (2 + i) 0 % ((ks.length : Int) + 1) := Int.emod_nonneg _ (by omega)
      have z1 : ns.getD (2 + i) 0 % ((ks.length : Int) + 1) < (ks.length : Int) + 1 := Int.emod_lt_of_pos _ (by omega)
      refine ⟨pk, _, _, _, rfl, rfl, hk, szl (by rw [List.length_map]; omega), z0, by omega, ?_⟩
      refine ⟨_, ks.take (ns.getD (2 + i) 0 % ((ks.length : Int) + 1)).toNat ++ [false] ++ ks.drop (ns.getD (2 + i) 0 % ((ks.length : Int) + 1)).toNat, rfl, kb.trans but_self, ?_, ?_, ?_⟩
      · rw [upd_same, List.map_append, List.map_append, List.map_take, List.map_drop]
        rfl
      · rw [count_ins, c1]
        rfl
      · rw [count_ins, c0]
        rfl
    rintro σ H3 ⟨v6, ks, rfl, kb3, hk3, c1, c0⟩
    have lk := len_count ks
    have lks : ks.length ≤ 7 := by omega
    have lkm : (ks.map kindV).length = ks.length := List.length_map ..
    have S3 := same_but S2 npkH kb3
    have hn3 := kb3 _ _ hn2 nnk
    -- pairs = []
    refine ⟨Nat.zero_le _, fun pp npp => ?_⟩
    have s4 := same_new (o := .lst []) npp
    have nppH := S3.free npp
    have S4 := S3.trans s4
    have hk4 := s4 _ _ hk3
    have hn4 := s4 _ _ hn3
    have nkp : pk ≠ pp := ne_of_none hk3 npp
    have nnp : pn ≠ pp := ne_of_none hn3 npp
    have hp4 : (upd H3 pp (.lst [])) pp = some (.lst []) := upd_same
    generalize (upd H3 pp (.lst [])) = H4 at S4 hk4 hn4 hp4 ⊢
    clear s4 npp
    -- the pairs
    refine ⟨_, rfl, pk, _, rfl, .inl (SqL.of hk4), _, rfl, by omega, by omega, for_range (n := (ks.map kindV).length) (fun i σ H' => ∃ (v8 v9 : Option V) (ts : List Addr) (ps : List (Nat × Nat)), σ = [some (.int c), some (.int m), some (.ref pn), some (.int (2 + ns.getD 0 0 % 3)), some (.int (1 + ns.getD 1 0 % 3)), some (.ref pk), v6, some (.ref pp), v8, v9, none, none, none] ∧
      But pp H4 H' ∧ H' pp = some (.lst (ts.map V.ref)) ∧ PairsAt K H' ts ps ∧ PInv ks ps i 0) ⟨none, none, [], [], rfl, But.refl _ _, hp4, .nil, PInv.nil⟩ ?_ ?_⟩
    · rintro i σ H' hi ⟨v8, v9, ts, ps, rfl, kb, hp, ht, hI⟩
      rw [lkm] at hi
      rw [Int.zero_add]
      refine ⟨_, rfl, (i : Int), rfl, by omega, by omega, for_range (n := i) (fun j σ H' => ∃ (v9 : Option V) (ts : List Addr) (ps : List (Nat × Nat)), σ = [some (.int c), some (.int m), some (.ref pn), some (.int (2 + ns.getD 0 0 % 3)), some (.int (1 + ns.getD 1 0 % 3)), some (.ref pk), v6, some (.ref pp), some (.int (i : Int)), v9, none, none, none] ∧
        But pp H4 H' ∧ H' pp = some (.lst (ts.map V.ref)) ∧ PairsAt K H' ts ps ∧ PInv ks ps i j) ⟨v9, ts, ps, rfl, kb, hp, ht, hI⟩ ?_ ?_⟩
      · rintro j σ H5 hj ⟨v9, ts, ps, rfl, kb, hp, ht, hI⟩
        rw [Int.zero_add]
        have hk5 := kb _ _ hk4 nkp
        refine or_read (a := decide (kindV (ks.getD i true) = V.str "switch")) (b := decide (kindV (ks.getD j true) = V.str "switch")) (fun Q q => ?_) (fun Q q => ?_) ?_
        · exact ⟨_, rfl, _, rfl, pk, _, _, _, rfl, rfl, SqL.of hk5, atI_kind rfl hi, rfl, _, rfl, q⟩
        · exact ⟨_, rfl, _, rfl, pk, _, _, _, rfl, rfl, SqL.of hk5, atI_kind rfl (by omega), rfl, _, rfl, q⟩
        · refine ite2 (fun e => ?_) (fun e => ?_)
          · have e2 : ks.getD i true = false ∨ ks.getD j true = false := by
              rw [Bool.or_eq_true] at e
              exact e.imp (fun z => kind_sw (of_decide_eq_true z)) (fun z => kind_sw (of_decide_eq_true z))
            refine ⟨_, rfl, .inl ⟨rfl, _, SqL.of hp⟩, _, rfl, _, rfl, by show 2 ≤ sizeLine; decide, fun t nt => ?_⟩
            have st := same_new (o := .tup [V.int (i : Int), V.int (j : Int)]) nt
            have hp' := st _ _ hp
            have nf := hI.few
            have lt := ht.length
            refine ⟨pp, _, _, rfl, rfl, hp', szl (by rw [List.length_map]; omega), ?_⟩
            refine ⟨_, ts ++ [t], ps ++ [(i, j)], rfl, kb.trans (but_app nt), ?_, ?_, hI.snoc hi hj e2⟩
            · rw [upd_same, List.map_append]
              rfl
            · have kb2 : But pp (upd H5 t (.tup [V.int (i : Int), V.int (j : Int)])) (upd (upd H5 t (.tup [V.int (i : Int), V.int (j : Int)])) pp (.lst (ts.map V.ref ++ [V.ref t]))) := but_self
              exact PairsAt.snoc (PairsAt.mono ht fun a b z => kb2.tupL hp' (same_tup st z)) (kb2.tupL hp' (SqT.of upd_same))
          · exact ⟨_, ts, ps, rfl, kb, hp, ht, hI.skip⟩
      · rintro σ H5 ⟨v9, ts, ps, rfl, kb, hp, ht, hI⟩
        exact ⟨_, v9, ts, ps, rfl, kb, hp, ht, hI.next (by omega)⟩
    rintro σ H5 ⟨v8, v9, ts, ps, rfl, kb5, hp5, ht5, hI⟩
    rw [lkm] at hI
    have S5 := same_but S4 nppH kb5
    have hk5 := kb5 _ _ hk4 nkp
    have hn5 := kb5 _ _ hn4 nnp
    have ltp : ts.length = ps.length := ht5.length
    have lpm : (ts.map V.ref).length = ps.length := by rw [List.length_map]; exact ltp
    have nf := hI.few
    -- draws
    refine ⟨_, rfl, _, rfl, pp, _, rfl, .inl (SqL.of hp5), _, _, rfl, rfl, .inl ⟨by decide, by decide⟩, _, _, rfl, rfl, ⟨by decide, by decide, by decide⟩, m, 1048576, 2 * ps.length, ?_, by omega, by decide, by decide, fun H6 pd ds s6 npd hd ld bdd => ?_⟩
    · rw [lpm]
      rfl
    have S6 := S5.trans s6
    have hk6 := s6 _ _ hk5
    have hn6 := s6 _ _ hn5
    have hp6 := s6 _ _ hp5
    have ht6 : PairsAt K H6 ts ps := PairsAt.mono ht5 fun _ _ z => same_tup s6 z
    -- lines = []
    refine ⟨Nat.zero_le _, fun pl npl => ?_⟩
    have s7 := same_new (o := .lst []) npl
    have nplH := S6.free npl
    have S7 := S6.trans s7
    have hk7 := s7 _ _ hk6
    have hn7 := s7 _ _ hn6
    have hp7 := s7 _ _ hp6
    have hd7 := s7 _ _ hd
    have ht7 : PairsAt K (upd H6 pl (.lst [])) ts ps := PairsAt.mono ht6 fun _ _ z => same_tup s7 z
    have nkl : pk ≠ pl := ne_of_none hk6 npl
    have nnl : pn ≠ pl := ne_of_none hn6 npl
    have npl' : pp ≠ pl := ne_of_none hp6 npl
    have ndl : pd ≠ pl := ne_of_none hd npl
    have hl7 : (upd H6 pl (.lst [])) pl = some (.lst []) := upd_same
    generalize (upd H6 pl (.lst [])) = H7 at S7 hk7 hn7 hp7 hd7 ht7 hl7 ⊢
    clear s7 npl
    -- the lines
    refine ⟨_, rfl, pp, _, rfl, .inl (SqL.of hp7), _, rfl, by omega, by omega, for_range (n := (ts.map V.ref).length) (fun i σ H' => ∃ (v6 v8 v9 v12 : Option V) (us : List Addr) (ls : List (Nat × Nat × Int)), σ = [some (.int c), some (.int m), some (.ref pn), some (.int (2 + ns.getD 0 0 % 3)), some (.int (1 + ns.getD 1 0 % 3)), some (.ref pk), v6, some (.ref pp), v8, v9, some (.ref pd), some (.ref pl), v12] ∧
      But pl H7 H' ∧ H' pl = some (.lst (us.map V.ref)) ∧ LinesAt K H' us ls ∧ LInv ps ls i) ⟨v6, v8, v9, none, [], [], rfl, But.refl _ _, hl7, .nil, LInv.nil⟩ ?_ ?_⟩
    · rintro i σ H8 hi ⟨v6, v8, v9, v12, us, ls, rfl, kb, hl, hu, hL⟩
      rw [lpm] at hi
      rw [Int.zero_add]
      have hp8 := kb _ _ hp7 npl'
      have hk8 := kb _ _ hk7 nkl
      have hd8 := kb _ _ hd7 ndl
      have eti : ts[i]? = some ts[i] := List.getElem?_eq_getElem (by omega)
      obtain ⟨pr, epr, hT⟩ := Paired.at ht7 eti
      have hT8 := kb.tupL hl7 hT
      obtain ⟨pa, pb⟩ := pr
      obtain ⟨o1, o2, o3, o4⟩ := hI.ok _ (List.mem_of_getElem? epr)
      have o1 : pb < pa := o1
      have o2 : pa < ks.length := o2
      have eix : atI (ts.map V.ref) (i : Int) = some (V.ref ts[i]) := atI_nat (by rw [List.getElem?_map, eti]; rfl)
      refine ⟨_, rfl, _, rfl, pp, _, _, _, rfl, rfl, SqL.of hp8, eix, ts[i], _, rfl, hT8, rfl, _, _, rfl, _, _, rfl, rfl, ?_⟩
      refine ⟨_, rfl, _, rfl, pk, _, _, _, rfl, rfl, SqL.of hk8, atI_kind rfl o2, _, rfl, _, rfl, pk, _, _, _, rfl, rfl, SqL.of hk8, atI_kind rfl (by omega), rfl, ?_⟩
      have ix0 : atI (ds.map V.int) (2 * (i : Int)) = some (.int (ds.getD (2 * i) 0)) := atI_ints (by omega) (by omega)
      have ix1 : atI (ds.map V.int) (2 * (i : Int) + 1) = some (.int (ds.getD (2 * i + 1) 0)) := atI_ints (by omega) (by omega)
      have few := hL.few
      have lu : us.length = ls.length := hu.length
      have t0 : 0 ≤ ds.getD (2 * i + 1) 0 / 2 % 4 := Int.emod_nonneg _ (by decide)
      have t1 : ds.getD (2 * i + 1) 0 / 2 % 4 < 4 := Int.emod_lt_of_pos _ (by decide)
      dsimp only [gName]
      refine or_read (a := decide (ds.getD (2 * i) 0 % 5 < 3)) (b := (!decide (kindV (ks.getD pa true) = kindV (ks.getD pb true))) && decide (V.int (ds.getD (2 * i) 0 % 5) = V.int 3)) (fun Q q => ?_) (fun Q q => ?_) ?_
      · exact ⟨_, rfl, _, rfl, _, _, rfl, rfl, .inl ⟨by decide, by decide⟩, pd, _, _, _, rfl, rfl, SqL.of hd8, ix0, _, _, rfl, rfl, (by show (0 : Int) < 5; decide), _, _, rfl, rfl, _, rfl, q⟩
      · refine and_read (fun Q q => ?_) (fun _ Q q => ?_) q
        · exact ⟨_, rfl, _, rfl, q⟩
        · exact ⟨_, rfl, _, rfl, _, _, rfl, rfl, .inl ⟨by decide, by decide⟩, pd, _, _, _, rfl, rfl, SqL.of hd8, ix0, _, _, rfl, rfl, (by show (0 : Int) < 5; decide), rfl, _, rfl, q⟩
      · refine ite2 (fun _ => ?_) (fun _ => ?_)
        · refine ⟨_, rfl, _, rfl, _, _, rfl, rfl, .inl ⟨by decide, by decide⟩, _, _, rfl, rfl, pd, _, _, _, rfl, rfl, SqL.of hd8, ix1, _, _, rfl, rfl, (by show (0 : Int) < 2; decide), rfl, _, rfl, ite2 (fun _ => ?_) (fun _ => ?_)⟩
          · refine ⟨_, rfl, .inl ⟨rfl, _, SqL.of hl⟩, _, rfl, _, rfl, _, rfl, _, rfl, _, _, rfl, rfl, .inl ⟨by decide, by decide⟩, _, _, rfl, rfl, pd, _, _, _, rfl, rfl, SqL.of hd8, ix1, _, _, rfl, rfl, ⟨by decide, by decide⟩, _, _, rfl, rfl, (by show (0 : Int) < 4; decide), by show 3 ≤ sizeLine; decide, fun t nt => ?_⟩
            have st := same_new (o := .tup [V.int (pa : Int), V.int (pb : Int), V.int (ds.getD (2 * i + 1) 0 / 2 % 4)]) nt
            have hl' := st _ _ hl
            refine ⟨pl, _, _, rfl, rfl, hl', szl (by rw [List.length_map]; omega), ?_⟩
            refine ⟨_, _, _, _, us ++ [t], ls ++ [(pa, pb, ds.getD (2 * i + 1) 0 / 2 % 4)], rfl, kb.trans (but_app nt), ?_, ?_, hL.snoc hI.nd (by rw [norm_gt o1]; exact epr) ⟨t0, Int.le_of_lt t1⟩⟩
            · rw [upd_same, List.map_append]
              rfl
            · have kb2 : But pl (upd H8 t (.tup [V.int (pa : Int), V.int (pb : Int), V.int (ds.getD (2 * i + 1) 0 / 2 % 4)])) (upd (upd H8 t (.tup [V.int (pa : Int), V.int (pb : Int), V.int (ds.getD (2 * i + 1) 0 / 2 % 4)])) pl (.lst (us.map V.ref ++ [V.ref t]))) := but_self
              exact LinesAt.snoc (LinesAt.mono hu fun a b z => kb2.tupL hl' (same_tup st z)) (kb2.tupL hl' (SqT.of upd_same))
          · refine ⟨_, rfl, .inl ⟨rfl, _, SqL.of hl⟩, _, rfl, _, rfl, _, rfl, _, rfl, _, _, rfl, rfl, .inl ⟨by decide, by decide⟩, _, _, rfl, rfl, pd, _, _, _, rfl, rfl, SqL.of hd8, ix1, _, _, rfl, rfl, ⟨by decide, by decide⟩, _, _, rfl, rfl, (by show (0 : Int) < 4; decide), by show 3 ≤ sizeLine; decide, fun t nt => ?_⟩
            have st := same_new (o := .tup [V.int (pb : Int), V.int (pa : Int), V.int (ds.getD (2 * i + 1) 0 / 2 % 4)]) nt
            have hl' := st _ _ hl
            refine ⟨pl, _, _, rfl, rfl, hl', szl (by rw [List.length_map]; omega), ?_⟩
            refine ⟨_, _, _, _, us ++ [t], ls ++ [(pb, pa, ds.getD (2 * i + 1) 0 / 2 % 4)], rfl, kb.trans (but_app nt), ?_, ?_, hL.snoc hI.nd (by rw [norm_lt o1]; exact epr) ⟨t0, Int.le_of_lt t1⟩⟩
            · rw [upd_same, List.map_append]
              rfl
            · have kb2 : But pl (upd H8 t (.tup [V.int (pb : Int), V.int (pa : Int), V.int (ds.getD (2 * i + 1) 0 / 2 % 4)])) (upd (upd H8 t (.tup [V.int (pb : Int), V.int (pa : Int), V.int (ds.getD (2 * i + 1) 0 / 2 % 4)])) pl (.lst (us.map V.ref ++ [V.ref t]))) := but_self
              exact LinesAt.snoc (LinesAt.mono hu fun a b z => kb2.tupL hl' (same_tup st z)) (kb2.tupL hl' (SqT.of upd_same))
        · exact ⟨_, _, _, _, us, ls, rfl, kb, hl, hu, hL.skip⟩
    rintro σ H8 ⟨v6, v8, v9, v12, us, ls, rfl, kb8, hl8, hu8, hL⟩
    rw [lpm] at hL
    have hH : HInv ks ps ls 0 0 := hL.host (by omega)
    have hn8 := kb8 _ _ hn7 nnl
    have hk8 := kb8 _ _ hk7 nkl
    -- the end, from any such state
    have fin : ∀ (H9 : Hp) (us : List Addr) (ls : List (Nat × Nat × Int)), But pl H7 H9 → H9 pl = some (.lst (us.map V.ref)) → LinesAt K H9 us ls → LsOk ks.length ls →
        ∀ (H10 : Hp), Same H9 H10 → ∀ (x dx : Addr), H10 x = none → H10 dx = none → dx ≠ x → ∀ er : Int, 0 ≤ er → er ≤ 2 →
          spInit K C [.ref x, .ref pk, .ref pl, .int (ns.getD 6 0 / 5 % 3), .int er] (upd (upd H10 dx (.own x)) x (.ins C dx [])) (fun v H' => v = .non ∧ Q (.ref x) H') E0 := by
      intro H9 us ls kb hl hu hL H10 s10 x dx nx ndx ne er e0 e1
      have S9 : Same H H9 := same_but S7 nplH kb
      have z : ∀ b o, H10 b = some o → b ≠ x ∧ (upd (upd H10 dx (.own x)) x (.ins C dx [])) b = some o := fun b o e => by
        have h1 := ne_of_none e nx
        exact ⟨h1, by rw [upd_ne h1, upd_ne (ne_of_none e ndx)]; exact e⟩
      have zs : Same H10 (upd (upd H10 dx (.own x)) x (.ins C dx [])) := fun b o e => (z b o e).2
      refine ⟨x, dx, pk, pl, us, ⟨ks, ls, ns.getD 6 0 / 5 % 3, er⟩, rfl, upd_same, SqL.of (zs _ _ (s10 _ _ (kb _ _ hk7 nkl))), SqL.of (zs _ _ (s10 _ _ hl)), LinesAt.mono hu fun a ys t => same_tup zs (same_tup s10 t), ?_, fun H' kb' hN => ⟨rfl, ?_⟩⟩
      · have := hL.few
        show ls.length ≤ 1000
        omega
      · refine q H' x _ (fun b o e => ?_) (S9.free (s10.free nx)) hN.at ⟨by show 2 ≤ ks.count true; omega, by show ks.count true ≤ 4; omega, by show 1 ≤ ks.count false; omega, by show ks.count false ≤ 3; omega, hL, Int.emod_nonneg _ (by decide), ?_, e0, e1⟩
        · obtain ⟨z1, z2⟩ := z b o (s10 _ _ (S9 _ _ e))
          exact kb' b o z2 z1
        · have : ns.getD 6 0 / 5 % 3 < 3 := Int.emod_lt_of_pos _ (by decide)
          show ns.getD 6 0 / 5 % 3 ≤ 2
          omega
    have u0 : 0 ≤ ns.getD 7 0 % 4 := Int.emod_nonneg _ (by decide)
    have u1 : ns.getD 7 0 % 4 < 4 := Int.emod_lt_of_pos _ (by decide)
    obtain ⟨er, ee, er0, er1⟩ := er_at u0 u1
    -- if numbers[5] % 7 == 0
    refine ⟨_, rfl, pn, _, _, _, rfl, rfl, SqL.of hn8, atI_ints (j := 5) rfl (by omega), _, _, rfl, rfl, (by show (0 : Int) < 7; decide), rfl, _, rfl, ite2 (fun _ => ?_) (fun _ => ?_)⟩
    · refine ⟨_, rfl, pk, _, rfl, .inl (SqL.of hk8), _, rfl, by omega, by omega, for_range (n := (ks.map kindV).length) (fun i σ H' => ∃ (v8 v9 : Option V) (us : List Addr) (ls : List (Nat × Nat × Int)), σ = [some (.int c), some (.int m), some (.ref pn), some (.int (2 + ns.getD 0 0 % 3)), some (.int (1 + ns.getD 1 0 % 3)), some (.ref pk), v6, some (.ref pp), v8, v9, some (.ref pd), some (.ref pl), v12] ∧
        But pl H7 H' ∧ H' pl = some (.lst (us.map V.ref)) ∧ LinesAt K H' us ls ∧ HInv ks ps ls i 0) ⟨v8, v9, us, ls, rfl, kb8, hl8, hu8, hH⟩ ?_ ?_⟩
      · rintro i σ H9 hi ⟨v8, v9, us, ls, rfl, kb, hl, hu, hL⟩
        rw [lkm] at hi
        rw [Int.zero_add]
        refine ⟨_, rfl, (i : Int), rfl, by omega, by omega, for_range (n := i) (fun j σ H' => ∃ (v9 : Option V) (us : List Addr) (ls : List (Nat × Nat × Int)), σ = [some (.int c), some (.int m), some (.ref pn), some (.int (2 + ns.getD 0 0 % 3)), some (.int (1 + ns.getD 1 0 % 3)), some (.ref pk), v6, some (.ref pp), some (.int (i : Int)), v9, some (.ref pd), some (.ref pl), v12] ∧
          But pl H7 H' ∧ H' pl = some (.lst (us.map V.ref)) ∧ LinesAt K H' us ls ∧ HInv ks ps ls i j) ⟨v9, us, ls, rfl, kb, hl, hu, hL⟩ ?_ ?_⟩
        · rintro j σ H9 hj ⟨v9, us, ls, rfl, kb, hl, hu, hL⟩
          rw [Int.zero_add]
          have hk9 := kb _ _ hk7 nkl
          have hn9 := kb _ _ hn7 nnl
          have lu : us.length = ls.length := hu.length
          have few := hL.few
          refine and_read (a := decide (kindV (ks.getD i true) = V.str "host")) (b := decide (kindV (ks.getD j true) = V.str "host") && decide ((((us.map V.ref).length : Nat) : Int) < 20)) (fun Q q => ?_) (fun _ Q q => ?_) ?_
          · exact ⟨_, rfl, _, rfl, pk, _, _, _, rfl, rfl, SqL.of hk9, atI_kind rfl hi, rfl, _, rfl, q⟩
          · refine and_read (fun Q q => ?_) (fun _ Q q => ?_) q
            · exact ⟨_, rfl, _, rfl, pk, _, _, _, rfl, rfl, SqL.of hk9, atI_kind rfl (by omega), rfl, _, rfl, q⟩
            · exact ⟨_, rfl, pl, _, rfl, .inl (SqL.of hl), _, _, rfl, rfl, _, rfl, q⟩
          · refine ite2 (fun e => ?_) (fun e => ?_)
            · rw [Bool.and_eq_true, Bool.and_eq_true] at e
              obtain ⟨e1, e2, e3⟩ := e
              have e1 := kind_ho (of_decide_eq_true e1)
              have e2 := kind_ho (of_decide_eq_true e2)
              have e3 := of_decide_eq_true e3
              rw [List.length_map] at e3
              have t0 : 0 ≤ ns.getD 6 0 % 5 := Int.emod_nonneg _ (by decide)
              have t1 : ns.getD 6 0 % 5 < 5 := Int.emod_lt_of_pos _ (by decide)
              refine ⟨_, rfl, .inl ⟨rfl, _, SqL.of hl⟩, _, rfl, _, rfl, _, rfl, pn, _, _, _, rfl, rfl, SqL.of hn9, atI_ints (j := 6) rfl (by omega), _, _, rfl, rfl, (by show (0 : Int) < 5; decide), by show 3 ≤ sizeLine; decide, fun t nt => ?_⟩
              have st := same_new (o := .tup [V.int (i : Int), V.int (j : Int), V.int (ns.getD 6 0 % 5)]) nt
              have hl' := st _ _ hl
              refine ⟨pl, _, _, rfl, rfl, hl', szl (by rw [List.length_map]; omega), ?_⟩
              refine ⟨_, us ++ [t], ls ++ [(i, j, ns.getD 6 0 % 5)], rfl, kb.trans (but_app nt), ?_, ?_, hL.snoc hI hi hj e1 e2 ⟨t0, by omega⟩ (by omega)⟩
              · rw [upd_same, List.map_append]
                rfl
              · have kb2 : But pl (upd H9 t (.tup [V.int (i : Int), V.int (j : Int), V.int (ns.getD 6 0 % 5)])) (upd (upd H9 t (.tup [V.int (i : Int), V.int (j : Int), V.int (ns.getD 6 0 % 5)])) pl (.lst (us.map V.ref ++ [V.ref t]))) := but_self
                exact LinesAt.snoc (LinesAt.mono hu fun a b z => kb2.tupL hl' (same_tup st z)) (kb2.tupL hl' (SqT.of upd_same))
            · exact ⟨_, us, ls, rfl, kb, hl, hu, hL.skip⟩
        · rintro σ H9 ⟨v9, us, ls, rfl, kb, hl, hu, hL⟩
          exact ⟨_, v9, us, ls, rfl, kb, hl, hu, hL.next⟩
      · rintro σ H9 ⟨v8, v9, us, ls, rfl, kb, hl, hu, hL⟩
        have hn9 := kb _ _ hn7 nnl
        refine ⟨_, rfl, _, rfl, _, rfl, pn, _, _, _, rfl, rfl, SqL.of hn9, atI_ints (j := 6) rfl (by omega), _, _, rfl, rfl, ⟨by decide, by decide⟩, _, _, rfl, rfl, (by show (0 : Int) < 3; decide), by show 4 ≤ sizeLine; decide, fun pe npe => ?_⟩
        have se := same_new (o := .lst [V.int 0, V.int 1, V.int 0, V.int 2]) npe
        refine ⟨_, rfl, pn, _, _, _, rfl, rfl, SqL.of (se _ _ hn9), atI_ints (j := 7) rfl (by omega), _, _, rfl, rfl, (by show (0 : Int) < 4; decide), pe, _, _, _, rfl, rfl, SqL.of upd_same, ee, rfl, rfl, fun x dx nx ndx ne => ?_⟩
        exact fin H9 us ls kb hl hu (hL.ok hI) _ se x dx nx ndx ne er er0 er1
    · refine ⟨_, rfl, _, rfl, _, rfl, pn, _, _, _, rfl, rfl, SqL.of hn8, atI_ints (j := 6) rfl (by omega), _, _, rfl, rfl, ⟨by decide, by decide⟩, _, _, rfl, rfl, (by show (0 : Int) < 3; decide), by show 4 ≤ sizeLine; decide, fun pe npe => ?_⟩
      have se := same_new (o := .lst [V.int 0, V.int 1, V.int 0, V.int 2]) npe
      refine ⟨_, rfl, pn, _, _, _, rfl, rfl, SqL.of (se _ _ hn8), atI_ints (j := 7) rfl (by omega), _, _, rfl, rfl, (by show (0 : Int) < 4; decide), pe, _, _, _, rfl, rfl, SqL.of upd_same, ee, rfl, rfl, fun x dx nx ndx ne => ?_⟩
      exact fin H8 us ls kb8 hl8 hu8 (hH.ok hI) _ se x dx nx ndx ne er er0 er1
end
end My
namespace My
open PySem PySem.Spec PyProof.Rows L2
abbrev sJoined : Stmt := top 9
abbrev sPaths : Stmt := top 10
section
variable {P : Program} {w : World} {K : PySem.W.Frag} {mg : Str → Option Value} {base : Heap}
/-! ### _law_joined -/
theorem scJ : FnScope ["net", "a", "b", "first", "second", "ticks"] ["net", "a", "b"] (defScope sJoined) := ⟨rfl, rfl, rfl, by decide +kernel, rfl, by decide +kernel, by decide +kernel⟩
def spJoined (K : PySem.W.Frag) (C : Addr) : Sp := fun vs H Q _ => ∃ (p : Addr) (a b : Nat) (N : NetD), vs = [.ref p, .int (a : Int), .int (b : Int)] ∧ NetAt K C H p N ∧ Q (optV (joined N a b)) H
theorem ok_joined {f C : Addr} {fd : FuncData} {k : Nat} (F : Fun K "_law_joined" "_law_joined" sJoined f fd) (c : NetC K C) : FnOk P w K mg base CX0 (k + 1) f fd ["net", "a", "b"] (spJoined K C) := by
  refine F.ok scJ (fun vs H Q E h => ?_) (fun cdv A outer s H vs Q E hr h => ?_)
  · obtain ⟨p, a, b, N, rfl, _⟩ := h
    rfl
  · obtain ⟨p, a, b, N, rfl, hN, q⟩ := h
    have nd := scJ.nd
    refine ⟨_, pss_cons (ps_for PassesOwn.never rfl (pi_list (pe_fld (pv 0) rfl)) (pg_tup rfl (pgs_cons (pg_name (i := 3) nd rfl (.inl rfl)) (pgs_cons (pg_name (i := 4) nd rfl (.inl rfl)) (pgs_cons (pg_name (i := 5) nd rfl (.inl rfl)) pgs_nil)))) (pss_one (ps_if (PW.pt (pw_or (PW.pt (pw_and (pt_cmpR op_eq (pv 3) (pv 1) (nomark _)) (pw_and1 (pt_cmpR op_eq (pv 4) (pv 2) (nomark _))))) (pw_or1 (PW.pt (pw_and (pt_cmpR op_eq (pv 3) (pv 2) (nomark _)) (pw_and1 (pt_cmpR op_eq (pv 4) (pv 1) (nomark _)))))))) (pss_one (ps_ret (pv 5))) (pss_nil)))) <| pss_one (ps_ret pe_non), ?_⟩
    obtain ⟨dx, lk, ll, ld, ts, e1, e2, e3, e4, e5⟩ := id hN
    have tlen : ts.length = N.ls.length := e4.length
    refine ⟨_, rfl, p, C, dx, _, _, rfl, e1, c.cl, c.n2, g2, ll, rfl, ⟨_, SqL.of e3⟩, for_list (K := K) (a := ll) (xs := ts.map V.ref) (fun i σ H' => ∃ (v3 v4 v5 : Option V), σ = [some (.ref p), some (.int (a : Int)), some (.int (b : Int)), v3, v4, v5] ∧ H' = H ∧ (N.ls.take i).find? (hits a b) = none)
      ⟨none, none, none, rfl, rfl, rfl⟩ (fun i σ H' _ ⟨_, _, _, _, z, _⟩ => by rw [z]; exact SqL.of e3) ?_ ?_⟩
    · rintro i x σ H' hi ⟨v3, v4, v5, rfl, rfl, hf⟩
      rw [List.getElem?_map] at hi
      cases ht : ts[i]? with
      | none => rw [ht] at hi; cases hi
      | some t =>
        rw [ht] at hi
        cases hi
        obtain ⟨l, el, hT⟩ := Paired.at e4 ht
        refine ⟨t, _, rfl, hT, rfl, _, _, rfl, _, _, rfl, _, _, rfl, rfl, ?_⟩
        have eb : (decide (V.int (l.1 : Int) = V.int (a : Int)) && decide (V.int (l.2.1 : Int) = V.int (b : Int)) || decide (V.int (l.1 : Int) = V.int (b : Int)) && decide (V.int (l.2.1 : Int) = V.int (a : Int))) = hits a b l := by
          rw [dec_nat, dec_nat, dec_nat, dec_nat]
          rfl
        refine or_read (a := decide (V.int (l.1 : Int) = V.int (a : Int)) && decide (V.int (l.2.1 : Int) = V.int (b : Int))) (b := decide (V.int (l.1 : Int) = V.int (b : Int)) && decide (V.int (l.2.1 : Int) = V.int (a : Int))) (fun Q q => ?_) (fun Q q => ?_) ?_
        · exact and_read (fun Q q => ⟨_, rfl, _, rfl, rfl, _, rfl, q⟩) (fun _ Q q => ⟨_, rfl, _, rfl, rfl, _, rfl, q⟩) q
        · exact and_read (fun Q q => ⟨_, rfl, _, rfl, rfl, _, rfl, q⟩) (fun _ Q q => ⟨_, rfl, _, rfl, rfl, _, rfl, q⟩) q
        · rw [eb]
          refine ite2 (fun e => ?_) (fun e => ?_)
          · have ej : joined N a b = some l.2.2 := by
              unfold joined
              rw [find_take (hits a b) el hf e]
              rfl
            rw [ej] at q
            exact ⟨_, rfl, q⟩
          · exact ⟨_, _, _, rfl, rfl, find_skip (hits a b) el hf e⟩
    · rintro σ H' ⟨v3, v4, v5, rfl, rfl, hf⟩
      rw [List.length_map, tlen, List.take_length] at hf
      have ej : joined N a b = none := by
        unfold joined
        rw [hf]
        rfl
      rw [ej] at q
      exact q
/-! ### _law_paths -/
theorem scP : FnScope ["net", "most", "found", "rows", "turn", "longer", "row", "b", "a"] ["net", "most"] (defScope sPaths) := ⟨rfl, rfl, rfl, by decide +kernel, rfl, by decide +kernel, by decide +kernel⟩
def spPaths (K : PySem.W.Frag) (C : Addr) : Sp := fun vs H Q _ => ∃ (p : Addr) (m : Nat) (N : NetD), vs = [.ref p, .int ((m : Int) + 1)] ∧ NetAt K C H p N ∧ N.ks.length ≤ 7 ∧ m ≤ 4 ∧
  ∀ (H' : Hp) (pf : Addr) (fs : List Addr), Same H H' → H pf = none → H' pf = some (.lst (fs.map V.ref)) → RowsAt H' fs (foundOf N m) → Q (.ref pf) H'
theorem ok_paths {f C fJ : Addr} {fd fdJ : FuncData} {k : Nat} (F : Fun K "_law_paths" "_law_paths" sPaths f fd) (T : Blt mg) (c : NetC K C) (J : Callee P w K mg base 1 "_law_joined" ["net", "a", "b"] (spJoined K C) fJ fdJ) :
    FnOk P w K mg base CX0 (k + 2) f fd ["net", "most"] (spPaths K C) := by
  refine F.ok scP (fun vs H Q E h => ?_) (fun cdv A outer s H vs Q E hr h => ?_)
  · obtain ⟨p, m, N, rfl, _⟩ := h
    rfl
  · obtain ⟨p, m, N, rfl, hN, hn, hm, q⟩ := h
    have nd := scP.nd
    have hr1 : Room 1 _ := hr.mono (by omega)
    refine ⟨_, pss_cons (ps_set (i := 2) nd rfl (.inl rfl) (pe_lst pa_nil)) <| pss_cons (ps_setLc (i := 3) (own := [("a", 8)]) (g := gName 8) rfl nd rfl rfl (sw_true rfl rfl rfl (by decide +kernel)) (pi_range1 (by rfl) T.range (pa_cons (pe_callB call_len_seq (by rfl) T.len PySem.boot_len (pa_cons (pe_fld (pv 0) rfl) pa_nil)) pa_nil)) (blkOk_by (own := [("a", 8)]) (N := ["net", "most", "found", "rows", "turn", "longer", "row", "b", "a"]) (sc := defScope sPaths) (by decide +kernel)) (fun _ _ _ _ _ => pg_name (i := 8) nd rfl (Or.inl rfl)) (fun _ _ _ _ _ => pts_one (pt_cmpR op_eq (pe_ix (ix_listK (K := K)) (pe_fldK (K := K) (pv 0)) (pv 8) (fun _ _ => rfl)) pe_str (nomark _))) (fun _ _ _ _ _ => (pe_lst (pa_cons (pv 8) pa_nil)))) <| pss_cons (ps_for PassesOwn.never rfl (pi_range1 (by rfl) T.range (pa_cons (pe_op op_sub (pv 1) pe_int) pa_nil)) (pg_name (i := 4) nd rfl (.inl rfl)) (pss_cons (ps_set (i := 5) nd rfl (.inl rfl) (pe_lst pa_nil)) <| pss_cons (ps_for PassesOwn.never rfl (pi_list (pv 3)) (pg_name (i := 6) nd rfl (.inl rfl)) (pss_one (ps_for PassesOwn.never rfl (pi_range1 (by rfl) T.range (pa_cons (pe_callB call_len_seq (by rfl) T.len PySem.boot_len (pa_cons (pe_fld (pv 0) rfl) pa_nil)) pa_nil)) (pg_name (i := 7) nd rfl (.inl rfl)) (pss_one (ps_if (PW.pt (pw_and (pt_cmpR op_notIn_seq (pv 7) (pv 6) rfl) (pw_and1 (pt_cmpR op_notN (pe_call J.ok hr1 (by rfl) J.mg J.kp J.b .nil pass0 (pa_cons (pv 0) (pa_cons (pe_ix ix_list (pv 6) (pe_op op_sub (pe_callB call_len_seq (by rfl) T.len PySem.boot_len (pa_cons (pv 6) pa_nil)) pe_int) (fun _ _ => rfl)) (pa_cons (pv 7) pa_nil)))) pe_non (nomark _))))) (pss_one (ps_if (pt_cmpR op_eq (pe_ix ix_list (pe_fld (pv 0) rfl) (pv 7) (fun _ _ => rfl)) pe_str (nomark _)) (pss_one (ps_expr (pe_bm PySem.F.plainAttrs_list PySem.F.slot_list_append PySem.F.type_list_append mt_append (pv 2) (pa_cons (pe_op op_cat (pv 6) (pe_lst (pa_cons (pv 7) pa_nil))) pa_nil)))) (pss_one (ps_expr (pe_bm PySem.F.plainAttrs_list PySem.F.slot_list_append PySem.F.type_list_append mt_append (pv 5) (pa_cons (pe_op op_cat (pv 6) (pe_lst (pa_cons (pv 7) pa_nil))) pa_nil)))))) (pss_nil)))))) <| pss_one (ps_set (i := 3) nd rfl (.inl rfl) (pv 5)))) <| pss_one (ps_ret (pv 2)), ?_⟩
    have eN := hN
    obtain ⟨dx, lk, ll, ld, ts, e1, e2, e3, e4, e5⟩ := hN
    have en : (N.ks.map kindV).length = N.ks.length := List.length_map ..
    -- found = []
    refine ⟨Nat.zero_le _, fun pf npf => ?_⟩
    have s1 := same_new (o := .lst []) npf
    have hf1 : (upd H pf (.lst [])) pf = some (.lst []) := upd_same
    generalize (upd H pf (.lst [])) = H1 at s1 hf1 ⊢
    -- rows = [[a] for a in range(len(net.kinds)) if net.kinds[a] == "host"]
    refine ⟨_, rfl, p, C, dx, _, _, rfl, s1 _ _ e1, c.cl, c.n1, g1, lk, _, rfl, .inl (SqL.of (s1 _ _ e2)), _, rfl, by omega, by omega, fun D nD => ?_⟩
    have nfD : pf ≠ D := ne_of_none hf1 nD
    refine lc_range (lo := 0) (n := (N.ks.map kindV).length) (fun i H' => Same H H' ∧ H' pf = some (.lst []) ∧ ∃ rs : List Addr, H' D = some (.lst (rs.map V.ref)) ∧ RowsAt H' rs (((List.range i).filter (host N)).map fun a => [a]) ∧ rs.length ≤ i)
      ⟨s1.trans (same_new nD), by rw [upd_ne nfD]; exact hf1, [], upd_same, .nil, Nat.le_refl _⟩ ?_ ?_
    · rintro i H' hi ⟨sm, hf, rs, hD, hR, hl⟩
      rw [en] at hi
      rw [Int.zero_add]
      refine ⟨rfl, ?_⟩
      refine ⟨_, rfl, p, C, dx, _, _, rfl, sm _ _ e1, c.cl, c.n1, g1, _, rfl, lk, _, _, _, rfl, rfl, SqL.of (sm _ _ e2), atI_kind rfl hi, rfl, _, rfl, ?_⟩
      have eb : decide (kindV (N.ks.getD i true) = V.str "host") = host N i := by
        unfold host
        cases N.ks.getD i true <;> decide +kernel
      rw [eb]
      refine ite2 (fun e => ?_) (fun e => ?_)
      · refine ⟨_, rfl, by show 1 ≤ sizeLine; decide, fun t nt => ?_⟩
        have st := same_new (o := .lst [V.int (i : Int)]) nt
        have hD' := st _ _ hD
        refine ⟨_, hD', szl (by rw [List.length_map]; omega), ?_⟩
        have kb : But D (upd H' t (.lst [V.int (i : Int)])) (upd (upd H' t (.lst [V.int (i : Int)])) D (.lst (rs.map V.ref ++ [V.ref t]))) := but_self
        have ntD : t ≠ D := fun z => by rw [z, hD] at nt; cases nt
        refine ⟨same_but (sm.trans st) (s1.free nD) kb, kb _ _ (st _ _ hf) nfD, rs ++ [t], ?_, ?_, by rw [List.length_append, List.length_singleton]; omega⟩
        · rw [upd_same, List.map_append]
          rfl
        · rw [filt_succ, if_pos e]
          refine RowsAt.snoc ((hR.same st).but hD' kb) (by simp) ?_
          rw [upd_ne ntD, upd_same]
          rfl
      · refine ⟨sm, hf, rs, hD, ?_, by omega⟩
        rw [filt_succ, if_neg e, List.append_nil]
        exact hR
    rintro H2 ⟨s2, hf2, rs, hD2, hR2, _⟩
    rw [en] at hR2
    -- the turns
    refine ⟨_, rfl, _, _, rfl, rfl, (m : Int) + 1 - 1, rfl, by omega, by omega, for_range (n := ((m : Int) + 1 - 1).toNat) (fun t σ H' => ∃ (pr : Addr) (rs fs : List Addr) (v4 v5 v6 v7 v8 : Option V), σ = [some (.ref p), some (.int ((m : Int) + 1)), some (.ref pf), some (.ref pr), v4, v5, v6, v7, v8] ∧
      Same H H' ∧ pr ≠ pf ∧ H' pf = some (.lst (fs.map V.ref)) ∧ RowsAt H' fs (foundOf N t) ∧ H' pr = some (.lst (rs.map V.ref)) ∧ RowsAt H' rs (rowsOf N t))
      ⟨D, rs, [], _, _, _, _, _, rfl, s2, nfD.symm, hf2, .nil, hD2, hR2⟩ ?_ ?_⟩
    · rintro t σ H3 ht ⟨pr, rs, fs, v4, v5, v6, v7, v8, rfl, s3, nrf, hf3, hF3, hr3, hR3⟩
      have ht4 : t < 4 := by omega
      have lrs : rs.length = (rowsOf N t).length := hR3.length
      have lfs : fs.length = (foundOf N t).length := hF3.length
      have b1 := rows_len N hn t
      have b2 := found_len N hn t
      have b3 : 8 ^ (t + 1) ≤ 8 ^ 4 := Nat.pow_le_pow_right (by decide) (by omega)
      have b4 : (8 : Nat) ^ 4 = 4096 := by decide
      -- longer = []
      refine ⟨Nat.zero_le _, fun pl npl => ?_⟩
      have s4 := same_new (o := .lst []) npl
      have nfl : pf ≠ pl := ne_of_none hf3 npl
      have nrl : pr ≠ pl := ne_of_none hr3 npl
      have nplH := s3.free npl
      have hl4 : (upd H3 pl (.lst [])) pl = some (.lst []) := upd_same
      have hf4 := s4 _ _ hf3
      have hr4 := s4 _ _ hr3
      have hF4 := hF3.same s4
      have hR4 := hR3.same s4
      have S4 := s3.trans s4
      generalize (upd H3 pl (.lst [])) = H4 at s4 hl4 hf4 hr4 hF4 hR4 S4 ⊢
      -- for row in rows
      refine ⟨_, rfl, pr, rfl, ⟨_, SqL.of hr4⟩, for_list (K := K) (a := pr) (xs := rs.map V.ref) (fun i σ H' => ∃ (fs ls : List Addr) (v6 v7 : Option V), σ = [some (.ref p), some (.int ((m : Int) + 1)), some (.ref pf), some (.ref pr), some (.int (0 + (t : Int))), some (.ref pl), v6, v7, v8] ∧
        Same H H' ∧ H' pf = some (.lst (fs.map V.ref)) ∧ RowsAt H' fs (foundOf N t ++ ((rowsOf N t).take i).flatMap (exH N)) ∧ H' pl = some (.lst (ls.map V.ref)) ∧ RowsAt H' ls (((rowsOf N t).take i).flatMap (exS N)) ∧ H' pr = some (.lst (rs.map V.ref)) ∧ RowsAt H' rs (rowsOf N t))
        ⟨fs, [], v6, v7, rfl, S4, hf4, by simpa using hF4, hl4, .nil, hr4, hR4⟩ (fun i σ H' _ ⟨_, _, _, _, _, _, _, _, _, _, z, _⟩ => SqL.of z) ?_ ?_⟩
      · rintro i x σ H5 hi ⟨fs, ls, v6, v7, rfl, s5, hf5, hF5, hl5, hL5, hr5, hR5⟩
        rw [List.getElem?_map] at hi
        cases htr : rs[i]? with
        | none => rw [htr] at hi; cases hi
        | some ra =>
          rw [htr] at hi
          cases hi
          obtain ⟨row, erow, rne, hrow⟩ := Paired.at hR5 htr
          have hii : i < (rowsOf N t).length := (List.getElem?_eq_some_iff.mp erow).1
          have f1 := len_flat (exH N) 7 (fun a => Nat.le_trans (exH_len N a) hn) ((rowsOf N t).take i)
          have f2 := len_flat (exS N) 7 (fun a => Nat.le_trans (exS_len N a) hn) ((rowsOf N t).take i)
          have f3 : ((rowsOf N t).take i).length ≤ 4096 := by rw [List.length_take]; omega
          refine ⟨_, rfl, p, C, dx, _, _, rfl, s5 _ _ e1, c.cl, c.n1, g1, lk, _, rfl, .inl (SqL.of (s5 _ _ e2)), _, rfl, by omega, by omega, for_range (n := (N.ks.map kindV).length) (fun j σ H' => ∃ (fs ls : List Addr) (v7 : Option V), σ = [some (.ref p), some (.int ((m : Int) + 1)), some (.ref pf), some (.ref pr), some (.int (0 + (t : Int))), some (.ref pl), some (.ref ra), v7, v8] ∧
            Same H H' ∧ H' pf = some (.lst (fs.map V.ref)) ∧ RowsAt H' fs (foundOf N t ++ ((rowsOf N t).take i).flatMap (exH N) ++ ((List.range j).filter fun b => okb N row b && host N b).map fun b => row ++ [b]) ∧
            H' pl = some (.lst (ls.map V.ref)) ∧ RowsAt H' ls (((rowsOf N t).take i).flatMap (exS N) ++ ((List.range j).filter fun b => okb N row b && !host N b).map fun b => row ++ [b]) ∧ H' pr = some (.lst (rs.map V.ref)) ∧ RowsAt H' rs (rowsOf N t) ∧ H' ra = some (.lst (natsV row)))
            ⟨fs, ls, v7, rfl, s5, hf5, by simpa using hF5, hl5, by simpa using hL5, hr5, hR5, hrow⟩ ?_ ?_⟩
          · rintro j σ H6 hj ⟨fs, ls, v7, rfl, s6, hf6, hF6, hl6, hL6, hr6, hR6, hrow6⟩
            rw [en] at hj
            rw [Int.zero_add]
            have lf := hF6.length
            have ll' := hL6.length
            rw [List.length_append, List.length_append, List.length_map] at lf
            rw [List.length_append, List.length_map] at ll'
            have lq1 := List.length_filter_le (fun b => okb N row b && host N b) (List.range j)
            have lq2 := List.length_filter_le (fun b => okb N row b && !host N b) (List.range j)
            rw [List.length_range] at lq1 lq2
            have rl : 0 < row.length := List.length_pos_iff.mpr rne
            have rlc : row.length ≤ 100 := by rw [rows_row N t row (List.mem_of_getElem? erow)]; omega
            have elast : atI (natsV row) (((natsV row).length : Int) - 1) = some (.int ((lastN row : Nat) : Int)) := by
              have h1 : row.length - 1 < row.length := by omega
              have h2 : (((natsV row).length : Int) - 1) = ((row.length - 1 : Nat) : Int) := by rw [natsV_len]; omega
              rw [h2]
              exact atI_nat (natsV_at (getD_at 0 h1))
            refine and_read (a := !(row.contains j)) (b := adj N (lastN row) j) (fun Q q => ?_) (fun _ Q q => ?_) ?_
            · refine ⟨_, rfl, _, rfl, ra, natsV row, rfl, .inl (SqL.of hrow6), rfl, natsV_flat row, _, rfl, ?_⟩
              show Q (!inV (V.int (j : Int)) (natsV row)) H6
              rw [natsV_in]
              exact q
            · refine ⟨_, rfl, _, rfl, _, rfl, ra, _, rfl, .inl (SqL.of hrow6), _, _, rfl, rfl, ra, _, _, _, rfl, rfl, SqL.of hrow6, elast, _, rfl, p, lastN row, j, N, rfl, eN.same s6, ?_⟩
              refine ⟨rfl, _, rfl, ?_⟩
              rw [optV_non, joined_some]
              exact q
            · show (if okb N row j = true then _ else _)
              refine ite2 (fun e => ?_) (fun e => ?_)
              · have eb : decide (kindV (N.ks.getD j true) = V.str "host") = host N j := by
                  unfold host
                  cases N.ks.getD j true <;> decide +kernel
                refine ⟨_, rfl, p, C, dx, _, _, rfl, s6 _ _ e1, c.cl, c.n1, g1, _, rfl, lk, _, _, _, rfl, rfl, SqL.of (s6 _ _ e2), atI_kind rfl hj, rfl, _, rfl, ?_⟩
                rw [eb]
                refine ite2 (fun eh => ?_) (fun eh => ?_)
                · refine ⟨_, rfl, .inl ⟨rfl, _, SqL.of hf6⟩, _, rfl, _, rfl, by show 1 ≤ sizeLine; decide, fun u nu => ?_⟩
                  have su := same_new (o := .lst [V.int (j : Int)]) nu
                  refine ⟨ra, u, _, _, rfl, rfl, su _ _ hrow6, upd_same, sz (by rw [natsV_len]; show row.length + 1 ≤ 100000; omega), fun y ny => ?_⟩
                  have sy := same_new (o := .lst (natsV row ++ [V.int (j : Int)])) ny
                  have suy := su.trans sy
                  refine ⟨pf, _, _, rfl, rfl, suy _ _ hf6, szl (by rw [List.length_map]; omega), ?_⟩
                  have hy : (upd (upd H6 u (.lst [V.int (j : Int)])) y (.lst (natsV row ++ [V.int (j : Int)]))) y = some (.lst (natsV (row ++ [j]))) := by rw [upd_same, natsV_app]
                  have nyf : y ≠ pf := fun z => by rw [z, su _ _ hf6] at ny; cases ny
                  generalize (upd (upd H6 u (.lst [V.int (j : Int)])) y (.lst (natsV row ++ [V.int (j : Int)]))) = H7 at suy hy ⊢
                  have kb : But pf H7 (upd H7 pf (.lst (fs.map V.ref ++ [V.ref y]))) := but_self
                  have hf7 := suy _ _ hf6
                  refine ⟨fs ++ [y], ls, _, rfl, same_but (s6.trans suy) npf kb, by rw [upd_same, List.map_append]; rfl, ?_, kb _ _ (suy _ _ hl6) nfl.symm, ?_, kb _ _ (suy _ _ hr6) nrf, (hR6.same suy).but hf7 kb, kb _ _ (suy _ _ hrow6) (row_ne rne (suy _ _ hrow6) hf7)⟩
                  · rw [filt_succ, if_pos (by rw [e, eh]; rfl), ← List.append_assoc]
                    exact RowsAt.snoc ((hF6.same suy).but hf7 kb) (by simp) (kb _ _ hy nyf)
                  · rw [filt_succ, if_neg (by rw [e, eh]; decide), List.append_nil]
                    exact (hL6.same suy).but hf7 kb
                · have eh' : host N j = false := Bool.eq_false_iff.mpr eh
                  refine ⟨_, rfl, .inl ⟨rfl, _, SqL.of hl6⟩, _, rfl, _, rfl, by show 1 ≤ sizeLine; decide, fun u nu => ?_⟩
                  have su := same_new (o := .lst [V.int (j : Int)]) nu
                  refine ⟨ra, u, _, _, rfl, rfl, su _ _ hrow6, upd_same, sz (by rw [natsV_len]; show row.length + 1 ≤ 100000; omega), fun y ny => ?_⟩
                  have sy := same_new (o := .lst (natsV row ++ [V.int (j : Int)])) ny
                  have suy := su.trans sy
                  refine ⟨pl, _, _, rfl, rfl, suy _ _ hl6, szl (by rw [List.length_map]; omega), ?_⟩
                  have hy : (upd (upd H6 u (.lst [V.int (j : Int)])) y (.lst (natsV row ++ [V.int (j : Int)]))) y = some (.lst (natsV (row ++ [j]))) := by rw [upd_same, natsV_app]
                  have nyl : y ≠ pl := fun z => by rw [z, su _ _ hl6] at ny; cases ny
                  generalize (upd (upd H6 u (.lst [V.int (j : Int)])) y (.lst (natsV row ++ [V.int (j : Int)]))) = H7 at suy hy ⊢
                  have kb : But pl H7 (upd H7 pl (.lst (ls.map V.ref ++ [V.ref y]))) := but_self
                  have hl7 := suy _ _ hl6
                  refine ⟨fs, ls ++ [y], _, rfl, same_but (s6.trans suy) nplH kb, kb _ _ (suy _ _ hf6) nfl, ?_, by rw [upd_same, List.map_append]; rfl, ?_, kb _ _ (suy _ _ hr6) nrl, (hR6.same suy).but hl7 kb, kb _ _ (suy _ _ hrow6) (row_ne rne (suy _ _ hrow6) hl7)⟩
                  · rw [filt_succ, if_neg (by rw [e, eh']; decide), List.append_nil]
                    exact (hF6.same suy).but hl7 kb
                  · rw [filt_succ, if_pos (by rw [e, eh']; rfl), ← List.append_assoc]
                    exact RowsAt.snoc ((hL6.same suy).but hl7 kb) (by simp) (kb _ _ hy nyl)
              · have e' : okb N row j = false := Bool.eq_false_iff.mpr e
                refine ⟨fs, ls, _, rfl, s6, hf6, ?_, hl6, ?_, hr6, hR6, hrow6⟩
                · rw [filt_succ, if_neg (by rw [e']; simp), List.append_nil]
                  exact hF6
                · rw [filt_succ, if_neg (by rw [e']; simp), List.append_nil]
                  exact hL6
          · rintro σ H6 ⟨fs, ls, v7, rfl, s6, hf6, hF6, hl6, hL6, hr6, hR6, hrow6⟩
            rw [en] at hF6 hL6
            refine ⟨fs, ls, _, v7, rfl, s6, hf6, ?_, hl6, ?_, hr6, hR6⟩
            · rw [flat_take (exH N) erow, ← List.append_assoc]
              exact hF6
            · rw [flat_take (exS N) erow]
              exact hL6
      · rintro σ H5 ⟨fs, ls, v6, v7, rfl, s5, hf5, hF5, hl5, hL5, hr5, hR5⟩
        rw [List.length_map, lrs, List.take_length] at hF5 hL5
        refine ⟨_, rfl, pl, ls, fs, _, _, _, _, _, rfl, s5, nfl.symm, hf5, hF5, hl5, hL5⟩
    · rintro σ H3 ⟨pr, rs, fs, v4, v5, v6, v7, v8, rfl, s3, nrf, hf3, hF3, hr3, hR3⟩
      have em : ((m : Int) + 1 - 1).toNat = m := by omega
      rw [em] at hF3
      exact ⟨_, rfl, q H3 pf fs s3 npf hf3 hF3⟩
end
end My
namespace My
open PySem PySem.Spec PyProof.Rows L2
abbrev sEq : Stmt := inClass sNet 1
abbrev sDelay : Stmt := inClass sNet 2
structure Blt2 (mg : Str → Option Value) : Prop where
  isi : mg "isinstance" = none
  set : mg "set" = none
  zip : mg "zip" = none
  all : mg "all" = none
  bool : mg "bool" = none
structure NetI (K : PySem.W.Frag) (C : Addr) : Prop where
  ha : PySem.W.findIn K (.ref C) "__class__" = some (some (.builtin "object.__class__"))
  hn : PySem.W.specialIn K (.builtin "object.__class__") "__get__" = some (some (.builtin "getset_descriptor.__get__"))
  htk : PySem.W.takesIn K (.builtin "object.__class__") = some true
  hm : PySem.W.mroIn K C (.type "object") = some true
  me : PySem.W.kitOne K (.ref C) (.ref C) = some true
  ki : PySem.W.kitOne K (.type "int") (.ref C) = some false
  kl : PySem.W.kitOne K (.type "list") (.ref C) = some false
  ni : PySem.W.notFirst K C (.type "int") = true
  nl : PySem.W.notFirst K C (.type "list") = true
section
variable {P : Program} {w : World} {K : PySem.W.Frag} {mg : Str → Option Value} {base : Heap}
/-! ### Net.__eq__ -/
theorem scEq : FnScope ["self", "other"] ["self", "other"] (defScope sEq) := ⟨rfl, rfl, rfl, by decide +kernel, rfl, by decide +kernel, by decide +kernel⟩
def sameN (N M : NetD) : Bool := decide (N.ks = M.ks) && (decide (N.pr = M.pr) && (decide (N.er = M.er) && Dq.sameD (delaysOf N.ls) (delaysOf M.ls)))
def spEqN (K : PySem.W.Frag) (C : Addr) : Sp := fun vs H Q _ => ∃ (p : Addr) (N : NetD) (y : V), vs = [.ref p, y] ∧ NetAt K C H p N ∧ Dist N.ls ∧
  ((∃ (q : Addr) (M : NetD), y = .ref q ∧ NetAt K C H q M ∧ Dist M.ls ∧ Q (.bl (sameN N M)) H) ∨ (∃ t : Value, TyX K H y t ∧ PySem.W.kitOne K t (.ref C) = some false ∧ Q (.bl false) H))
theorem dec_int (a b : Int) : decide (V.int a = V.int b) = decide (a = b) := by
  by_cases h : a = b
  · rw [h]; simp
  · rw [decide_eq_false h, decide_eq_false]
    intro z
    injection z with z
    exact h z
theorem andv {σ : L2.St} {H : Hp} {Q : VK} {ta tb : TE} {a b : Bool} (ha : ∀ Q : VK, Q (.bl a) H → ta σ H Q) (hb : a = true → ∀ Q : VK, Q (.bl b) H → tb σ H Q) (h : Q (.bl (a && b)) H) : tAndV ta tb σ H Q := by
  refine ha _ ⟨a, rfl, ?_⟩
  cases a with
  | true => exact hb rfl _ h
  | false => exact h
theorem ok_eq {f C : Addr} {fd : FuncData} {k : Nat} (F : Fun K "__eq__" "Net.__eq__" sEq f fd) (T2 : Blt2 mg) (c : NetC K C) (i : NetI K C) (gC : mg "Net" = some (.ref C)) : FnOk P w K mg base CX0 (k + 1) f fd ["self", "other"] (spEqN K C) := by
  refine F.ok scEq (fun vs H Q E h => ?_) (fun cdv A outer s H vs Q E hr h => ?_)
  · obtain ⟨p, N, y, rfl, _⟩ := h
    rfl
  · obtain ⟨p, N, y, rfl, hN, hD, h⟩ := h
    have nd := scEq.nd
    refine ⟨_, pss_one (ps_ret (pe_and (pe_callB call_isi (by rfl) T2.isi PyProof.Rows.boot_isinstance (pa_cons (pv 1) (pa_cons (pe_glob (v := .ref C) (by rfl) gC rfl (by decide)) pa_nil))) (pe_and (pe_cmpR (op_eqD hr.units) (pe_fld (pv 0) rfl) (pe_fld (pv 1) rfl) (nomark _)) (pe_and (pe_cmpR op_eq (pe_fld (pv 0) rfl) (pe_fld (pv 1) rfl) (nomark _)) (pe_and (pe_cmpR op_eq (pe_fld (pv 0) rfl) (pe_fld (pv 1) rfl) (nomark _)) (pe_one (pe_cmpR (Dq.op_eqT hr.units) (pe_fld (pv 0) rfl) (pe_fld (pv 1) rfl) (nomark _)))))))), ?_⟩
    rcases h with ⟨q, M, rfl, hM, hE, z⟩ | ⟨t, ty, kit, z⟩
    · obtain ⟨dx, lk, ll, ld, ts, e1, e2, e3, e4, e5⟩ := hN
      obtain ⟨dy, mk, ml, md, us, d1, d2, d3, d4, d5⟩ := hM
      refine andv (a := true) (b := sameN N M) (fun Q h => ?_) (fun _ Q h => ?_) z
      · exact ⟨_, rfl, .ref q, .ref C, .ref C, .ref C, true, rfl, .own C, .base (.ins d1 c.cl i.ha i.hn i.htk i.hm), i.me, h⟩
      · refine andv (a := decide (N.ks = M.ks)) (fun Q h => ?_) (fun _ Q h => ?_) h
        · refine ⟨_, rfl, p, C, dx, _, _, rfl, e1, c.cl, c.n1, g1, _, rfl, q, C, dy, _, _, rfl, d1, c.cl, c.n1, g1, dKinds N.ks, dKinds M.ks, dp_kinds (SqL.of e2), dp_kinds (SqL.of d2), (shp_kinds _).shaped, (shp_kinds _).shaped, ?_⟩
          rw [eqv_kinds]
          exact h
        · refine andv (a := decide (N.pr = M.pr)) (fun Q h => ?_) (fun _ Q h => ?_) h
          · refine ⟨_, rfl, p, C, dx, _, _, rfl, e1, c.cl, c.n3, g3, _, rfl, q, C, dy, _, _, rfl, d1, c.cl, c.n3, g3, rfl, ?_⟩
            show Q (.bl (decide (V.int N.pr = V.int M.pr))) H
            rw [dec_int]
            exact h
          · refine andv (a := decide (N.er = M.er)) (fun Q h => ?_) (fun _ Q h => ?_) h
            · refine ⟨_, rfl, p, C, dx, _, _, rfl, e1, c.cl, c.n4, g4, _, rfl, q, C, dy, _, _, rfl, d1, c.cl, c.n4, g4, rfl, ?_⟩
              show Q (.bl (decide (V.int N.er = V.int M.er))) H
              rw [dec_int]
              exact h
            · refine ⟨_, rfl, p, C, dx, _, _, rfl, e1, c.cl, c.n5, g5, _, rfl, q, C, dy, _, _, rfl, d1, c.cl, c.n5, g5, ld, md, _, _, rfl, rfl, e5, d5, ?_, ?_, ?_, h⟩
              · rw [delays_flat hD]; exact flat_ints _
              · rw [delays_flat hE]; exact flat_ints _
              · rw [delays_flat hD]; exact flat_nodup hD
    · exact ⟨_, rfl, y, .ref C, t, .ref C, false, rfl, .own C, ty, kit, false, rfl, z⟩
/-! ### Net.delay -/
theorem scDelay : FnScope ["self", "a", "b"] ["self", "a", "b"] (defScope sDelay) := ⟨rfl, rfl, rfl, by decide +kernel, rfl, by decide +kernel, by decide +kernel⟩
def spDelay (K : PySem.W.Frag) (C : Addr) : Sp := fun vs H Q _ => ∃ (p : Addr) (a b : Nat) (N : NetD), vs = [.ref p, .int (a : Int), .int (b : Int)] ∧ NetAt K C H p N ∧ Dist N.ls ∧ ∀ H' : Hp, Same H H' → Q (optV (joined N a b)) H'
theorem ok_delay {f C : Addr} {fd : FuncData} {k : Nat} (F : Fun K "delay" "Net.delay" sDelay f fd) (c : NetC K C) : FnOk P w K mg base CX0 (k + 1) f fd ["self", "a", "b"] (spDelay K C) := by
  refine F.ok scDelay (fun vs H Q E h => ?_) (fun cdv A outer s H vs Q E hr h => ?_)
  · obtain ⟨p, a, b, N, rfl, _⟩ := h
    rfl
  · obtain ⟨p, a, b, N, rfl, hN, hD, q⟩ := h
    have nd := scDelay.nd
    have hu := hu_of hr
    refine ⟨_, pss_one (ps_ret (pe_dget1 hu (pe_fld (pv 0) rfl) (pe_tup (pa_cons (pv 1) (pa_cons (pv 2) pa_nil))) ⟨rfl, rfl, rfl, rfl⟩)), ?_⟩
    obtain ⟨dx, lk, ll, ld, ts, e1, e2, e3, e4, e5⟩ := hN
    refine ⟨_, rfl, p, C, dx, _, _, rfl, e1, c.cl, c.n5, g5, ld, rfl, .inr ⟨_, .inl e5⟩, _, rfl, _, rfl, by show 2 ≤ sizeLine; decide, fun t nt => ?_⟩
    have st := same_new (o := .tup [V.int (a : Int), V.int (b : Int)]) nt
    refine ⟨valV (delaysOf N.ls) (key2 a b), DGet.t (st _ _ e5) (k := key2 a b) (by rw [upd_same]; rfl), ?_⟩
    rw [val_joined hD]
    exact q _ st
end
end My
namespace My
open PySem PySem.Spec PyProof.Rows L2
abbrev sIsP : Stmt := top 2
abbrev sPorts : Stmt := top 3
abbrev sSep : Stmt := top 4
section
variable {X : Cx} {K : PySem.W.Frag}
theorem op_inK (hK : X.K = K := by rfl) : OpR X (compareOp .In) (rIn K false) := by
  subst hK
  exact op_in_seq
theorem op_inDK (hu : X.A.units + 65 < cLine) (hK : X.K = K := by rfl) : OpR X (compareOp .In) (rInD K) := by
  subst hK
  exact op_inD hu
end
theorem u65 {k : Nat} {A : Around} (r : Room k A) : A.units + 65 < cLine := by
  have := r.un
  omega
theorem cut1 (xs : List V) : cutV xs (some 1) none = xs.drop 1 := by
  unfold cutV
  have e1 : HT.sIx xs.length 0 (some 1) = min 1 xs.length := HT.sIx_nat _ _ 1
  rw [e1, HT.sIx_none]
  cases xs with
  | nil => rfl
  | cons x r =>
    rw [List.length_cons, Nat.min_eq_left (by omega)]
    show (r.take (r.length + 1 - 1)) = r
    rw [Nat.add_sub_cancel, List.take_length]
theorem natsV_drop (r : List Nat) (n : Nat) : (natsV r).drop n = natsV (r.drop n) := by
  unfold natsV
  rw [List.map_drop]
theorem natsV_take (r : List Nat) (n : Nat) : (natsV r).take n = natsV (r.take n) := by
  unfold natsV
  rw [List.map_take]
theorem cut_mid (r : List Nat) : cutV (natsV r) (some 1) (some (-1)) = natsV (inner r) := by
  unfold cutV inner
  have e1 : HT.sIx (natsV r).length 0 (some 1) = min 1 (natsV r).length := HT.sIx_nat _ _ 1
  have e2 : HT.sIx (natsV r).length (natsV r).length (some (-1)) = (natsV r).length - 1 := by
    show (if (-1 : Int) < 0 then ((-1 : Int) + ((natsV r).length : Int)).toNat else min (-1 : Int).toNat (natsV r).length) = _
    rw [if_pos (by decide)]
    omega
  rw [e1, e2, natsV_len]
  cases r with
  | nil => rfl
  | cons x r =>
    rw [List.length_cons, Nat.min_eq_left (by omega), natsV_drop, natsV_take]
theorem zip_ports {K : PySem.W.Frag} {H : Hp} : ∀ {a b : List Nat} {ts : List Addr}, Paired (fun (t : Addr) (z : V × V) => H t = some (.tup [z.1, z.2])) ts ((natsV a).zip (natsV b)) → PairsAt K H ts (a.zip b)
  | [], _, _, h => by
    cases h
    exact .nil
  | x :: a, [], _, h => by
    cases h
    exact .nil
  | x :: a, y :: b, _, h => by
    cases h with
    | cons r t => exact .cons (SqT.of r) (zip_ports t)
def pat (n : Nat) : List Bool := (true :: List.replicate (n - 2) false) ++ [true]
theorem pat_at {n k : Nat} (h2 : 2 ≤ n) (hk : k < n) : (pat n)[k]? = some (decide (k = 0) || decide (k + 1 = n)) := by
  unfold pat
  by_cases e0 : k = 0
  · rw [e0]; rfl
  · by_cases e1 : k + 1 = n
    · rw [List.getElem?_append_right (by rw [List.length_cons, List.length_replicate]; omega), List.length_cons, List.length_replicate, show k - (n - 2 + 1) = 0 by omega, decide_eq_true e1, Bool.or_true]
      rfl
    · rw [List.getElem?_append_left (by rw [List.length_cons, List.length_replicate]; omega), decide_eq_false e0, decide_eq_false e1]
      obtain ⟨j, rfl⟩ : ∃ j, k = j + 1 := ⟨k - 1, by omega⟩
      rw [List.getElem?_cons_succ, List.getElem?_replicate, if_pos (by omega)]
      rfl
theorem pat_len {n : Nat} (h2 : 2 ≤ n) : (pat n).length = n := by
  unfold pat
  rw [List.length_append, List.length_cons, List.length_replicate, List.length_singleton]
  omega
theorem pat_iff {N : NetD} {r : List Nat} (h2 : 2 ≤ r.length) : r.map (host N) = pat r.length ↔ ∀ k, k < r.length → host N (r.getD k 0) = (decide (k = 0) || decide (k + 1 = r.length)) := by
  constructor
  · intro e k hk
    have this : (r.map (host N))[k]? = (pat r.length)[k]? := by rw [e]
    rw [pat_at h2 hk, List.getElem?_map, getD_at 0 hk] at this
    exact Option.some.inj this
  · intro h
    refine List.ext_getElem? fun k => ?_
    by_cases hk : k < r.length
    · rw [pat_at h2 hk, List.getElem?_map, getD_at 0 hk, ← h k hk]
      rfl
    · rw [List.getElem?_eq_none (by rw [List.length_map]; omega), List.getElem?_eq_none (by rw [pat_len h2]; omega)]
theorem ports_all {N : NetD} {r : List Nat} : (((portsOf r).map fun p => (joined N p.1 p.2).isSome).all id) = true ↔ ∀ k, k + 1 < r.length → adj N (r.getD k 0) (r.getD (k + 1) 0) = true := by
  rw [List.all_map, List.all_eq_true]
  constructor
  · intro h k hk
    have := h _ (mem_ports.mpr ⟨k, hk, rfl⟩)
    rw [← joined_some]
    exact this
  · intro h p hp
    obtain ⟨k, hk, rfl⟩ := mem_ports.mp hp
    show (joined N (r.getD k 0) (r.getD (k + 1) 0)).isSome = true
    rw [joined_some]
    exact h k hk
theorem nodup_ints (r : List Nat) : (r.map fun (n : Nat) => (n : Int)).Nodup ↔ r.Nodup := by
  unfold List.Nodup
  rw [List.pairwise_map]
  constructor
  · intro h
    exact h.imp fun z e => z (by rw [e])
  · intro h
    exact h.imp fun z e => z (by omega)
theorem natsV_ints (r : List Nat) : natsV r = (r.map fun (n : Nat) => (n : Int)).map V.int := by
  unfold natsV
  rw [List.map_map]
  rfl
theorem any_port (ps : List (Nat × Nat)) (p : Nat × Nat) : ((ps.map dPort).any fun z => PyData.eqv z (dPort p)) = ps.contains p := by
  rw [List.any_map, List.contains_eq_any_beq]
  congr 1
  funext q
  show PyData.eqv (dPort q) (dPort p) = (p == q)
  rw [eqv_port, Bool.eq_iff_iff, decide_eq_true_eq, beq_iff_eq]
  exact eq_comm
theorem filt_take {α : Type} (p : α → Bool) {l : List α} {i : Nat} {a : α} (h : l[i]? = some a) : (l.take (i + 1)).filter p = (l.take i).filter p ++ (if p a = true then [a] else []) := by
  rw [take_snoc h, List.filter_append, List.filter_cons]
  split <;> rfl
theorem filt_len {α : Type} (p : α → Bool) (l : List α) (i : Nat) : ((l.take i).filter p).length ≤ l.length := by
  have h1 := List.length_filter_le p (l.take i)
  have h2 := List.length_take_le i l
  have h3 : (l.take i).length ≤ l.length := by rw [List.length_take]; omega
  omega
theorem nats_at {r : List Nat} {i : Nat} {x : V} (h : (natsV r)[i]? = some x) : ∃ n, r[i]? = some n ∧ x = .int (n : Int) := by
  unfold natsV at h
  rw [List.getElem?_map] at h
  cases e : r[i]? with
  | none => rw [e] at h; cases h
  | some n => rw [e] at h; exact ⟨n, rfl, (Option.some.inj h).symm⟩
section
variable {P : Program} {w : World} {K : PySem.W.Frag} {mg : Str → Option Value} {base : Heap}
/-! ### ports_of -/
theorem scPo : FnScope ["path"] ["path"] (defScope sPorts) := ⟨rfl, rfl, rfl, by decide +kernel, rfl, by decide +kernel, by decide +kernel⟩
def spPo (K : PySem.W.Frag) : Sp := fun vs H Q _ => ∃ (l : Addr) (r : List Nat), vs = [.ref l] ∧ H l = some (.lst (natsV r)) ∧ ∀ (H' : Hp) (D : Addr) (ts : List Addr), Same H H' → H D = none → H' D = some (.lst (ts.map V.ref)) → PairsAt K H' ts (portsOf r) → Q (.ref D) H'
theorem ok_ports {f : Addr} {fd : FuncData} {k : Nat} (F : Fun K "ports_of" "ports_of" sPorts f fd) (T : Blt mg) (T2 : Blt2 mg) : FnOk P w K mg base CX0 (k + 1) f fd ["path"] (spPo K) := by
  refine F.ok scPo (fun vs H Q E h => ?_) (fun cdv A outer s H vs Q E hr h => ?_)
  · obtain ⟨l, r, rfl, _⟩ := h
    rfl
  · obtain ⟨l, r, rfl, hl, q⟩ := h
    have nd := scPo.nd
    refine ⟨_, pss_one (ps_ret (Zl.pe_listZip rfl (pa_cons (pv 0) (pa_cons (pe_slice sl_list (pv 0) (po_some pe_int) po_none) pa_nil)) (by rfl) T.list (by rfl) T2.zip)), ?_⟩
    refine ⟨_, rfl, _, rfl, _, rfl, l, _, rfl, SqL.of hl, fun y ny => ?_⟩
    have sy := same_new (o := .lst (cutV (natsV r) (some 1) none)) ny
    rw [cut1, natsV_drop] at *
    refine ⟨l, y, natsV r, natsV (r.drop 1), rfl, SqL.of (sy _ _ hl), SqL.of upd_same, fun H' p ts sm np hp hP => ?_⟩
    exact q H' p ts (sy.trans sm) (sy.free np) hp (zip_ports hP)
/-! ### is_path -/
structure MethOf (P : Program) (w : World) (K : PySem.W.Frag) (mg : Str → Option Value) (base : Heap) (k : Nat) (ps : List Str) (sp : Sp) (f : Addr) (fd : FuncData) : Prop where
  ok : FnOk P w K mg base CX0 k f fd ps sp
  b : Binds K fd ps []
theorem scIs : FnScope ["net", "nodes", "kinds", "node", "a", "b"] ["net", "nodes"] (defScope sIsP) := ⟨rfl, rfl, rfl, by decide +kernel, rfl, by decide +kernel, by decide +kernel⟩
def spIs (K : PySem.W.Frag) (C : Addr) : Sp := fun vs H Q _ => ∃ (p l : Addr) (r : List Nat) (N : NetD), vs = [.ref p, .ref l] ∧ NetAt K C H p N ∧ Dist N.ls ∧ H l = some (.lst (natsV r)) ∧ (∀ x ∈ r, x < N.ks.length) ∧ r.length ≤ 100 ∧
  ∀ (b : Bool) (H' : Hp), Same H H' → (b = true ↔ IsP N r) → Q (.bl b) H'
theorem ok_is {f C fP fD : Addr} {fd fdP fdD : FuncData} {k : Nat} (F : Fun K "is_path" "is_path" sIsP f fd) (T : Blt mg) (T2 : Blt2 mg) (c : NetC K C) (GP : Callee P w K mg base 1 "ports_of" ["path"] (spPo K) fP fdP) (mD : Meth K C "delay" fD) (GD : MethOf P w K mg base 1 ["self", "a", "b"] (spDelay K C) fD fdD) :
    FnOk P w K mg base CX0 (k + 2) f fd ["net", "nodes"] (spIs K C) := by
  refine F.ok scIs (fun vs H Q E h => ?_) (fun cdv A outer s0 H vs Q E hr h => ?_)
  · obtain ⟨p, l, r, N, rfl, _⟩ := h
    rfl
  · obtain ⟨p, l, r, N, rfl, hN, hD0, hl, hlt, hlen, q⟩ := h
    have nd := scIs.nd
    have hr1 : Room 1 _ := hr.mono (by omega)
    refine ⟨_, pss_cons (ps_if (PW.pt (pw_or (pt_cmpR op_lt (pe_callB call_len_seq (by rfl) T.len PySem.boot_len (pa_cons (pv 1) pa_nil)) pe_int (nomark _)) (pw_or1 (pt_cmpR op_lt (Ls.pe_lenSet (by rfl) T.len (by rfl) T2.set (pv 1)) (pe_callB call_len_seq (by rfl) T.len PySem.boot_len (pa_cons (pv 1) pa_nil)) (nomark _))))) (pss_one (ps_ret pe_bl)) (pss_nil)) <| pss_cons (ps_setLc (i := 2) (own := [("node", 3)]) (g := gName 3) (tt := tYes) rfl nd rfl rfl (sw_true rfl rfl rfl (by decide +kernel)) (pi_list (pv 1)) (blkOk_by (own := [("node", 3)]) (N := ["net", "nodes", "kinds", "node", "a", "b"]) (sc := defScope sIsP) (by decide +kernel)) (fun _ _ _ _ _ => pg_name (i := 3) nd rfl (Or.inl rfl)) (fun _ _ _ _ _ => pts_nil) (fun _ _ _ _ _ => (pe_ix (ix_listK (K := K)) (pe_fldK (K := K) (pv 0)) (pv 3) (fun _ _ => rfl)))) <| pss_cons (ps_if (pt_cmpR (op_neD hr.units) (pv 2) (pe_op op_cat (pe_op op_cat (pe_lst (pa_cons pe_str pa_nil)) (pe_op op_rep (pe_lst (pa_cons pe_str pa_nil)) (pe_op op_sub (pe_callB call_len_seq (by rfl) T.len PySem.boot_len (pa_cons (pv 1) pa_nil)) pe_int))) (pe_lst (pa_cons pe_str pa_nil))) (nomark _)) (pss_one (ps_ret pe_bl)) (pss_nil)) <| pss_one (ps_ret (pe_callB (cr_all rfl) (by rfl) T2.all PyProof.Rows.boot_all (pa_cons (pe_lc (own := [("a", 4), ("b", 5)]) (g := (gTup K 2 (gCons (gName 4) (gCons (gName 5) gNil)))) (tt := tYes) rfl nd (pi_list (pe_call GP.ok hr1 (by rfl) GP.mg GP.kp GP.b .nil pass0 (pa_cons (pv 1) pa_nil))) (blkOk_by (own := [("a", 4), ("b", 5)]) (N := ["net", "nodes", "kinds", "node", "a", "b"]) (sc := defScope sIsP) (by decide +kernel)) (fun _ _ _ _ _ => pg_tupK (K := K) rfl (pgs_cons (pg_name (i := 4) nd rfl (Or.inl rfl)) (pgs_cons (pg_name (i := 5) nd rfl (Or.inl rfl)) pgs_nil))) (fun _ _ _ _ _ => pts_nil) (fun _ _ _ _ _ => (pe_cmpR op_notN (pe_meth (pv 0) c.cl mD GD.ok hr1 GD.b .nil pass0 (pa_cons (pv 4) (pa_cons (pv 5) pa_nil))) pe_non (nomark _)))) pa_nil))), ?_⟩
    have eN := hN
    obtain ⟨dx, lk, ll, ld, ts0, e1, e2, e3, e4, e5⟩ := hN
    dsimp only [gName]
    refine or_read (a := decide (((natsV r).length : Int) < 2)) (b := decide (¬ r.Nodup)) (fun Q h => ?_) (fun Q h => ?_) ?_
    · exact ⟨_, rfl, l, _, rfl, .inl (SqL.of hl), _, _, rfl, rfl, _, rfl, h⟩
    · refine ⟨_, rfl, l, r.map (fun (n : Nat) => (n : Int)), rfl, by rw [← natsV_ints]; exact SqL.of hl, by rw [List.length_map]; omega, fun c' hc hn => ?_⟩
      rw [List.length_map] at hc hn
      rw [nodup_ints] at hn
      refine ⟨_, rfl, l, _, rfl, .inl (SqL.of hl), _, _, rfl, rfl, _, rfl, ?_⟩
      have e : decide ((c' : Int) < ((natsV r).length : Int)) = decide (¬ r.Nodup) := by
        rw [natsV_len]
        by_cases z : r.Nodup
        · have := hn.mpr z
          rw [decide_eq_false (by omega), decide_eq_false (by simpa using z)]
        · have : c' ≠ r.length := fun y => z (hn.mp y)
          rw [decide_eq_true (by omega), decide_eq_true z]
      rw [e]
      exact h
    · refine ite2 (fun e => ?_) (fun e => ?_)
      · refine q false H (Same.refl H) ⟨(fun z => by cases z), fun z => ?_⟩
        rw [Bool.or_eq_true, decide_eq_true_eq, decide_eq_true_eq, natsV_len] at e
        rcases e with e | e
        · have := z.two
          omega
        · exact absurd z.nd e
      · rw [Bool.or_eq_true, decide_eq_true_eq, decide_eq_true_eq, natsV_len, not_or, Classical.not_not] at e
        obtain ⟨two, ndr⟩ := e
        have two : 2 ≤ r.length := by omega
        -- kinds
        refine ⟨_, rfl, l, rfl, ⟨_, SqL.of hl⟩, fun D nD => ?_⟩
        have s1 := same_new (o := .lst []) nD
        refine lc_list (K := K) (a := l) (xs := natsV r) (fun i H' => Same H H' ∧ H' D = some (.lst (((r.take i).map (host N)).map kindV))) ⟨s1, upd_same⟩ (fun i H' _ z => SqL.of (z.1 _ _ hl)) ?_ ?_
        · rintro i x H' hi ⟨sm, hD⟩
          obtain ⟨n, en, rfl⟩ := nats_at hi
          have hnl := hlt n (List.mem_of_getElem? en)
          have hil : (r.take i).length ≤ 100 := by rw [List.length_take]; omega
          refine ⟨rfl, ?_⟩
          refine ⟨_, rfl, p, C, dx, _, _, rfl, sm _ _ e1, c.cl, c.n1, g1, _, rfl, lk, _, _, _, rfl, rfl, SqL.of (sm _ _ e2), atI_kind rfl hnl, _, hD, szl (by rw [List.length_map, List.length_map]; omega), same_but sm nD but_self, ?_⟩
          rw [upd_same, take_snoc en, List.map_append, List.map_append]
          rfl
        rintro H1 ⟨s1, hD1⟩
        rw [natsV_len, List.take_length] at hD1
        -- kinds != ...
        refine ⟨_, rfl, by show 1 ≤ sizeLine; decide, fun u nu => ?_⟩
        have s2 := same_new (o := .lst [V.str "host"]) nu
        refine ⟨by show 1 ≤ sizeLine; decide, fun u2 nu2 => ?_⟩
        have s3 := s2.trans (same_new (o := .lst [V.str "switch"]) nu2)
        refine ⟨_, rfl, l, _, rfl, .inl (SqL.of (s3 _ _ (s1 _ _ hl))), _, _, rfl, rfl, u2, _, _, rfl, rfl, upd_same, by rw [natsV_len]; omega, by rw [natsV_len]; omega, sz (by rw [natsV_len, List.length_singleton]; omega), fun u3 nu3 => ?_⟩
        have n4 := same_new (o := .lst (List.replicate (((natsV r).length : Int) - 2).toNat [V.str "switch"]).flatten) nu3
        have hu4 := n4 _ _ ((same_new (o := .lst [V.str "switch"]) nu2) _ _ (upd_same (H := H1) (a := u) (o := .lst [V.str "host"])))
        have s4 := s3.trans n4
        have h34 : (upd (upd (upd H1 u (.lst [V.str "host"])) u2 (.lst [V.str "switch"])) u3 (.lst (List.replicate (((natsV r).length : Int) - 2).toNat [V.str "switch"]).flatten)) u3 = some (.lst (List.replicate (((natsV r).length : Int) - 2).toNat [V.str "switch"]).flatten) := upd_same
        generalize (upd (upd (upd H1 u (.lst [V.str "host"])) u2 (.lst [V.str "switch"])) u3 (.lst (List.replicate (((natsV r).length : Int) - 2).toNat [V.str "switch"]).flatten)) = H4 at s4 hu4 h34 ⊢
        refine ⟨u, u3, _, _, rfl, rfl, hu4, h34, sz (by rw [natsV_len, rep_flat, List.length_replicate, List.length_singleton]; omega), fun u4 nu4 => ?_⟩
        have s5 := same_new (o := .lst ([V.str "host"] ++ (List.replicate (((natsV r).length : Int) - 2).toNat [V.str "switch"]).flatten)) nu4
        refine ⟨by show 1 ≤ sizeLine; decide, fun u5 nu5 => ?_⟩
        have n6 := same_new (o := .lst [V.str "host"]) nu5
        refine ⟨u4, u5, _, _, rfl, rfl, n6 _ _ upd_same, upd_same, sz (by rw [natsV_len, rep_flat, List.length_append, List.length_replicate, List.length_singleton]; omega), fun u6 nu6 => ?_⟩
        have n7 := same_new (o := .lst (([V.str "host"] ++ (List.replicate (((natsV r).length : Int) - 2).toNat [V.str "switch"]).flatten) ++ [V.str "host"])) nu6
        have S7 := ((s4.trans s5).trans n6).trans n7
        have epat : ([V.str "host"] ++ (List.replicate (((natsV r).length : Int) - 2).toNat [V.str "switch"]).flatten) ++ [V.str "host"] = (pat r.length).map kindV := by
          rw [natsV_len, rep_flat, show ((r.length : Int) - 2).toNat = r.length - 2 by omega]
          unfold pat
          rw [List.map_append, List.map_cons, List.map_replicate]
          rfl
        refine ⟨dKinds (r.map (host N)), dKinds (pat r.length), dp_kinds (SqL.of (S7 _ _ hD1)), dp_kinds (by rw [← epat]; exact SqL.of upd_same), (shp_kinds _).shaped, (shp_kinds _).shaped, _, rfl, ?_⟩
        rw [eqv_kinds]
        have SS := s1.trans S7
        generalize (upd (upd (upd H4 u4 (.lst ([V.str "host"] ++ (List.replicate (((natsV r).length : Int) - 2).toNat [V.str "switch"]).flatten))) u5 (.lst [V.str "host"])) u6 (.lst (([V.str "host"] ++ (List.replicate (((natsV r).length : Int) - 2).toNat [V.str "switch"]).flatten) ++ [V.str "host"]))) = H7 at SS S7 ⊢
        refine ite2 (fun e => ?_) (fun e => ?_)
        · refine q false H7 SS ⟨(fun z => by cases z), fun z => ?_⟩
          rw [Bool.not_eq_true', decide_eq_false_iff_not] at e
          exact absurd ((pat_iff two).mpr z.hs) e
        · have e : r.map (host N) = pat r.length := by simpa using e
          refine ⟨_, rfl, l, r, rfl, SS _ _ hl, fun H8 pp ts s8 npp hp hP => ?_⟩
          have S8 := SS.trans s8
          refine ⟨pp, rfl, ⟨_, SqL.of hp⟩, fun D2 nD2 => ?_⟩
          have s9 := same_new (o := .lst []) nD2
          have ltp : ts.length = (portsOf r).length := hP.length
          have lpo := ports_len r
          refine lc_list (K := K) (a := pp) (xs := ts.map V.ref) (fun i H' => Same H8 H' ∧ H' D2 = some (.lst ((((portsOf r).take i).map fun p => (joined N p.1 p.2).isSome).map V.bl))) ⟨s9, upd_same⟩ (fun i H' _ z => SqL.of (z.1 _ _ hp)) ?_ ?_
          · rintro i x H' hi ⟨sm, hD⟩
            rw [List.getElem?_map] at hi
            cases ht : ts[i]? with
            | none => rw [ht] at hi; cases hi
            | some t =>
              rw [ht] at hi
              cases hi
              obtain ⟨z, ez, hT⟩ := Paired.at hP ht
              have lt' : ((portsOf r).take i).length ≤ 100 := by rw [List.length_take]; omega
              refine ⟨t, _, rfl, same_tup sm hT, rfl, _, _, rfl, _, _, rfl, rfl, rfl, ?_⟩
              refine ⟨_, rfl, p, dx, _, rfl, sm _ _ (S8 _ _ e1), g7, _, rfl, _, rfl, p, z.1, z.2, N, rfl, eN.same (S8.trans sm), hD0, fun H9 s9 => ?_⟩
              refine ⟨rfl, _, s9 _ _ hD, szl (by rw [List.length_map, List.length_map]; omega), same_but (sm.trans s9) nD2 but_self, ?_⟩
              rw [upd_same, take_snoc ez, List.map_append, List.map_append, optV_non]
              rfl
          rintro H9 ⟨s9, hD9⟩
          rw [List.length_map, ltp, List.take_length] at hD9
          refine ⟨D2, ((portsOf r).map fun p => (joined N p.1 p.2).isSome), rfl, SqL.of hD9, q _ _ (S8.trans s9) ?_⟩
          rw [ports_all]
          exact ⟨fun z => ⟨two, ndr, (pat_iff two).mp e, z⟩, fun z => z.ad⟩
/-! ### are_separate -/
theorem scSp : FnScope ["first", "second", "nodes", "ports", "node", "port"] ["first", "second"] (defScope sSep) := ⟨rfl, rfl, rfl, by decide +kernel, rfl, by decide +kernel, by decide +kernel⟩
def spSp : Sp := fun vs H Q _ => ∃ (a b : Addr) (r s : List Nat), vs = [.ref a, .ref b] ∧ H a = some (.lst (natsV r)) ∧ H b = some (.lst (natsV s)) ∧ r.length ≤ 100 ∧ s.length ≤ 100 ∧ ∀ H' : Hp, Same H H' → Q (.bl (sepA r s)) H'
theorem ok_sep {f fP : Addr} {fd fdP : FuncData} {k : Nat} (F : Fun K "are_separate" "are_separate" sSep f fd) (GP : Callee P w K mg base 1 "ports_of" ["path"] (spPo K) fP fdP) : FnOk P w K mg base CX0 (k + 2) f fd ["first", "second"] spSp := by
  refine F.ok scSp (fun vs H Q E h => ?_) (fun cdv A outer s0 H vs Q E hr h => ?_)
  · obtain ⟨a, b, r, s, rfl, _⟩ := h
    rfl
  · obtain ⟨a, b, r, s, rfl, ha, hb, hlr, hls, q⟩ := h
    have nd := scSp.nd
    have hr1 : Room 1 _ := hr.mono (by omega)
    have hu65 := u65 hr
    refine ⟨_, pss_cons (ps_setLc (i := 2) (own := [("node", 4)]) (g := gName 4) rfl nd rfl rfl (sw_true rfl rfl rfl (by decide +kernel)) (pi_list (pe_slice sl_list (pv 0) (po_some pe_int) (po_some (pe_un un_neg pe_int)))) (blkOk_by (own := [("node", 4)]) (N := ["first", "second", "nodes", "ports", "node", "port"]) (sc := defScope sSep) (by decide +kernel)) (fun _ _ _ _ _ => pg_name (i := 4) nd rfl (Or.inl rfl)) (fun _ _ _ _ _ => pts_one (pt_cmpR (op_inK (K := K)) (pv 4) (pv 1) rfl)) (fun _ _ _ _ _ => (pv 4))) <| pss_cons (ps_setLc (i := 3) (own := [("port", 5)]) (g := gName 5) rfl nd rfl rfl (sw_true rfl rfl rfl (by decide +kernel)) (pi_list (pe_call GP.ok hr1 (by rfl) GP.mg GP.kp GP.b .nil pass0 (pa_cons (pv 0) pa_nil))) (blkOk_by (own := [("port", 5)]) (N := ["first", "second", "nodes", "ports", "node", "port"]) (sc := defScope sSep) (by decide +kernel)) (fun _ _ _ _ _ => pg_name (i := 5) nd rfl (Or.inl rfl)) (fun _ _ _ _ _ => pts_one (pt_cmpR (op_inDK (K := K) hu65) (pv 5) (pe_call GP.ok hr1 (by rfl) GP.mg GP.kp GP.b .nil pass0 (pa_cons (pv 1) pa_nil)) rfl)) (fun _ _ _ _ _ => (pv 5))) <| pss_one (ps_ret (pe_and (pe_notT (pv 2)) (pe_one (pe_notT (pv 3))))), ?_⟩
    refine ⟨_, rfl, _, rfl, _, rfl, _, rfl, a, _, rfl, SqL.of ha, fun y ny => ?_⟩
    have sy := same_new (o := .lst (cutV (natsV r) (some 1) (some (-1)))) ny
    have hy : (upd H y (.lst (cutV (natsV r) (some 1) (some (-1))))) y = some (.lst (natsV (inner r))) := by rw [upd_same, cut_mid]
    generalize (upd H y (.lst (cutV (natsV r) (some 1) (some (-1))))) = H1 at sy hy ⊢
    have lin : (inner r).length ≤ r.length := by
      unfold inner
      rw [List.length_take, List.length_drop]
      omega
    refine ⟨y, rfl, ⟨_, SqL.of hy⟩, fun D nD => ?_⟩
    have s2 := same_new (o := .lst []) nD
    refine lc_list (K := K) (a := y) (xs := natsV (inner r)) (fun i H' => Same H1 H' ∧ H' D = some (.lst (natsV (((inner r).take i).filter fun x => s.contains x)))) ⟨s2, upd_same⟩ (fun i H' _ z => SqL.of (z.1 _ _ hy)) ?_ ?_
    · rintro i x H' hi ⟨sm, hD⟩
      obtain ⟨n, en, rfl⟩ := nats_at hi
      refine ⟨rfl, _, rfl, _, rfl, b, natsV s, rfl, .inl (SqL.of (sm _ _ (sy _ _ hb))), rfl, natsV_flat s, _, rfl, ?_⟩
      show (if inV (V.int (n : Int)) (natsV s) = true then _ else _)
      rw [natsV_in]
      refine ite2 (fun e => ?_) (fun e => ?_)
      · have fl := filt_len (fun x => s.contains x) (inner r) i
        refine ⟨_, rfl, _, hD, szl (by rw [natsV_len]; omega), same_but sm nD but_self, ?_⟩
        rw [upd_same, natsV_app, filt_take (fun x => s.contains x) en, if_pos e]
      · refine ⟨sm, ?_⟩
        rw [filt_take (fun x => s.contains x) en, if_neg e, List.append_nil]
        exact hD
    rintro H2 ⟨s2, hD2⟩
    rw [natsV_len, List.take_length] at hD2
    have S2 := sy.trans s2
    refine ⟨_, rfl, a, r, rfl, S2 _ _ ha, fun H3 p ts s3 np hp hP => ?_⟩
    have S3 := S2.trans s3
    refine ⟨p, rfl, ⟨_, SqL.of hp⟩, fun D2 nD2 => ?_⟩
    have s4 := same_new (o := .lst []) nD2
    have ltp : ts.length = (portsOf r).length := hP.length
    have lpo := ports_len r
    refine lc_list (K := K) (a := p) (xs := ts.map V.ref) (fun i H' => Same H3 H' ∧ ∃ us : List Addr, H' D2 = some (.lst (us.map V.ref)) ∧ us.length = (((portsOf r).take i).filter fun x => (portsOf s).contains x).length) ⟨s4, [], upd_same, rfl⟩ (fun i H' _ z => SqL.of (z.1 _ _ hp)) ?_ ?_
    · rintro i x H' hi ⟨sm, us, hD, lu⟩
      rw [List.getElem?_map] at hi
      cases ht : ts[i]? with
      | none => rw [ht] at hi; cases hi
      | some t =>
        rw [ht] at hi
        cases hi
        obtain ⟨z, ez, hT⟩ := Paired.at hP ht
        refine ⟨rfl, _, rfl, _, rfl, b, s, rfl, sm _ _ (S3 _ _ hb), fun H5 p2 vs s5 np2 hp2 hP2 => ?_⟩
        refine ⟨dPort z, (portsOf s).map dPort, dp_port (same_tup (sm.trans s5) hT), dp_ports (SqL.of hp2) hP2, (shp_port z).shaped, (shp_ports (portsOf s)).shaped, _, rfl, ?_⟩
        rw [any_port]
        have lf := filt_len (fun x => (portsOf s).contains x) (portsOf r) i
        refine ite2 (fun e => ?_) (fun e => ?_)
        · refine ⟨_, rfl, _, s5 _ _ hD, szl (by rw [List.length_map]; omega), same_but (sm.trans s5) nD2 but_self, us ++ [t], ?_, ?_⟩
          · rw [upd_same, List.map_append]
            rfl
          · rw [filt_take (fun x => (portsOf s).contains x) ez, if_pos e, List.length_append, List.length_append, lu]
            rfl
        · refine ⟨sm.trans s5, us, s5 _ _ hD, ?_⟩
          rw [filt_take (fun x => (portsOf s).contains x) ez, if_neg e, List.append_nil]
          exact lu
    rintro H4 ⟨s4, us, hD4, lu⟩
    rw [List.length_map, ltp, List.take_length] at lu
    have S4 := S3.trans s4
    have hD2' := s4 _ _ (s3 _ _ hD2)
    dsimp only [gName, tRet]
    refine andv (a := ((inner r).filter fun x => s.contains x).isEmpty) (b := ((portsOf r).filter fun p => (portsOf s).contains p).isEmpty) (fun Q h => ?_) (fun _ Q h => ?_) (q _ S4)
    · refine ⟨_, rfl, !((inner r).filter fun x => s.contains x).isEmpty, .inl ⟨_, SqL.of hD2', ?_⟩, ?_⟩
      · unfold natsV
        rw [List.isEmpty_map]
      · rw [Bool.not_not]
        exact h
    · refine ⟨_, rfl, !((portsOf r).filter fun p => (portsOf s).contains p).isEmpty, .inl ⟨_, SqL.of hD4, ?_⟩, ?_⟩
      · rw [List.isEmpty_map, Bool.eq_iff_iff, Bool.not_eq_true', Bool.not_eq_true', Bool.eq_false_iff, Bool.eq_false_iff, ne_eq, ne_eq, List.isEmpty_iff_length_eq_zero, List.isEmpty_iff_length_eq_zero, lu]
      · rw [Bool.not_not]
        exact h
end
end My
namespace My
open PySem PySem.Spec PyProof.Rows L2
abbrev sLIs : Stmt := top 11
abbrev sLSep : Stmt := top 12
abbrev sLines : Stmt := top 13
theorem orv {σ : L2.St} {H : Hp} {Q : VK} {ta tb : TE} {a b : Bool} (ha : ∀ Q : VK, Q (.bl a) H → ta σ H Q) (hb : ∀ Q : VK, Q (.bl b) H → tb σ H Q) (h : Q (.bl (a || b)) H) : tOrV ta tb σ H Q := by
  refine ha _ ⟨a, rfl, ?_⟩
  cases a with
  | true => exact h
  | false => exact hb _ h
theorem or_read2 {t u : TT} {σ : L2.St} {H : Hp} {Q : Bool → Hp → Prop} {a b : Bool} (ht : ∀ Q : Bool → Hp → Prop, (∀ H1, Same H H1 → Q a H1) → t σ H Q) (hu : ∀ H1, Same H H1 → ∀ Q : Bool → Hp → Prop, (∀ H2, Same H1 H2 → Q b H2) → u σ H1 Q) (h : ∀ H1, Same H H1 → Q (a || b) H1) : tOr t u σ H Q := by
  refine ht _ fun H1 s1 => ?_
  cases a with
  | true => exact h H1 s1
  | false => exact hu H1 s1 _ fun H2 s2 => h H2 (s1.trans s2)
theorem and_read2 {t u : TT} {σ : L2.St} {H : Hp} {Q : Bool → Hp → Prop} {a b : Bool} (ht : ∀ Q : Bool → Hp → Prop, (∀ H1, Same H H1 → Q a H1) → t σ H Q) (hu : a = true → ∀ H1, Same H H1 → ∀ Q : Bool → Hp → Prop, (∀ H2, Same H1 H2 → Q b H2) → u σ H1 Q) (h : ∀ H1, Same H H1 → Q (a && b) H1) : tAnd t u σ H Q := by
  refine ht _ fun H1 s1 => ?_
  cases a with
  | true => exact hu rfl H1 s1 _ fun H2 s2 => h H2 (s1.trans s2)
  | false => exact h H1 s1
theorem dec_non (o : Option Int) : decide (optV o = .non) = !o.isSome := by
  cases o with
  | none => rfl
  | some d => rfl
theorem cut_to (r : List Nat) {k : Nat} (h : k ≤ r.length) : cutV (natsV r) none (some (k : Int)) = natsV (r.take k) := by
  unfold cutV
  rw [HT.sIx_none, HT.sIx_nat, natsV_len, Nat.min_eq_left h, List.drop_zero, Nat.sub_zero, natsV_take]
theorem cut_in (r : List Nat) (h : 1 ≤ r.length) : cutV (natsV r) (some 1) (some (((natsV r).length : Int) - 1)) = natsV (inner r) := by
  unfold cutV inner
  have e1 : HT.sIx (natsV r).length 0 (some 1) = min 1 (natsV r).length := HT.sIx_nat _ _ 1
  rw [e1, natsV_len, show ((r.length : Int) - 1) = ((r.length - 1 : Nat) : Int) by omega, HT.sIx_nat, Nat.min_eq_left h, Nat.min_eq_left (by omega), natsV_drop, natsV_take]
theorem take_get {r : List Nat} {i : Nat} (h : i < r.length) : r.take (i + 1) = r.take i ++ [r.getD i 0] := take_snoc (getD_at 0 h)
theorem nd_split {l : List Nat} {x : Nat} (h : (l ++ [x]).Nodup) : x ∉ l := fun m => by
  rw [List.nodup_append] at h
  exact h.2.2 x m x (List.mem_singleton.mpr rfl) rfl
theorem nd_take {r : List Nat} (h : r.Nodup) (i : Nat) : (r.take i).Nodup := (List.take_sublist i r).nodup h
section
variable {P : Program} {w : World} {K : PySem.W.Frag} {mg : Str → Option Value} {base : Heap}
/-! ### _law_is_path -/
theorem scLIs : FnScope ["net", "row", "k"] ["net", "row"] (defScope sLIs) := ⟨rfl, rfl, rfl, by decide +kernel, rfl, by decide +kernel, by decide +kernel⟩
theorem ok_lis {f C fJ : Addr} {fd fdJ : FuncData} {k : Nat} (F : Fun K "_law_is_path" "_law_is_path" sLIs f fd) (T : Blt mg) (c : NetC K C) (J : Callee P w K mg base 1 "_law_joined" ["net", "a", "b"] (spJoined K C) fJ fdJ) :
    FnOk P w K mg base CX0 (k + 2) f fd ["net", "row"] (spIs K C) := by
  refine F.ok scLIs (fun vs H Q E h => ?_) (fun cdv A outer s0 H vs Q E hr h => ?_)
  · obtain ⟨p, l, r, N, rfl, _⟩ := h
    rfl
  · obtain ⟨p, l, r, N, rfl, hN, hD0, hl, hlt, hlen, q⟩ := h
    have nd := scLIs.nd
    have hr1 : Room 1 _ := hr.mono (by omega)
    refine ⟨_, pss_cons (ps_if (pt_cmpR op_lt (pe_callB call_len_seq (by rfl) T.len PySem.boot_len (pa_cons (pv 1) pa_nil)) pe_int (nomark _)) (pss_one (ps_ret pe_bl)) (pss_nil)) <| pss_cons (ps_for PassesOwn.never rfl (pi_range1 (by rfl) T.range (pa_cons (pe_callB call_len_seq (by rfl) T.len PySem.boot_len (pa_cons (pv 1) pa_nil)) pa_nil)) (pg_name (i := 2) nd rfl (.inl rfl)) (pss_cons (ps_if (PW.pt (pw_or (pt_cmpR op_in_seq (pe_ix ix_list (pv 1) (pv 2) (fun _ _ => rfl)) (pe_slice sl_list (pv 1) po_none (po_some (pv 2))) rfl) (pw_or1 (pt_cmpR op_ne (pe_cmpR op_eq (pe_ix ix_list (pe_fld (pv 0) rfl) (pe_ix ix_list (pv 1) (pv 2) (fun _ _ => rfl)) (fun _ _ => rfl)) pe_str (nomark _)) (pe_or (pe_cmpR op_eq (pv 2) pe_int (nomark _)) (pe_one (pe_cmpR op_eq (pv 2) (pe_op op_sub (pe_callB call_len_seq (by rfl) T.len PySem.boot_len (pa_cons (pv 1) pa_nil)) pe_int) (nomark _)))) (nomark _))))) (pss_one (ps_ret pe_bl)) (pss_nil)) <| pss_one (ps_if (PW.pt (pw_and (pt_cmpR op_gt (pv 2) pe_int (nomark _)) (pw_and1 (pt_cmpR op_isN (pe_call J.ok hr1 (by rfl) J.mg J.kp J.b .nil pass0 (pa_cons (pv 0) (pa_cons (pe_ix ix_list (pv 1) (pe_op op_sub (pv 2) pe_int) (fun _ _ => rfl)) (pa_cons (pe_ix ix_list (pv 1) (pv 2) (fun _ _ => rfl)) pa_nil)))) pe_non (nomark _))))) (pss_one (ps_ret pe_bl)) (pss_nil)))) <| pss_one (ps_ret pe_bl), ?_⟩
    have eN := hN
    obtain ⟨dx, lk, ll, ld, ts0, e1, e2, e3, e4, e5⟩ := hN
    have no : ∀ (H' : Hp), Same H H' → ¬ IsP N r → Q (.bl false) H' := fun H' sm h => q false H' sm ⟨(fun z => by cases z), fun z => absurd z h⟩
    refine ⟨_, rfl, l, _, rfl, .inl (SqL.of hl), _, _, rfl, rfl, _, rfl, ite2 (fun e => ?_) (fun e => ?_)⟩
    · refine no H (Same.refl H) fun z => ?_
      have := z.two
      have e := of_decide_eq_true e
      rw [natsV_len] at e
      omega
    · have two : 2 ≤ r.length := by
        have e : ¬ (((natsV r).length : Int) < 2) := fun z => e (decide_eq_true z)
        rw [natsV_len] at e
        omega
      refine ⟨_, rfl, l, _, rfl, .inl (SqL.of hl), _, rfl, by omega, by rw [natsV_len]; omega, for_range (n := (natsV r).length) (fun i σ H' => ∃ v2 : Option V, σ = [some (.ref p), some (.ref l), v2] ∧ Same H H' ∧ (r.take i).Nodup ∧
        (∀ k, k < i → host N (r.getD k 0) = (decide (k = 0) || decide (k + 1 = r.length))) ∧ ∀ k, k + 1 < i → adj N (r.getD k 0) (r.getD (k + 1) 0) = true) ⟨none, rfl, Same.refl H, List.nodup_nil, fun k h => absurd h (Nat.not_lt_zero _), fun k h => absurd h (Nat.not_lt_zero _)⟩ ?_ ?_⟩
      · rintro i σ H' hi ⟨v2, rfl, sm, nt, ih, ia⟩
        rw [natsV_len] at hi
        rw [Int.zero_add]
        have hl' := sm _ _ hl
        have at0 : atI (natsV r) (i : Int) = some (.int ((r.getD i 0 : Nat) : Int)) := atI_nat (natsV_at (getD_at 0 hi))
        have hx := hlt _ (getD_in hi)
        have eh : decide (kindV (N.ks.getD (r.getD i 0) true) = V.str "host") = host N (r.getD i 0) := by
          unfold host
          cases N.ks.getD (r.getD i 0) true <;> decide +kernel
        refine or_read2 (a := (r.take i).contains (r.getD i 0)) (b := !decide (V.bl (host N (r.getD i 0)) = V.bl (decide (i = 0) || decide (i + 1 = r.length)))) (H := H') (fun Q h => ?_) (fun H1 s1 Q h => ?_) (fun H1 s1 => ?_)
        · have n1 : (natsV (r.take i)).all flatV = true := natsV_flat _
          refine ⟨_, rfl, _, rfl, l, _, _, _, rfl, rfl, SqL.of hl', at0, _, rfl, _, rfl, _, rfl, l, _, rfl, SqL.of hl', fun y ny => ?_⟩
          have sy := same_new (o := .lst (cutV (natsV r) none (some (i : Int)))) ny
          rw [cut_to r (by omega)] at sy ⊢
          refine ⟨y, _, rfl, .inl (SqL.of upd_same), rfl, n1, _, rfl, ?_⟩
          show Q (inV (V.int ((r.getD i 0 : Nat) : Int)) (natsV (r.take i))) _
          rw [natsV_in]
          exact h _ sy
        · refine ⟨_, rfl, p, C, dx, _, _, rfl, s1 _ _ (sm _ _ e1), c.cl, c.n1, g1, _, rfl, _, rfl, l, _, _, _, rfl, rfl, SqL.of (s1 _ _ hl'), at0, lk, _, _, _, rfl, rfl, SqL.of (s1 _ _ (sm _ _ e2)), atI_kind rfl hx, rfl, ?_⟩
          rw [eh]
          refine orv (a := decide (i = 0)) (b := decide (i + 1 = r.length)) (fun Q h => ?_) (fun Q h => ?_) ⟨rfl, _, rfl, h _ (Same.refl H1)⟩
          · refine ⟨_, rfl, rfl, ?_⟩
            show Q (.bl (decide (V.int (i : Int) = V.int 0))) H1
            rw [dec_int, show decide ((i : Int) = 0) = decide (i = 0) by rw [Bool.eq_iff_iff, decide_eq_true_eq, decide_eq_true_eq]; omega]
            exact h
          · refine ⟨_, rfl, _, rfl, l, _, rfl, .inl (SqL.of (s1 _ _ hl')), _, _, rfl, rfl, rfl, ?_⟩
            show Q (.bl (decide (V.int (i : Int) = V.int (((natsV r).length : Int) - 1)))) H1
            rw [dec_int, natsV_len, show decide ((i : Int) = (r.length : Int) - 1) = decide (i + 1 = r.length) by rw [Bool.eq_iff_iff, decide_eq_true_eq, decide_eq_true_eq]; omega]
            exact h
        · have S1 := sm.trans s1
          refine ite2 (fun e => ?_) (fun e => ?_)
          · refine no H1 S1 fun z => ?_
            rw [Bool.or_eq_true] at e
            rcases e with e | e
            · have := z.nd
              exact nd_split (by rw [← take_get hi]; exact nd_take z.nd _) (List.contains_iff_mem.mp e)
            · rw [Bool.not_eq_true', decide_eq_false_iff_not] at e
              exact e (by rw [z.hs i hi])
          · rw [Bool.or_eq_true, not_or, Bool.not_eq_true', Bool.not_eq_false, decide_eq_true_eq] at e
            obtain ⟨m, hk⟩ := e
            have hk : host N (r.getD i 0) = (decide (i = 0) || decide (i + 1 = r.length)) := by injection hk
            have nt' : (r.take (i + 1)).Nodup := by
              rw [take_get hi]
              exact nd_snoc' nt fun z => m (List.contains_iff_mem.mpr z)
            have ih' : ∀ k, k < i + 1 → host N (r.getD k 0) = (decide (k = 0) || decide (k + 1 = r.length)) := fun k hk' => by
              by_cases z : k = i
              · rw [z]; exact hk
              · exact ih k (by omega)
            dsimp only [tNext, tIfS]
            refine and_read (a := decide (0 < i)) (b := !adj N (r.getD (i - 1) 0) (r.getD i 0)) (fun Q h => ?_) (fun ea Q h => ?_) ?_
            · refine ⟨_, rfl, _, _, rfl, rfl, _, rfl, ?_⟩
              show Q (decide ((0 : Int) < (i : Int))) H1
              rw [show decide ((0 : Int) < (i : Int)) = decide (0 < i) by rw [Bool.eq_iff_iff, decide_eq_true_eq, decide_eq_true_eq]; omega]
              exact h
            · have ea := of_decide_eq_true ea
              have at1 : atI (natsV r) ((i : Int) - 1) = some (.int ((r.getD (i - 1) 0 : Nat) : Int)) := by
                rw [show ((i : Int) - 1) = ((i - 1 : Nat) : Int) by omega]
                exact atI_nat (natsV_at (getD_at 0 (by omega)))
              refine ⟨_, rfl, _, rfl, _, rfl, _, _, rfl, rfl, l, _, _, _, rfl, rfl, SqL.of (s1 _ _ hl'), at1, _, rfl, _, rfl, l, _, _, _, rfl, rfl, SqL.of (s1 _ _ hl'), at0, p, r.getD (i - 1) 0, r.getD i 0, N, rfl, eN.same S1, ?_⟩
              refine ⟨rfl, _, rfl, ?_⟩
              rw [dec_non, joined_some]
              exact h
            · refine ite2 (fun e => ?_) (fun e => ?_)
              · refine no H1 S1 fun z => ?_
                rw [Bool.and_eq_true, decide_eq_true_eq, Bool.not_eq_true'] at e
                have := z.ad (i - 1) (by omega)
                rw [show i - 1 + 1 = i by omega, e.2] at this
                cases this
              · refine ⟨_, rfl, S1, nt', ih', fun k hk' => ?_⟩
                by_cases z : k + 1 = i
                · rw [Bool.and_eq_true, not_and, decide_eq_true_eq, Bool.not_eq_true', Bool.not_eq_false] at e
                  have := e (by omega)
                  rw [show i - 1 = k by omega] at this
                  rw [z]
                  exact this
                · exact ia k (by omega)
      · rintro σ H' ⟨v2, rfl, sm, nt, ih, ia⟩
        rw [natsV_len] at nt ih ia
        rw [List.take_length] at nt
        exact q true H' sm ⟨fun _ => ⟨two, nt, ih, ia⟩, fun _ => rfl⟩
/-! ### _law_separate -/
theorem scLSep : FnScope ["first", "second", "node"] ["first", "second"] (defScope sLSep) := ⟨rfl, rfl, rfl, by decide +kernel, rfl, by decide +kernel, by decide +kernel⟩
def spLSep : Sp := fun vs H Q _ => ∃ (a b : Addr) (r s : List Nat), vs = [.ref a, .ref b] ∧ H a = some (.lst (natsV r)) ∧ H b = some (.lst (natsV s)) ∧ 1 ≤ r.length ∧ 1 ≤ s.length ∧ r.length ≤ 100 ∧ s.length ≤ 100 ∧ ∀ H' : Hp, Same H H' → Q (.bl (sepB r s)) H'
theorem ok_lsep {f : Addr} {fd : FuncData} {k : Nat} (F : Fun K "_law_separate" "_law_separate" sLSep f fd) (T : Blt mg) : FnOk P w K mg base CX0 (k + 1) f fd ["first", "second"] spLSep := by
  refine F.ok scLSep (fun vs H Q E h => ?_) (fun cdv A outer s0 H vs Q E hr h => ?_)
  · obtain ⟨a, b, r, s, rfl, _⟩ := h
    rfl
  · obtain ⟨a, b, r, s, rfl, ha, hb, h1, h2, hlr, hls, q⟩ := h
    have nd := scLSep.nd
    refine ⟨_, pss_cons (ps_for PassesOwn.never rfl (pi_list (pe_slice sl_list (pv 0) (po_some pe_int) (po_some (pe_op op_sub (pe_callB call_len_seq (by rfl) T.len PySem.boot_len (pa_cons (pv 0) pa_nil)) pe_int)))) (pg_name (i := 2) nd rfl (.inl rfl)) (pss_one (ps_if (pt_cmpR op_in_seq (pv 2) (pe_slice sl_list (pv 1) (po_some pe_int) (po_some (pe_op op_sub (pe_callB call_len_seq (by rfl) T.len PySem.boot_len (pa_cons (pv 1) pa_nil)) pe_int))) rfl) (pss_one (ps_ret pe_bl)) (pss_nil)))) <| pss_one (ps_ret (pe_or (pe_cmpR op_gt (pe_callB call_len_seq (by rfl) T.len PySem.boot_len (pa_cons (pv 0) pa_nil)) pe_int (nomark _)) (pe_one (pe_cmpR op_gt (pe_callB call_len_seq (by rfl) T.len PySem.boot_len (pa_cons (pv 1) pa_nil)) pe_int (nomark _))))), ?_⟩
    refine ⟨_, rfl, _, rfl, _, rfl, a, _, rfl, .inl (SqL.of ha), _, _, rfl, rfl, _, rfl, a, _, rfl, SqL.of ha, fun y ny => ?_⟩
    have sy := same_new (o := .lst (cutV (natsV r) (some 1) (some (((natsV r).length : Int) - 1)))) ny
    have hy : (upd H y (.lst (cutV (natsV r) (some 1) (some (((natsV r).length : Int) - 1))))) y = some (.lst (natsV (inner r))) := by rw [upd_same, cut_in r h1]
    generalize (upd H y (.lst (cutV (natsV r) (some 1) (some (((natsV r).length : Int) - 1))))) = H1 at sy hy ⊢
    refine ⟨y, rfl, ⟨_, SqL.of hy⟩, for_list (K := K) (a := y) (xs := natsV (inner r)) (fun i σ H' => ∃ v2 : Option V, σ = [some (.ref a), some (.ref b), v2] ∧ Same H1 H' ∧ ((inner r).take i).all (fun x => !(inner s).contains x) = true) ⟨none, rfl, Same.refl H1, rfl⟩ (fun i σ H' _ ⟨_, _, sm, _⟩ => SqL.of (sm _ _ hy)) ?_ ?_⟩
    · rintro i x σ H' hi ⟨v2, rfl, sm, ih⟩
      obtain ⟨n, en, rfl⟩ := nats_at hi
      have hb' := sm _ _ (sy _ _ hb)
      refine ⟨_, rfl, _, rfl, _, rfl, _, rfl, b, _, rfl, .inl (SqL.of hb'), _, _, rfl, rfl, _, rfl, b, _, rfl, SqL.of hb', fun z nz => ?_⟩
      have sz' := same_new (o := .lst (cutV (natsV s) (some 1) (some (((natsV s).length : Int) - 1)))) nz
      refine ⟨z, _, rfl, .inl (SqL.of upd_same), rfl, by rw [cut_in s h2]; exact natsV_flat _, _, rfl, ?_⟩
      rw [cut_in s h2]
      show (if inV (V.int (n : Int)) (natsV (inner s)) = true then _ else _)
      rw [natsV_in]
      refine ite2 (fun e => ?_) (fun e => ?_)
      · have ef : sepB r s = false := by
          unfold sepB
          rw [Bool.and_eq_false_iff]
          refine .inl ?_
          rw [List.all_eq_false]
          exact ⟨n, List.mem_of_getElem? en, by rw [e]; decide⟩
        rw [cut_in s h2] at sz'
        have := q _ ((sy.trans sm).trans sz')
        rw [ef] at this
        exact this
      · rw [cut_in s h2] at sz'
        refine ⟨_, rfl, sm.trans sz', ?_⟩
        rw [take_snoc en, List.all_append, ih, Bool.true_and, List.all_cons, List.all_nil, Bool.and_true, Bool.not_eq_true']
        exact Bool.eq_false_iff.mpr e
    · rintro σ H' ⟨v2, rfl, sm, ih⟩
      rw [natsV_len, List.take_length] at ih
      have ha' := sm _ _ (sy _ _ ha)
      have hb' := sm _ _ (sy _ _ hb)
      dsimp only [tRet]
      refine orv (a := decide (2 < r.length)) (b := decide (2 < s.length)) (fun Q h => ?_) (fun Q h => ?_) ?_
      · refine ⟨_, rfl, a, _, rfl, .inl (SqL.of ha'), _, _, rfl, rfl, ?_⟩
        show Q (.bl (decide (((natsV r).length : Int) > 2))) H'
        rw [natsV_len, show decide ((r.length : Int) > 2) = decide (2 < r.length) by rw [Bool.eq_iff_iff, decide_eq_true_eq, decide_eq_true_eq]; omega]
        exact h
      · refine ⟨_, rfl, b, _, rfl, .inl (SqL.of hb'), _, _, rfl, rfl, ?_⟩
        show Q (.bl (decide (((natsV s).length : Int) > 2))) H'
        rw [natsV_len, show decide ((s.length : Int) > 2) = decide (2 < s.length) by rw [Bool.eq_iff_iff, decide_eq_true_eq, decide_eq_true_eq]; omega]
        exact h
      · have := q _ (sy.trans sm)
        unfold sepB at this
        rw [ih, Bool.true_and] at this
        exact this
end
end My
namespace My
open PySem PySem.Spec PyProof.Rows L2
section
variable {P : Program} {w : World} {K : PySem.W.Frag} {mg : Str → Option Value} {base : Heap}
theorem due_nbs {N : NetD} (h : Dist N.ls) (i n : Nat) : (List.range n).filter (fun b => !decide (b = i) && adj N i b) = (List.range n).filter (adj N i) := by
  refine List.filter_congr fun b _ => ?_
  by_cases e : b = i
  · rw [e, adj_self h, Bool.and_false]
  · rw [decide_eq_false e]; rfl
theorem scal_opt (o : Option Int) : scal (optV o) (optV o) = true := by
  cases o <;> rfl
/-! ### _law_lines_hold -/
theorem scLi : FnScope ["net", "size", "a", "b", "due"] ["net"] (defScope sLines) := ⟨rfl, rfl, rfl, by decide +kernel, rfl, by decide +kernel, by decide +kernel⟩
def spLi (K : PySem.W.Frag) (C : Addr) : Sp := fun vs H Q _ => ∃ (p : Addr) (N : NetD), vs = [.ref p] ∧ NetAt K C H p N ∧ Dist N.ls ∧ N.ks.length ≤ 1000 ∧ ∀ H' : Hp, Same H H' → Q (.bl true) H'
theorem ok_lines {f C fJ fN fD : Addr} {fd fdJ fdN fdD : FuncData} {k : Nat} (F : Fun K "_law_lines_hold" "_law_lines_hold" sLines f fd) (T : Blt mg) (c : NetC K C) (J : Callee P w K mg base 1 "_law_joined" ["net", "a", "b"] (spJoined K C) fJ fdJ)
    (mN : Meth K C "neighbours" fN) (GN : MethOf P w K mg base 1 ["self", "a"] (spNb K C) fN fdN) (mD : Meth K C "delay" fD) (GD : MethOf P w K mg base 1 ["self", "a", "b"] (spDelay K C) fD fdD) :
    FnOk P w K mg base CX0 (k + 2) f fd ["net"] (spLi K C) := by
  refine F.ok scLi (fun vs H Q E h => ?_) (fun cdv A outer s0 H vs Q E hr h => ?_)
  · obtain ⟨p, N, rfl, _⟩ := h
    rfl
  · obtain ⟨p, N, rfl, hN, hD0, hn, q⟩ := h
    have nd := scLi.nd
    have hr1 : Room 1 _ := hr.mono (by omega)
    refine ⟨_, pss_cons (ps_set (i := 1) nd rfl (.inl rfl) (pe_callB call_len_seq (by rfl) T.len PySem.boot_len (pa_cons (pe_fld (pv 0) rfl) pa_nil))) <| pss_cons (ps_for PassesOwn.never rfl (pi_range1 (by rfl) T.range (pa_cons (pv 1) pa_nil)) (pg_name (i := 2) nd rfl (.inr rfl)) (pss_cons (ps_setLc (i := 4) (own := [("b", 3)]) (g := gName 3) rfl nd rfl rfl (sw_true rfl rfl rfl (by decide +kernel)) (pi_range1 (by rfl) T.range (pa_cons (pv 1) pa_nil)) (blkOk_by (own := [("b", 3)]) (N := ["net", "size", "a", "b", "due"]) (sc := defScope sLines) (by decide +kernel)) (fun _ _ _ _ _ => pg_name (i := 3) nd rfl (Or.inl rfl)) (fun _ _ _ _ _ => pts_one (PW.pt (pw_and (pt_cmpR op_ne (pv 3) (pv 2) (nomark _)) (pw_and1 (pt_cmpR op_notN (pe_call J.ok hr1 (by rfl) J.mg J.kp J.b .nil pass0 (pa_cons (pv 0) (pa_cons (pv 2) (pa_cons (pv 3) pa_nil)))) pe_non (nomark _)))))) (fun _ _ _ _ _ => (pv 3))) <| pss_cons (ps_if (pt_cmpR (op_neD hr.units) (pe_meth (pv 0) c.cl mN GN.ok hr1 GN.b .nil pass0 (pa_cons (pv 2) pa_nil)) (pv 4) (nomark _)) (pss_one (ps_ret pe_bl)) (pss_nil)) <| pss_one (ps_for PassesOwn.never rfl (pi_range1 (by rfl) T.range (pa_cons (pv 1) pa_nil)) (pg_name (i := 3) nd rfl (.inl rfl)) (pss_one (ps_if (PW.pt (pw_and (pt_cmpR op_ne (pv 2) (pv 3) (nomark _)) (pw_and1 (pt_cmpR op_ne (pe_meth (pv 0) c.cl mD GD.ok hr1 GD.b .nil pass0 (pa_cons (pv 2) (pa_cons (pv 3) pa_nil))) (pe_call J.ok hr1 (by rfl) J.mg J.kp J.b .nil pass0 (pa_cons (pv 0) (pa_cons (pv 2) (pa_cons (pv 3) pa_nil)))) (nomark _))))) (pss_one (ps_ret pe_bl)) (pss_nil)))))) <| pss_one (ps_ret pe_bl), ?_⟩
    have eN := hN
    obtain ⟨dx, lk, ll, ld, ts0, e1, e2, e3, e4, e5⟩ := hN
    have en : (N.ks.map kindV).length = N.ks.length := List.length_map ..
    refine ⟨_, rfl, p, C, dx, _, _, rfl, e1, c.cl, c.n1, g1, lk, _, rfl, .inl (SqL.of e2), ?_⟩
    refine ⟨_, rfl, (((N.ks.map kindV).length : Nat) : Int), rfl, by omega, by omega, for_range (n := (N.ks.map kindV).length) (fun i σ H' => ∃ v2 v3 v4 : Option V, σ = [some (.ref p), some (.int (((N.ks.map kindV).length : Nat) : Int)), v2, v3, v4] ∧ Same H H') ⟨none, none, none, rfl, Same.refl H⟩ ?_ ?_⟩
    · rintro i σ H1 hi ⟨v2, v3, v4, rfl, s1⟩
      rw [Int.zero_add]
      refine ⟨_, rfl, (((N.ks.map kindV).length : Nat) : Int), rfl, by omega, by omega, fun D nD => ?_⟩
      refine lc_range (lo := 0) (n := (N.ks.map kindV).length) (fun j H' => Same H1 H' ∧ H' D = some (.lst (natsV ((List.range j).filter (fun b => !decide (b = i) && adj N i b))))) ⟨same_new nD, upd_same⟩ ?_ ?_
      · rintro j H2 hj ⟨s2, hD⟩
        rw [Int.zero_add]
        refine ⟨rfl, ?_⟩
        refine and_read (a := !decide (j = i)) (b := adj N i j) (fun Q h => ?_) (fun _ Q h => ?_) ?_
        · refine ⟨_, rfl, _, rfl, rfl, _, rfl, ?_⟩
          rw [dec_nat]
          exact h
        · refine ⟨_, rfl, _, rfl, _, rfl, p, i, j, N, rfl, eN.same (s1.trans s2), ?_⟩
          refine ⟨rfl, _, rfl, ?_⟩
          rw [optV_non, joined_some]
          exact h
        · have lf := List.length_filter_le (fun b => !decide (b = i) && adj N i b) (List.range j)
          rw [List.length_range] at lf
          refine ite2 (fun e => ?_) (fun e => ?_)
          · refine ⟨_, rfl, _, hD, szl (by rw [natsV_len]; omega), same_but s2 nD but_self, ?_⟩
            rw [upd_same, natsV_app, List.range_succ, List.filter_append, List.filter_cons, if_pos e]
            rfl
          · refine ⟨s2, ?_⟩
            rw [List.range_succ, List.filter_append, List.filter_cons, if_neg e]
            simpa using hD
      rintro H2 ⟨s2, hD⟩
      rw [en, due_nbs hD0] at hD
      have S2 := s1.trans s2
      refine ⟨_, rfl, p, dx, _, rfl, S2 _ _ e1, g6, _, rfl, p, i, N, rfl, eN.same S2, hn, fun H3 l s3 nl hl => ?_⟩
      refine ⟨_, rfl, dList (nbs N i), dList (nbs N i), dp_list (SqL.of hl), dp_list (SqL.of (s3 _ _ hD)), (shp_nats _).shaped, (shp_nats _).shaped, _, rfl, ?_⟩
      rw [eqv_nats, decide_eq_true rfl]
      refine ite2 (fun e => by cases e) (fun _ => ?_)
      have S3 := S2.trans s3
      refine ⟨_, rfl, (((N.ks.map kindV).length : Nat) : Int), rfl, by omega, by omega, for_range (n := (N.ks.map kindV).length) (fun j σ H' => ∃ v3 v4 : Option V, σ = [some (.ref p), some (.int (((N.ks.map kindV).length : Nat) : Int)), some (.int (i : Int)), v3, v4] ∧ Same H H') ⟨_, _, rfl, S3⟩ ?_ ?_⟩
      · rintro j σ H4 hj ⟨v3, v4, rfl, s4⟩
        rw [Int.zero_add]
        dsimp only [gName, tIfS]
        refine and_read2 (a := !decide (i = j)) (b := false) (fun Q h => ?_) (fun _ H5 s5 Q h => ?_) (fun H5 s5 => ?_)
        · refine ⟨_, rfl, _, rfl, rfl, _, rfl, ?_⟩
          rw [dec_nat]
          exact h H4 (Same.refl H4)
        · refine ⟨_, rfl, p, dx, _, rfl, s5 _ _ (s4 _ _ e1), g7, _, rfl, _, rfl, p, i, j, N, rfl, eN.same (s4.trans s5), hD0, fun H6 s6 => ?_⟩
          refine ⟨_, rfl, _, rfl, _, rfl, p, i, j, N, rfl, eN.same ((s4.trans s5).trans s6), scal_opt _, _, rfl, ?_⟩
          rw [decide_eq_true rfl]
          exact h H6 s6
        · rw [Bool.and_false]
          refine ite2 (fun e => by cases e) (fun _ => ?_)
          exact ⟨_, _, rfl, s4.trans s5⟩
      · rintro σ H4 ⟨v3, v4, rfl, s4⟩
        exact ⟨_, v3, v4, rfl, s4⟩
    · rintro σ H1 ⟨v2, v3, v4, rfl, s1⟩
      exact q H1 s1
end
end My
namespace My
open PySem PySem.Spec PyProof.Rows L2
abbrev sEqH : Stmt := top 14
theorem Dist.tail {l : Nat × Nat × Int} {r : List (Nat × Nat × Int)} (h : Dist (l :: r)) : Dist r := ⟨by
  have := h.nd
  rw [List.map_cons, List.nodup_cons] at this
  exact this.2, fun k hk => h.ne k (List.mem_cons_of_mem _ hk)⟩
theorem Dist.bump {a b : Nat} {t u : Int} {r : List (Nat × Nat × Int)} (h : Dist ((a, b, t) :: r)) : Dist ((a, b, u) :: r) := ⟨by
  have := h.nd
  rw [List.map_cons, show norm (a, b, t) = norm (a, b, u) from norm_eq (.inl ⟨rfl, rfl⟩)] at this
  exact this, fun k hk => by
  rcases List.mem_cons.mp hk with e | hk
  · rw [e]
    exact h.ne (a, b, t) List.mem_cons_self
  · exact h.ne k (List.mem_cons_of_mem _ hk)⟩
theorem same_bump {ls r : List (Nat × Nat × Int)} {a b : Nat} {t u : Int} (h : Dist ls) (e : turn ls = (a, b, t) :: r) (ne : t ≠ u) : Dq.sameD (delaysOf ls) (delaysOf ((a, b, u) :: r)) = false := by
  have hd : Dist ((a, b, t) :: r) := e ▸ h.turn
  have hm : (a, b, t) ∈ turn ls := by rw [e]; exact List.mem_cons_self
  obtain ⟨k, hk, ek⟩ := turn_mem.mp hm
  have e1 : hits a b k = true := by
    rw [← hits_flip, ek]
    exact hits_mk (.inl ⟨rfl, rfl⟩)
  refine same_other h hd.bump hk List.mem_cons_self e1 (hits_mk (.inl ⟨rfl, rfl⟩)) ?_
  have : (flip k).2.2 = t := by rw [ek]
  show k.2.2 ≠ u
  rw [show k.2.2 = t from this]
  exact ne
theorem same_tail {ls r : List (Nat × Nat × Int)} {l : Nat × Nat × Int} (h : Dist ls) (e : turn ls = l :: r) : Dq.sameD (delaysOf ls) (delaysOf r) = false := by
  have hd : Dist (l :: r) := e ▸ h.turn
  refine same_len h hd.tail ?_
  rw [← turn_len ls, e, List.length_cons]
  omega
theorem sameN_no {N M : NetD} (h : N.ks ≠ M.ks ∨ N.pr ≠ M.pr ∨ N.er ≠ M.er ∨ Dq.sameD (delaysOf N.ls) (delaysOf M.ls) = false) : sameN N M = false := by
  unfold sameN
  rcases h with h | h | h | h
  · rw [decide_eq_false h]; rfl
  · rw [decide_eq_false h, Bool.false_and, Bool.and_false]
  · rw [decide_eq_false h, Bool.false_and, Bool.and_false, Bool.and_false]
  · rw [h, Bool.and_false, Bool.and_false, Bool.and_false]
theorem Paired.rev {α β : Type} {F : α → β → Prop} : ∀ {xs : List α} {ys : List β}, Paired F xs ys → Paired F xs.reverse ys.reverse
  | _, _, .nil => .nil
  | _, _, .cons h t => by
    rw [List.reverse_cons, List.reverse_cons]
    exact Paired.snoc h (Paired.rev t)
theorem ks_set {ks : List Bool} {i : Nat} (h : i < ks.length) : ks ≠ ks.set i (!ks.getD i true) := fun e => by
  have : ks[i]? = (ks.set i (!ks.getD i true))[i]? := by rw [← e]
  rw [List.getElem?_set_self h, getD_at true h] at this
  have := Option.some.inj this
  cases q : ks.getD i true <;> rw [q] at this <;> cases this
theorem ixn {n j : Nat} (h : j < n) : ixN n (j : Int) = some j := by
  unfold ixN
  rw [if_pos (by omega), if_pos (by omega), Int.toNat_natCast]
structure EqMk (P : Program) (w : World) (K : PySem.W.Frag) (mg : Str → Option Value) (base : Heap) (C f : Addr) (fd : FuncData) : Prop where
  ok : FnOk P w K mg base CX0 1 f fd ["self", "other"] (spEqN K C)
  hs : PySem.W.findIn K (.ref C) "__eq__" = some (some (.ref f))
  hf : PySem.W.isFn K (.ref f) = true
  b : Binds K fd ["self", "other"] []
section
variable {P : Program} {w : World} {K : PySem.W.Frag} {mg : Str → Option Value} {base : Heap}
theorem eq_test {C : Addr} {H : Hp} {Q : VK} {E : XK} {p q : Addr} {N M : NetD} (hN : NetAt K C H p N) (dN : Dist N.ls) (hM : NetAt K C H q M) (dM : Dist M.ls) (h : Q (.bl (sameN N M)) H) : rOwnE K C (spEqN K C) E (.ref p) (.ref q) H Q := by
  obtain ⟨dx, lk, ll, ld, ts, e1, _⟩ := id hN
  obtain ⟨dy, mk, ml, md, us, d1, _⟩ := id hM
  exact ⟨p, dx, _, rfl, e1, .own d1, p, N, _, rfl, hN, dN, .inl ⟨q, M, rfl, hM, dM, h⟩⟩
theorem same_lst {K : PySem.W.Frag} {H H' : Hp} {a : Addr} {xs : List V} (e : Same H H') (h : SqL K H a xs) : SqL K H' a xs := by
  rcases h with (h | ⟨o, h⟩) | h
  · exact .inl (.inl (e _ _ h))
  · exact .inl (.inr ⟨o, e _ _ h⟩)
  · exact .inr h
theorem mk_net {C : Addr} {H : Hp} {R : VK} {x dx pk pl : Addr} {ts : List Addr} {N : NetD} {ws : List V} (nx : H x = none) (ndx : H dx = none) (ne : dx ≠ x) (hk : SqL K H pk (N.ks.map kindV)) (hl : SqL K H pl (ts.map V.ref)) (ht : LinesAt K H ts N.ls) (few : N.ls.length ≤ 1000)
    (q : ∀ H' : Hp, Same H H' → NetAt K C H' x N → R .non H') (e : ws = [.ref x, .ref pk, .ref pl, .int N.pr, .int N.er] := by rfl) : spInit K C ws (upd (upd H dx (.own x)) x (.ins C dx [])) R E0 := by
  subst e
  have z : ∀ b o, H b = some o → b ≠ x ∧ (upd (upd H dx (.own x)) x (.ins C dx [])) b = some o := fun b o e => by
    have h1 := ne_of_none e nx
    exact ⟨h1, by rw [upd_ne h1, upd_ne (ne_of_none e ndx)]; exact e⟩
  have zs : Same H (upd (upd H dx (.own x)) x (.ins C dx [])) := fun b o e => (z b o e).2
  refine ⟨x, dx, pk, pl, ts, N, rfl, upd_same, same_lst zs hk, same_lst zs hl, LinesAt.mono ht fun a ys t => same_tup zs t, few, fun H' kb' hN => q H' (fun b o e => ?_) hN.at⟩
  obtain ⟨z1, z2⟩ := z b o e
  exact kb' b o z2 z1
/-! ### _law_equal_holds -/
theorem scEqH : FnScope ["net", "numbers", "a", "b", "ticks", "turned", "same", "kinds", "at"] ["net", "numbers"] (defScope sEqH) := ⟨rfl, rfl, rfl, by decide +kernel, rfl, by decide +kernel, by decide +kernel⟩
def spEqH (K : PySem.W.Frag) (C : Addr) : Sp := fun vs H Q _ => ∃ (p l : Addr) (N : NetD) (ns : List Int), vs = [.ref p, .ref l] ∧ NetAt K C H p N ∧ Dist N.ls ∧ N.ls.length ≤ 900 ∧ 0 < N.ks.length ∧ N.ks.length ≤ 100 ∧ H l = some (.lst (ns.map V.int)) ∧ 1 ≤ ns.length ∧ 0 ≤ ns.getD 0 0 ∧
  ∀ H' : Hp, Same H H' → Q (.bl true) H'
theorem ok_eqh {f C fI fE : Addr} {fd fdI fdE : FuncData} {k : Nat} (F : Fun K "_law_equal_holds" "_law_equal_holds" sEqH f fd) (T : Blt mg) (c : NetC K C) (i : NetI K C) (G : NetMk P w K mg base C fI fdI) (GE : EqMk P w K mg base C fE fdE) :
    FnOk P w K mg base CX0 (k + 3) f fd ["net", "numbers"] (spEqH K C) := by
  refine F.ok scEqH (fun vs H Q E h => ?_) (fun cdv A outer s0 H vs Q E hr h => ?_)
  · obtain ⟨p, l, N, ns, rfl, _⟩ := h
    rfl
  · obtain ⟨p, l, N, ns, rfl, hN, hD0, hls, k0, k1, hl, hn1, hn0, q⟩ := h
    have nd := scEqH.nd
    have hr1 : Room 1 _ := hr.mono (by omega)
    have hr2 : Room 2 _ := hr.mono (by omega)
    refine ⟨_, pss_cons (ps_setLc (i := 5) (own := [("a", 2), ("b", 3), ("ticks", 4)]) (g := (gTup K 3 (gCons (gName 2) (gCons (gName 3) (gCons (gName 4) gNil))))) (tt := tYes) rfl nd rfl rfl (sw_true rfl rfl rfl (by decide +kernel)) (pi_list (pe_fld (pv 0) rfl)) (blkOk_by (own := [("a", 2), ("b", 3), ("ticks", 4)]) (N := ["net", "numbers", "a", "b", "ticks", "turned", "same", "kinds", "at"]) (sc := defScope sEqH) (by decide +kernel)) (fun _ _ _ _ _ => pg_tupK (K := K) rfl (pgs_cons (pg_name (i := 2) nd rfl (Or.inl rfl)) (pgs_cons (pg_name (i := 3) nd rfl (Or.inl rfl)) (pgs_cons (pg_name (i := 4) nd rfl (Or.inl rfl)) pgs_nil)))) (fun _ _ _ _ _ => pts_nil) (fun _ _ _ _ _ => (pe_tup (pa_cons (pv 3) (pa_cons (pv 2) (pa_cons (pv 4) pa_nil)))))) <| pss_cons (ps_expr (pe_bm0 PySem.F.plainAttrs_list PySem.F.slot_list_reverse PySem.F.type_list_reverse mt_reverse (pv 5))) <| pss_cons (ps_set (i := 6) nd rfl (.inl rfl) (pe_makeK G.mkC G.ok hr2 (by rfl) G.mg G.kb pass0 (pa_cons (pe_callTy call_list_of (by rfl) T.list (by decide +kernel) (pa_cons (pe_fld (pv 0) rfl) pa_nil)) (pa_cons (pv 5) pa_nil)) (pk_cons (pe_fld (pv 0) rfl) (pk_cons (pe_fld (pv 0) rfl) pk_nil)))) <| pss_cons (ps_if (PW.pt (pw_or (pt_not (pt_cmpR (op_ownE GE.ok hr1 GE.hs GE.hf GE.b pass0) (pv 0) (pv 6) (nomark _))) (pw_or (pt_cmpR (op_ownE GE.ok hr1 GE.hs GE.hf GE.b pass0) (pv 0) (pe_fld (pv 0) rfl) (nomark _)) (pw_or1 (pt_cmpR (op_ownE GE.ok hr1 GE.hs GE.hf GE.b pass0) (pv 0) pe_int (nomark _)))))) (pss_one (ps_ret pe_bl)) (pss_nil)) <| pss_cons (ps_if (pt_cmpR (op_ownE GE.ok hr1 GE.hs GE.hf GE.b pass0) (pv 0) (pe_makeK G.mkC G.ok hr2 (by rfl) G.mg G.kb pass0 (pa_cons (pe_fld (pv 0) rfl) (pa_cons (pv 5) pa_nil)) (pk_cons (pe_op op_add (pe_fld (pv 0) rfl) pe_int) (pk_cons (pe_fld (pv 0) rfl) pk_nil))) (nomark _)) (pss_one (ps_ret pe_bl)) (pss_nil)) <| pss_cons (ps_if (pt_cmpR (op_ownE GE.ok hr1 GE.hs GE.hf GE.b pass0) (pv 0) (pe_makeK G.mkC G.ok hr2 (by rfl) G.mg G.kb pass0 (pa_cons (pe_fld (pv 0) rfl) (pa_cons (pv 5) pa_nil)) (pk_cons (pe_fld (pv 0) rfl) (pk_cons (pe_op op_add (pe_fld (pv 0) rfl) pe_int) pk_nil))) (nomark _)) (pss_one (ps_ret pe_bl)) (pss_nil)) <| C8.pss_cut (ps_if (pt_cmpR op_gt (pe_callB call_len_seq (by rfl) T.len PySem.boot_len (pa_cons (pv 5) pa_nil)) pe_int (nomark _)) (pss_cons (ps_asg (pe_ix ix_list (pv 5) pe_int (fun _ _ => rfl)) (pg_tup rfl (pgs_cons (pg_name (i := 2) nd rfl (.inl rfl)) (pgs_cons (pg_name (i := 3) nd rfl (.inl rfl)) (pgs_cons (pg_name (i := 4) nd rfl (.inl rfl)) pgs_nil))))) <| pss_cons (ps_if (pt_cmpR (op_ownE GE.ok hr1 GE.hs GE.hf GE.b pass0) (pv 0) (pe_makeK G.mkC G.ok hr2 (by rfl) G.mg G.kb pass0 (pa_cons (pe_fld (pv 0) rfl) (pa_cons (pe_op op_cat (pe_lst (pa_cons (pe_tup (pa_cons (pv 2) (pa_cons (pv 3) (pa_cons (pe_op op_add (pv 4) pe_int) pa_nil)))) pa_nil)) (pe_slice sl_list (pv 5) (po_some pe_int) po_none)) pa_nil)) (pk_cons (pe_fld (pv 0) rfl) (pk_cons (pe_fld (pv 0) rfl) pk_nil))) (nomark _)) (pss_one (ps_ret pe_bl)) (pss_nil)) <| pss_one (ps_if (pt_cmpR (op_ownE GE.ok hr1 GE.hs GE.hf GE.b pass0) (pv 0) (pe_makeK G.mkC G.ok hr2 (by rfl) G.mg G.kb pass0 (pa_cons (pe_fld (pv 0) rfl) (pa_cons (pe_slice sl_list (pv 5) (po_some pe_int) po_none) pa_nil)) (pk_cons (pe_fld (pv 0) rfl) (pk_cons (pe_fld (pv 0) rfl) pk_nil))) (nomark _)) (pss_one (ps_ret pe_bl)) (pss_nil))) (pss_nil)) <| pss_cons (ps_set (i := 7) nd rfl (.inl rfl) (pe_callTy call_list_of (by rfl) T.list (by decide +kernel) (pa_cons (pe_fld (pv 0) rfl) pa_nil))) <| pss_cons (ps_set (i := 8) nd rfl (.inl rfl) (pe_op op_mod (pe_ix ix_list (pv 1) pe_int (fun _ _ => rfl)) (pe_callB call_len_seq (by rfl) T.len PySem.boot_len (pa_cons (pv 7) pa_nil)))) <| pss_cons (ps_asg (pe_ix ix_list (pe_lst (pa_cons pe_str (pa_cons pe_str pa_nil))) (pe_callTy call_int1 (by rfl) T.int (by decide +kernel) (pa_cons (pe_cmpR op_eq (pe_ix ix_list (pv 7) (pv 8) (fun _ _ => rfl)) pe_str (nomark _)) pa_nil)) (fun _ _ => rfl)) (pg_sub (pv 7) (pv 8) set_list)) <| pss_one (ps_ret (pe_not (pe_cmpR (op_ownE GE.ok hr1 GE.hs GE.hf GE.b pass0) (pv 0) (pe_makeK G.mkC G.ok hr2 (by rfl) G.mg G.kb pass0 (pa_cons (pv 7) (pa_cons (pv 5) pa_nil)) (pk_cons (pe_fld (pv 0) rfl) (pk_cons (pe_fld (pv 0) rfl) pk_nil))) (nomark _)))), ?_⟩
    have eN := hN
    obtain ⟨dx, lk, ll, ld, ts, e1, e2, e3, e4, e5⟩ := hN
    have tlen : ts.length = N.ls.length := e4.length
    -- turned
    refine ⟨_, rfl, p, C, dx, _, _, rfl, e1, c.cl, c.n2, g2, ll, rfl, ⟨_, SqL.of e3⟩, fun D nD => ?_⟩
    refine lc_list (K := K) (a := ll) (xs := ts.map V.ref) (fun i H' => Same H H' ∧ ∃ us : List Addr, H' D = some (.lst (us.map V.ref)) ∧ LinesAt K H' us ((N.ls.take i).map flip)) ⟨same_new nD, [], upd_same, .nil⟩ (fun i H' _ z => SqL.of (z.1 _ _ e3)) ?_ ?_
    · rintro j x H' hi ⟨sm, us, hD, hL⟩
      rw [List.getElem?_map] at hi
      cases ht : ts[j]? with
      | none => rw [ht] at hi; cases hi
      | some t =>
        rw [ht] at hi
        cases hi
        obtain ⟨z, ez, hT⟩ := Paired.at e4 ht
        have lu : us.length = ((N.ls.take j).map flip).length := hL.length
        rw [List.length_map, List.length_take] at lu
        refine ⟨t, _, rfl, same_tup sm hT, rfl, _, _, rfl, _, _, rfl, _, _, rfl, rfl, rfl, ?_⟩
        refine ⟨_, rfl, _, rfl, _, rfl, by show 3 ≤ sizeLine; decide, fun u nu => ?_⟩
        have su := same_new (o := .tup [V.int (z.2.1 : Int), V.int (z.1 : Int), V.int z.2.2]) nu
        have hD' := su _ _ hD
        refine ⟨_, hD', szl (by rw [List.length_map]; omega), same_but (sm.trans su) nD but_self, us ++ [u], ?_, ?_⟩
        · rw [upd_same, List.map_append]
          rfl
        · rw [take_snoc ez, List.map_append]
          have kb2 : But D (upd H' u (.tup [V.int (z.2.1 : Int), V.int (z.1 : Int), V.int z.2.2])) (upd (upd H' u (.tup [V.int (z.2.1 : Int), V.int (z.1 : Int), V.int z.2.2])) D (.lst (us.map V.ref ++ [V.ref u]))) := but_self
          exact LinesAt.snoc (LinesAt.mono hL fun a b y => kb2.tupL hD' (same_tup su y)) (kb2.tupL hD' (SqT.of upd_same))
    rintro H1 ⟨s1, us, hD1, hL1⟩
    rw [List.length_map, tlen, List.take_length] at hL1
    -- reverse
    refine ⟨_, rfl, .inl ⟨rfl, _, SqL.of hD1⟩, D, _, rfl, rfl, hD1, ?_⟩
    have kb : But D H1 (upd H1 D (.lst (us.map V.ref).reverse)) := but_self
    have s2 : Same H (upd H1 D (.lst (us.map V.ref).reverse)) := same_but s1 nD kb
    have hD2 : (upd H1 D (.lst (us.map V.ref).reverse)) D = some (.lst (us.reverse.map V.ref)) := by rw [upd_same, List.map_reverse]
    have hL2 : LinesAt K (upd H1 D (.lst (us.map V.ref).reverse)) us.reverse (turn N.ls) := Paired.rev (LinesAt.mono hL1 fun a b y => kb.tupL hD1 y)
    generalize (upd H1 D (.lst (us.map V.ref).reverse)) = H2 at s2 hD2 hL2 ⊢
    generalize us.reverse = vs at hD2 hL2
    have hdT := hD0.turn
    have lT := turn_len N.ls
    have lv : vs.length = (turn N.ls).length := hL2.length
    have no : ∀ (H' : Hp) {M : NetD}, sameN N M = false → ¬ (sameN N M = true) := fun H' M h z => by rw [h] at z; cases z
    -- same
    refine ⟨_, rfl, p, C, dx, _, _, rfl, s2 _ _ e1, c.cl, c.n1, g1, lk, _, rfl, .inl (SqL.of (s2 _ _ e2)), fun kn nkn => ?_⟩
    have s3 := same_new (o := .lst (N.ks.map kindV)) nkn
    refine ⟨_, rfl, _, rfl, p, C, dx, _, _, rfl, s3 _ _ (s2 _ _ e1), c.cl, c.n3, g3, _, rfl, p, C, dx, _, _, rfl, s3 _ _ (s2 _ _ e1), c.cl, c.n4, g4, rfl, rfl, fun x dy nx ndx ne => ?_⟩
    refine mk_net (N := ⟨N.ks, turn N.ls, N.pr, N.er⟩) (ts := vs) nx ndx ne (SqL.of upd_same) (SqL.of (s3 _ _ hD2)) (LinesAt.same hL2 s3) (by show (turn N.ls).length ≤ 1000; omega) fun H3 s4 hM => ⟨rfl, ?_⟩
    have S3 := (s2.trans s3).trans s4
    have z3 := s3.trans s4
    generalize hH2 : H2 = H2' at *
    have E1 := s2 _ _ e1
    have E2 := s2 _ _ e2
    have hT : ∀ H' : Hp, Same H2' H' → LinesAt K H' vs (turn N.ls) := fun H' z => LinesAt.same hL2 z
    have hNs : ∀ H' : Hp, Same H2' H' → NetAt K C H' p N := fun H' z => eN.same (s2.trans z)
    have few : (turn N.ls).length ≤ 1000 := by omega
    have hsame : sameN N ⟨N.ks, turn N.ls, N.pr, N.er⟩ = true := by
      unfold sameN
      show (decide (N.ks = N.ks) && (decide (N.pr = N.pr) && (decide (N.er = N.er) && Dq.sameD (delaysOf N.ls) (delaysOf (turn N.ls))))) = true
      rw [decide_eq_true rfl, decide_eq_true rfl, decide_eq_true rfl, same_turn hD0]
      rfl
    -- not net == same or net == net.kinds or net == 5
    dsimp only [gName, tSeq, tIfS]
    refine or_read (a := false) (b := false) (fun Q h => ?_) (fun Q h => or_read (a := false) (b := false) (fun Q h => ?_) (fun Q h => ?_) h) ?_
    · refine ⟨_, rfl, _, rfl, eq_test (hNs _ z3) hD0 hM hdT ⟨_, rfl, ?_⟩⟩
      rw [hsame]
      exact h
    · exact ⟨_, rfl, _, rfl, p, C, dx, _, _, rfl, z3 _ _ E1, c.cl, c.n1, g1, p, dx, _, rfl, z3 _ _ E1, .lst (z3 _ _ E2) i.nl, p, N, _, rfl, hNs _ z3, hD0, .inr ⟨.type "list", .base (.lst (z3 _ _ E2)), i.kl, _, rfl, h⟩⟩
    · exact ⟨_, rfl, p, dx, _, rfl, z3 _ _ E1, .int 5 i.ni, p, N, _, rfl, hNs _ z3, hD0, .inr ⟨.type "int", .base (.int 5), i.ki, _, rfl, h⟩⟩
    refine ite2 (fun e => by cases e) (fun _ => ?_)
    -- processing + 1
    refine ⟨_, rfl, _, rfl, p, C, dx, _, _, rfl, z3 _ _ E1, c.cl, c.n1, g1, _, rfl, _, rfl, p, C, dx, _, _, rfl, z3 _ _ E1, c.cl, c.n3, g3, _, _, rfl, rfl, _, rfl, p, C, dx, _, _, rfl, z3 _ _ E1, c.cl, c.n4, g4, rfl, rfl, fun x2 dy2 nx2 ndx2 ne2 => ?_⟩
    refine mk_net (N := ⟨N.ks, turn N.ls, N.pr + 1, N.er⟩) (ts := vs) nx2 ndx2 ne2 (SqL.of (z3 _ _ E2)) (SqL.of (z3 _ _ hD2)) (hT _ z3) few fun H4 s5 hM4 => ⟨rfl, ?_⟩
    have z4 := z3.trans s5
    refine eq_test (hNs _ z4) hD0 hM4 hdT ⟨_, rfl, ?_⟩
    rw [sameN_no (.inr (.inl (by show N.pr ≠ N.pr + 1; omega)))]
    refine ite2 (fun e => by cases e) (fun _ => ?_)
    -- error + 1
    refine ⟨_, rfl, _, rfl, p, C, dx, _, _, rfl, z4 _ _ E1, c.cl, c.n1, g1, _, rfl, _, rfl, p, C, dx, _, _, rfl, z4 _ _ E1, c.cl, c.n3, g3, _, rfl, p, C, dx, _, _, rfl, z4 _ _ E1, c.cl, c.n4, g4, _, _, rfl, rfl, rfl, rfl, fun x3 dy3 nx3 ndx3 ne3 => ?_⟩
    refine mk_net (N := ⟨N.ks, turn N.ls, N.pr, N.er + 1⟩) (ts := vs) nx3 ndx3 ne3 (SqL.of (z4 _ _ E2)) (SqL.of (z4 _ _ hD2)) (hT _ z4) few fun H5 s6 hM5 => ⟨rfl, ?_⟩
    have z5 := z4.trans s6
    refine eq_test (hNs _ z5) hD0 hM5 hdT ⟨_, rfl, ?_⟩
    rw [sameN_no (.inr (.inr (.inl (by show N.er ≠ N.er + 1; omega))))]
    refine ite2 (fun e => by cases e) (fun _ => ?_)
    -- if there are lines
    refine ⟨fun σ' H' => ∃ v2 v3 v4 : Option V, σ' = [some (.ref p), some (.ref l), v2, v3, v4, some (.ref D), some (.ref x), none, none] ∧ Same H2' H', ?_, ?_⟩
    · refine ⟨_, rfl, D, _, rfl, .inl (SqL.of (z5 _ _ hD2)), _, _, rfl, rfl, _, rfl, ite2 (fun e => ?_) (fun _ => ?_)⟩
      · have e : ((0 : Int) < (((vs.map V.ref).length : Nat) : Int)) := of_decide_eq_true e
        rw [List.length_map, lv] at e
        obtain ⟨y, r, ey⟩ : ∃ y r, turn N.ls = y :: r := by
          cases q : turn N.ls with
          | nil => rw [q] at e; exact absurd e (by decide)
          | cons y r => exact ⟨y, r, rfl⟩
        obtain ⟨a, b, tk⟩ := y
        have hTL : ∀ H' : Hp, Same H2' H' → ∃ (t : Addr) (vr : List Addr), vs = t :: vr ∧ SqT K H' t [.int (a : Int), .int (b : Int), .int tk] ∧ LinesAt K H' vr r := fun H' z => by
          have := hT H' z
          rw [ey] at this
          cases vs with
          | nil => cases this
          | cons t vr =>
            cases this with
            | cons h1 h2 => exact ⟨t, vr, rfl, h1, h2⟩
        have hdr : Dist ((a, b, tk) :: r) := ey ▸ hdT
        have fr : r.length + 1 ≤ 1000 := by
          have := congrArg List.length ey
          rw [List.length_cons] at this
          omega
        obtain ⟨t, vr, ev, ht5, _⟩ := hTL _ z5
        have lvr : vr.length = r.length := by
          have h1 := congrArg List.length ev
          have h2 := congrArg List.length ey
          rw [List.length_cons] at h1 h2
          omega
        have at0 : atI (vs.map V.ref) 0 = some (V.ref t) := by rw [ev]; exact (atI_nat (show ((t :: vr).map V.ref)[0]? = some (V.ref t) from rfl))
        -- a, b, ticks = turned[0]
        refine ⟨_, rfl, D, _, _, _, rfl, rfl, SqL.of (z5 _ _ hD2), at0, t, _, rfl, ht5, rfl, _, _, rfl, _, _, rfl, _, _, rfl, rfl, ?_⟩
        -- one delay more
        refine ⟨_, rfl, _, rfl, p, C, dx, _, _, rfl, z5 _ _ E1, c.cl, c.n1, g1, _, rfl, _, rfl, _, rfl, _, _, rfl, rfl, by show 3 ≤ sizeLine; decide, fun t2 nt2 => ?_⟩
        have s7 := same_new (o := .tup [V.int (a : Int), V.int (b : Int), V.int (tk + 1)]) nt2
        have ht2 : (upd H5 t2 (.tup [V.int (a : Int), V.int (b : Int), V.int (tk + 1)])) t2 = some (.tup [V.int (a : Int), V.int (b : Int), V.int (tk + 1)]) := upd_same
        have z7 := z5.trans s7
        generalize (upd H5 t2 (.tup [V.int (a : Int), V.int (b : Int), V.int (tk + 1)])) = H7 at s7 z7 ht2 ⊢
        refine ⟨by show 1 ≤ sizeLine; decide, fun u nu => ?_⟩
        have s8 := same_new (o := .lst [V.ref t2]) nu
        have hu8 : (upd H7 u (.lst [V.ref t2])) u = some (.lst [V.ref t2]) := upd_same
        have z8 := z7.trans s8
        have ht8 := s8 _ _ ht2
        generalize (upd H7 u (.lst [V.ref t2])) = H8 at s8 z8 hu8 ht8 ⊢
        refine ⟨_, rfl, _, rfl, D, _, rfl, SqL.of (z8 _ _ hD2), fun y ny => ?_⟩
        have s9 := same_new (o := .lst (cutV (vs.map V.ref) (some 1) none)) ny
        have hy9 : (upd H8 y (.lst (cutV (vs.map V.ref) (some 1) none))) y = some (.lst (vr.map V.ref)) := by rw [upd_same, cut1, ev]; rfl
        have z9 := z8.trans s9
        have ht9 := s9 _ _ ht8
        have hu9 := s9 _ _ hu8
        generalize (upd H8 y (.lst (cutV (vs.map V.ref) (some 1) none))) = H9 at s9 z9 hy9 ht9 hu9 ⊢
        refine ⟨u, y, _, _, rfl, rfl, hu9, hy9, sz (by rw [List.length_map, List.length_singleton]; omega), fun w0 nw => ?_⟩
        have s10 := same_new (o := .lst ([V.ref t2] ++ vr.map V.ref)) nw
        have hw : (upd H9 w0 (.lst ([V.ref t2] ++ vr.map V.ref))) w0 = some (.lst ((t2 :: vr).map V.ref)) := upd_same
        have z10 := z9.trans s10
        have ht10 := s10 _ _ ht9
        generalize (upd H9 w0 (.lst ([V.ref t2] ++ vr.map V.ref))) = H10 at s10 z10 hw ht10 ⊢
        obtain ⟨t', vr', ev', _, hl10⟩ := hTL _ z10
        rw [ev] at ev'
        injection ev' with ev1 ev2
        subst ev2
        have hl2 : LinesAt K H10 (t2 :: vr) ((a, b, tk + 1) :: r) := .cons (SqT.of ht10) hl10
        refine ⟨_, rfl, p, C, dx, _, _, rfl, z10 _ _ E1, c.cl, c.n3, g3, _, rfl, p, C, dx, _, _, rfl, z10 _ _ E1, c.cl, c.n4, g4, rfl, rfl, fun x4 dy4 nx4 ndx4 ne4 => ?_⟩
        refine mk_net (N := ⟨N.ks, (a, b, tk + 1) :: r, N.pr, N.er⟩) (ts := t2 :: vr) nx4 ndx4 ne4 (SqL.of (z10 _ _ E2)) (SqL.of hw) hl2 (by show ((a, b, tk + 1) :: r).length ≤ 1000; rw [List.length_cons]; exact fr) fun H11 s11 hM11 => ⟨rfl, ?_⟩
        have z11 := z10.trans s11
        refine eq_test (hNs _ z11) hD0 hM11 hdr.bump ⟨_, rfl, ?_⟩
        rw [sameN_no (.inr (.inr (.inr (same_bump hD0 ey (by omega)))))]
        refine ite2 (fun e => by cases e) (fun _ => ?_)
        -- one line less
        refine ⟨_, rfl, _, rfl, p, C, dx, _, _, rfl, z11 _ _ E1, c.cl, c.n1, g1, _, rfl, _, rfl, D, _, rfl, SqL.of (z11 _ _ hD2), fun y2 ny2 => ?_⟩
        have s12 := same_new (o := .lst (cutV (vs.map V.ref) (some 1) none)) ny2
        have hy12 : (upd H11 y2 (.lst (cutV (vs.map V.ref) (some 1) none))) y2 = some (.lst (vr.map V.ref)) := by rw [upd_same, cut1, ev]; rfl
        have z12 := z11.trans s12
        generalize (upd H11 y2 (.lst (cutV (vs.map V.ref) (some 1) none))) = H12 at s12 z12 hy12 ⊢
        obtain ⟨t', vr', ev', _, hl12⟩ := hTL _ z12
        rw [ev] at ev'
        injection ev' with ev1 ev2
        subst ev2
        refine ⟨_, rfl, p, C, dx, _, _, rfl, z12 _ _ E1, c.cl, c.n3, g3, _, rfl, p, C, dx, _, _, rfl, z12 _ _ E1, c.cl, c.n4, g4, rfl, rfl, fun x5 dy5 nx5 ndx5 ne5 => ?_⟩
        refine mk_net (N := ⟨N.ks, r, N.pr, N.er⟩) (ts := vr) nx5 ndx5 ne5 (SqL.of (z12 _ _ E2)) (SqL.of hy12) hl12 (by show r.length ≤ 1000; omega) fun H13 s13 hM13 => ⟨rfl, ?_⟩
        have z13 := z12.trans s13
        refine eq_test (hNs _ z13) hD0 hM13 hdr.tail ⟨_, rfl, ?_⟩
        rw [sameN_no (.inr (.inr (.inr (same_tail hD0 ey))))]
        refine ite2 (fun e => by cases e) (fun _ => ?_)
        exact ⟨_, _, _, rfl, z13⟩
      · exact ⟨_, _, _, rfl, z5⟩
    rintro σ H6 ⟨v2, v3, v4, rfl, z6⟩
    -- kinds
    refine ⟨_, rfl, p, C, dx, _, _, rfl, z6 _ _ E1, c.cl, c.n1, g1, lk, _, rfl, .inl (SqL.of (z6 _ _ E2)), fun k2 nk2 => ?_⟩
    have s7 := same_new (o := .lst (N.ks.map kindV)) nk2
    have z7 := z6.trans s7
    have hk2 : (upd H6 k2 (.lst (N.ks.map kindV))) k2 = some (.lst (N.ks.map kindV)) := upd_same
    generalize (upd H6 k2 (.lst (N.ks.map kindV))) = H7 at s7 z7 hk2 ⊢
    have en : (N.ks.map kindV).length = N.ks.length := List.length_map ..
    have pos : (0 : Int) < (((N.ks.map kindV).length : Nat) : Int) := by omega
    have m0 := Int.emod_nonneg (ns.getD 0 0) (by omega : (((N.ks.map kindV).length : Nat) : Int) ≠ 0)
    have m1 := Int.emod_lt_of_pos (ns.getD 0 0) pos
    obtain ⟨j, ej⟩ : ∃ j : Nat, ns.getD 0 0 % (((N.ks.map kindV).length : Nat) : Int) = (j : Int) := ⟨_, (Int.toNat_of_nonneg m0).symm⟩
    have hj : j < N.ks.length := by omega
    refine ⟨_, rfl, l, _, _, _, rfl, rfl, SqL.of (z7 _ _ (s2 _ _ hl)), atI_ints (j := 0) rfl (by omega), _, rfl, k2, _, rfl, .inl (SqL.of hk2), _, _, rfl, rfl, pos, ?_⟩
    have hix : ixN (N.ks.map kindV).length (ns.getD 0 0 % (((N.ks.map kindV).length : Nat) : Int)) = some j := by
      rw [ej]
      exact ixn (by rw [en]; exact hj)
    -- kinds[at] = ...
    refine ⟨by show 2 ≤ sizeLine; decide, fun u nu => ?_⟩
    have s8 := same_new (o := .lst [V.str "host", V.str "switch"]) nu
    have hat : atI [V.str "host", V.str "switch"] (if decide (kindV (N.ks.getD j true) = V.str "host") = true then 1 else 0) = some (kindV (!N.ks.getD j true)) := by
      cases N.ks.getD j true <;> decide +kernel
    refine ⟨_, rfl, _, rfl, k2, _, _, _, rfl, rfl, SqL.of (s8 _ _ hk2), atI_kind ej hj, rfl, .inr ⟨_, rfl, u, _, _, _, rfl, rfl, SqL.of upd_same, hat, _, rfl, _, rfl, k2, _, _, j, rfl, rfl, s8 _ _ hk2, hix, ?_⟩⟩
    have kb8 : But k2 (upd H7 u (.lst [V.str "host", V.str "switch"])) (upd (upd H7 u (.lst [V.str "host", V.str "switch"])) k2 (.lst ((N.ks.map kindV).set j (kindV (!N.ks.getD j true))))) := but_self
    have z8 : Same H2' (upd (upd H7 u (.lst [V.str "host", V.str "switch"])) k2 (.lst ((N.ks.map kindV).set j (kindV (!N.ks.getD j true))))) := same_but (z7.trans s8) (z6.free nk2) kb8
    have hk8 : (upd (upd H7 u (.lst [V.str "host", V.str "switch"])) k2 (.lst ((N.ks.map kindV).set j (kindV (!N.ks.getD j true))))) k2 = some (.lst ((N.ks.set j (!N.ks.getD j true)).map kindV)) := by rw [upd_same, List.map_set]
    generalize (upd (upd H7 u (.lst [V.str "host", V.str "switch"])) k2 (.lst ((N.ks.map kindV).set j (kindV (!N.ks.getD j true))))) = H8 at z8 hk8 ⊢
    refine ⟨_, rfl, _, rfl, _, rfl, _, rfl, p, C, dx, _, _, rfl, z8 _ _ E1, c.cl, c.n3, g3, _, rfl, p, C, dx, _, _, rfl, z8 _ _ E1, c.cl, c.n4, g4, rfl, rfl, fun x4 dy4 nx4 ndx4 ne4 => ?_⟩
    refine mk_net (N := ⟨N.ks.set j (!N.ks.getD j true), turn N.ls, N.pr, N.er⟩) (ts := vs) nx4 ndx4 ne4 (SqL.of hk8) (SqL.of (z8 _ _ hD2)) (hT _ z8) few fun H9 s9 hM9 => ⟨rfl, ?_⟩
    have z9 := z8.trans s9
    refine eq_test (hNs _ z9) hD0 hM9 hdT ⟨_, rfl, ?_⟩
    rw [sameN_no (.inl (ks_set hj))]
    exact q _ (s2.trans z9)
end
end My
namespace My
open PySem PySem.Spec PyProof.Rows L2
abbrev sLaw : Stmt := top 15
theorem net0 {K : PySem.W.Frag} {f : Addr} {fd : FuncData} (F : FunInit K f fd) : ∃ ds, Vals [V.int 0, V.int 0] ds ∧ Binds K fd ["self", "kinds", "lines", "processing", "error"] ds :=
  F.binds0 (ps := ["self", "kinds", "lines", "processing", "error"]) 3 (by simp) rfl (fun D doc pm an cdv ct us ks h1 h2 => match us, ks, h1, h2 with
    | [_, _, _], [_, _], _, _ => ⟨_, _, _, _, _, _, rfl, rfl, _, _, _, _, _, _, rfl, rfl, rfl⟩)
theorem mk_new {K : PySem.W.Frag} {C : Addr} {H : Hp} {R : VK} {x dx pk pl : Addr} {ts : List Addr} {N : NetD} {ws : List V} (nx : H x = none) (ndx : H dx = none) (ne : dx ≠ x) (hk : SqL K H pk (N.ks.map kindV)) (hl : SqL K H pl (ts.map V.ref)) (ht : LinesAt K H ts N.ls) (few : N.ls.length ≤ 1000)
    (q : ∀ H' : Hp, Same H H' → NetNew K C H H' x N → R .non H') (e : ws = [.ref x, .ref pk, .ref pl, .int N.pr, .int N.er] := by rfl) : spInit K C ws (upd (upd H dx (.own x)) x (.ins C dx [])) R E0 := by
  subst e
  have z : ∀ b o, H b = some o → b ≠ x ∧ (upd (upd H dx (.own x)) x (.ins C dx [])) b = some o := fun b o e => by
    have h1 := ne_of_none e nx
    exact ⟨h1, by rw [upd_ne h1, upd_ne (ne_of_none e ndx)]; exact e⟩
  have zs : Same H (upd (upd H dx (.own x)) x (.ins C dx [])) := fun b o e => (z b o e).2
  refine ⟨x, dx, pk, pl, ts, N, rfl, upd_same, same_lst zs hk, same_lst zs hl, LinesAt.mono ht fun a ys t => same_tup zs t, few, fun H' kb' hN => q H' (fun b o e => ?_) ?_⟩
  · obtain ⟨z1, z2⟩ := z b o e
    exact kb' b o z2 z1
  · obtain ⟨dy, lk, ll, ld, us, h1, h2, h3, h4, h5, h6, h7⟩ := hN
    exact ⟨dy, lk, ll, ld, us, h1, h2, h3, h4, h5, zs.free h6, zs.free h7⟩
theorem at_nat {r : List Nat} (j : Nat) (h : j < r.length) {z : Int} (e : z = (j : Int)) : atI (natsV r) z = some (.int ((r.getD j 0 : Nat) : Int)) := by
  rw [e]
  exact atI_nat (natsV_at (getD_at 0 h))
theorem ints_nats {ds : List Int} (h : ∀ x ∈ ds, 0 ≤ x) : ds.map V.int = natsV (ds.map Int.toNat) := by
  unfold natsV
  rw [List.map_map]
  refine List.map_congr_left fun x hx => ?_
  show V.int x = V.int ((x.toNat : Nat) : Int)
  rw [Int.toNat_of_nonneg (h x hx)]
theorem cut_map {α : Type} (f : α → V) (xs : List α) (lo hi : Option Int) : ∃ ys : List α, cutV (xs.map f) lo hi = ys.map f := by
  unfold cutV
  exact ⟨_, by rw [← List.map_drop, ← List.map_take]⟩
theorem cut_20 (xs : List V) : cutV xs none (some 20) = xs.take 20 := by
  unfold cutV
  have e : HT.sIx xs.length xs.length (some 20) = min 20 xs.length := HT.sIx_nat _ _ 20
  rw [HT.sIx_none, e, List.drop_zero, Nat.sub_zero]
  by_cases h : xs.length ≤ 20
  · rw [Nat.min_eq_right h, List.take_length, List.take_of_length_le h]
  · rw [Nat.min_eq_left (by omega)]
theorem Paired.take {α β : Type} {F : α → β → Prop} : ∀ {xs : List α} {ys : List β} (n : Nat), Paired F xs ys → Paired F (xs.take n) (ys.take n)
  | _, _, 0, _ => .nil
  | _, _, n + 1, .nil => .nil
  | _, _, n + 1, .cons h t => .cons h (Paired.take n t)
section
variable {P : Program} {w : World} {K : PySem.W.Frag} {mg : Str → Option Value} {base : Heap}
theorem scLaw : FnScope ["script", "net", "numbers", "kinds", "lines", "other", "rows", "cell", "row", "told", "second", "k"] ["script"] (defScope sLaw) := ⟨rfl, rfl, rfl, by decide +kernel, rfl, by decide +kernel, by decide +kernel⟩
def spLaw (K : PySem.W.Frag) : Sp := fun vs H Q _ => ∃ (a : Addr) (ns : List Int), vs = [.ref a] ∧ SqL K H a (ns.map V.int) ∧ ns.length ≤ 63 ∧ ∀ H', Q (.bl true) H'
theorem ok_law {f C fC fD fN fI fL fQ fP fS fLS fPo fSe fLe : Addr} {fd fdC fdD fdN fdI fdL fdQ fdP fdS fdLS fdPo fdSe fdLe : FuncData} {k : Nat} (F : Fun K "law" "law" sLaw f fd) (T : Blt mg) (T2 : Blt2 mg) (c : NetC K C)
    (GC : Callee P w K mg base 1 "_law_cell" ["script", "k"] (spCell K) fC fdC) (GD : Callee P w K mg base 1 "_law_draw" ["cell", "many", "bound"] spDraw fD fdD) (GN : Callee P w K mg base 3 "_law_net" ["cell", "more"] (spLNet K C) fN fdN) (GI : NetMk P w K mg base C fI fdI)
    (hB : ∃ ds, Vals [V.int 0, V.int 0] ds ∧ Binds K fdI ["self", "kinds", "lines", "processing", "error"] ds)
    (GL : Callee P w K mg base 2 "_law_lines_hold" ["net"] (spLi K C) fL fdL) (GQ : Callee P w K mg base 3 "_law_equal_holds" ["net", "numbers"] (spEqH K C) fQ fdQ) (GP : Callee P w K mg base 2 "_law_paths" ["net", "most"] (spPaths K C) fP fdP)
    (GS : Callee P w K mg base 2 "is_path" ["net", "nodes"] (spIs K C) fS fdS) (GLS : Callee P w K mg base 2 "_law_is_path" ["net", "row"] (spIs K C) fLS fdLS) (GPo : Callee P w K mg base 1 "ports_of" ["path"] (spPo K) fPo fdPo)
    (GSe : Callee P w K mg base 2 "are_separate" ["first", "second"] spSp fSe fdSe) (GLe : Callee P w K mg base 1 "_law_separate" ["first", "second"] spLSep fLe fdLe) : FnOk P w K mg base CX0 (k + 4) f fd ["script"] (spLaw K) := by
  refine F.ok scLaw (fun vs H Q E h => ?_) (fun cdv A outer s H vs Q E hr h => ?_)
  · obtain ⟨a, ns, rfl, _⟩ := h
    rfl
  · obtain ⟨a, ns, rfl, hS, hlen, q⟩ := h
    have nd := scLaw.nd
    have hr1 : Room 1 _ := hr.mono (by omega)
    have hr2 : Room 2 _ := hr.mono (by omega)
    have hr3 : Room 3 _ := hr.mono (by omega)
    obtain ⟨ds0, hds, hbd⟩ := hB
    refine ⟨_, pss_cons (ps_set (i := 1) nd rfl (.inl rfl) (pe_call GN.ok hr3 (by rfl) GN.mg GN.kp GN.b .nil pass0 (pa_cons (pe_call GC.ok hr1 (by rfl) GC.mg GC.kp GC.b .nil pass0 (pa_cons (pv 0) (pa_cons pe_int pa_nil))) (pa_cons (pe_call GC.ok hr1 (by rfl) GC.mg GC.kp GC.b .nil pass0 (pa_cons (pv 0) (pa_cons pe_int pa_nil))) pa_nil)))) <| pss_cons (ps_set (i := 2) nd rfl (.inl rfl) (pe_call GD.ok hr1 (by rfl) GD.mg GD.kp GD.b .nil pass0 (pa_cons (pe_call GC.ok hr1 (by rfl) GC.mg GC.kp GC.b .nil pass0 (pa_cons (pv 0) (pa_cons pe_int pa_nil))) (pa_cons pe_int (pa_cons (pe_op op_shl pe_int pe_int) pa_nil))))) <| pss_cons (ps_set (i := 3) nd rfl (.inl rfl) (pe_callTy call_list_of (by rfl) T.list (by decide +kernel) (pa_cons (pe_fld (pv 1) rfl) pa_nil))) <| pss_cons (ps_set (i := 4) nd rfl (.inl rfl) (pe_callTy call_list_of (by rfl) T.list (by decide +kernel) (pa_cons (pe_fld (pv 1) rfl) pa_nil))) <| pss_cons (ps_set (i := 5) nd rfl (.inl rfl) (pe_make GI.mkC GI.ok hr2 (by rfl) GI.mg hbd hds pass0 (pa_cons (pv 3) (pa_cons (pv 4) pa_nil)))) <| pss_cons (ps_expr (pe_bm PySem.F.plainAttrs_list PySem.F.slot_list_append PySem.F.type_list_append mt_append (pv 3) (pa_cons pe_str pa_nil))) <| pss_cons (ps_expr (pe_bm PySem.F.plainAttrs_list PySem.F.slot_list_append PySem.F.type_list_append mt_append (pv 4) (pa_cons (pe_tup (pa_cons pe_int (pa_cons pe_int (pa_cons pe_int pa_nil)))) pa_nil))) <| pss_cons (ps_if (PW.pt (pw_or (pt_cmpR (op_neD hr.units) (pe_fld (pv 5) rfl) (pe_fld (pv 1) rfl) (nomark _)) (pw_or (pt_cmpR (op_neD hr.units) (pe_fld (pv 5) rfl) (pe_fld (pv 1) rfl) (nomark _)) (pw_or (pt_cmpR op_ne (pe_fld (pv 5) rfl) pe_int (nomark _)) (pw_or1 (pt_cmpR op_ne (pe_fld (pv 5) rfl) pe_int (nomark _))))))) (pss_one (ps_ret pe_bl)) (pss_nil)) <| pss_cons (ps_if (PW.pt (pw_or (pt_not (pt_val (pe_call GL.ok hr2 (by rfl) GL.mg GL.kp GL.b .nil pass0 (pa_cons (pv 1) pa_nil)))) (pw_or1 (pt_not (pt_val (pe_call GQ.ok hr3 (by rfl) GQ.mg GQ.kp GQ.b .nil pass0 (pa_cons (pv 1) (pa_cons (pv 2) pa_nil)))))))) (pss_one (ps_ret pe_bl)) (pss_nil)) <| pss_cons (ps_set (i := 6) nd rfl (.inl rfl) (pe_slice sl_list (pe_call GP.ok hr2 (by rfl) GP.mg GP.kp GP.b .nil pass0 (pa_cons (pv 1) (pa_cons pe_int pa_nil))) po_none (po_some pe_int))) <| pss_cons (ps_for PassesOwn.never rfl (pi_list (pe_slice sl_list (pv 0) (po_some pe_int) (po_some pe_int))) (pg_name (i := 7) nd rfl (.inl rfl)) (pss_cons (ps_set (i := 8) nd rfl (.inr rfl) (pe_call GD.ok hr1 (by rfl) GD.mg GD.kp GD.b .nil pass0 (pa_cons (pv 7) (pa_cons (pe_op op_add pe_int (pe_op op_mod (pe_callTy call_int1 (by rfl) T.int (by decide +kernel) (pa_cons (pv 7) pa_nil)) pe_int)) (pa_cons (pe_callB call_len_seq (by rfl) T.len PySem.boot_len (pa_cons (pe_fld (pv 1) rfl) pa_nil)) pa_nil))))) <| pss_cons (ps_set (i := 9) nd rfl (.inl rfl) (pe_call GS.ok hr2 (by rfl) GS.mg GS.kp GS.b .nil pass0 (pa_cons (pv 1) (pa_cons (pv 8) pa_nil)))) <| pss_one (ps_if (PW.pt (pw_or (pt_not (pt_val (pe_callB call_isi (by rfl) T2.isi PyProof.Rows.boot_isinstance (pa_cons (pv 9) (pa_cons (pe_bltn (v := .ty "bool") (by rfl) T2.bool PyProof.Rows.boot_bool rfl) pa_nil))))) (pw_or1 (pt_cmpR op_ne (pv 9) (pe_call GLS.ok hr2 (by rfl) GLS.mg GLS.kp GLS.b .nil pass0 (pa_cons (pv 1) (pa_cons (pv 8) pa_nil))) (nomark _))))) (pss_one (ps_ret pe_bl)) (pss_nil)))) <| pss_cons (ps_for PassesOwn.never rfl (pi_list (pv 6)) (pg_name (i := 8) nd rfl (.inr rfl)) (pss_cons (ps_if (PW.pt (pw_or (pt_not (pt_val (pe_call GS.ok hr2 (by rfl) GS.mg GS.kp GS.b .nil pass0 (pa_cons (pv 1) (pa_cons (pv 8) pa_nil))))) (pw_or1 (pt_cmpR (op_neD hr.units) (pe_call GPo.ok hr1 (by rfl) GPo.mg GPo.kp GPo.b .nil pass0 (pa_cons (pv 8) pa_nil)) (pe_lc (own := [("k", 11)]) (g := (gName 11)) (tt := tYes) rfl nd (pi_range1 (by rfl) T.range (pa_cons (pe_op op_sub (pe_callB call_len_seq (by rfl) T.len PySem.boot_len (pa_cons (pv 8) pa_nil)) pe_int) pa_nil)) (blkOk_by (own := [("k", 11)]) (N := ["script", "net", "numbers", "kinds", "lines", "other", "rows", "cell", "row", "told", "second", "k"]) (sc := defScope sLaw) (by decide +kernel)) (fun _ _ _ _ _ => pg_name (i := 11) nd rfl (Or.inl rfl)) (fun _ _ _ _ _ => pts_nil) (fun _ _ _ _ _ => (pe_tup (pa_cons (pe_ix (ix_listK (K := K)) (pv 8) (pv 11) (fun _ _ => rfl)) (pa_cons (pe_ix (ix_listK (K := K)) (pv 8) (pe_op op_add (pv 11) pe_int) (fun _ _ => rfl)) pa_nil))))) (nomark _))))) (pss_one (ps_ret pe_bl)) (pss_nil)) <| pss_one (ps_for PassesOwn.never rfl (pi_list (pv 6)) (pg_name (i := 10) nd rfl (.inl rfl)) (pss_one (ps_if (PW.pt (pw_and (pt_cmpR op_eq (pe_ix ix_list (pv 8) pe_int (fun _ _ => rfl)) (pe_ix ix_list (pv 10) pe_int (fun _ _ => rfl)) (nomark _)) (pw_and1 (pt_cmpR op_eq (pe_ix ix_list (pv 8) (pe_op op_sub (pe_callB call_len_seq (by rfl) T.len PySem.boot_len (pa_cons (pv 8) pa_nil)) pe_int) (fun _ _ => rfl)) (pe_ix ix_list (pv 10) (pe_op op_sub (pe_callB call_len_seq (by rfl) T.len PySem.boot_len (pa_cons (pv 10) pa_nil)) pe_int) (fun _ _ => rfl)) (nomark _))))) (pss_one (ps_if (pt_cmpR op_ne (pe_call GSe.ok hr2 (by rfl) GSe.mg GSe.kp GSe.b .nil pass0 (pa_cons (pv 8) (pa_cons (pv 10) pa_nil))) (pe_call GLe.ok hr1 (by rfl) GLe.mg GLe.kp GLe.b .nil pass0 (pa_cons (pv 8) (pa_cons (pv 10) pa_nil))) (nomark _)) (pss_one (ps_ret pe_bl)) (pss_nil))) (pss_nil)))))) <| pss_one (ps_ret pe_bl), ?_⟩
    -- net
    refine ⟨_, rfl, a, ns, 0, rfl, hS, _, rfl, a, ns, 1, rfl, hS, _, _, rfl, fun H1 p N s1 np hN wf => ?_⟩
    have hD0 := wf.ls.dist
    have lk0 := len_count N.ks
    have n7 : N.ks.length ≤ 7 := by have := wf.h1; have := wf.s1; omega
    have n1 : 3 ≤ N.ks.length := by have := wf.h0; have := wf.s0; omega
    have few := wf.ls.few
    -- numbers
    refine ⟨_, rfl, a, ns, 2, rfl, same_lst s1 hS, _, _, rfl, rfl, ⟨by decide, by decide, by decide⟩, _, _, 2, rfl, by decide, by decide, by decide, fun H2 pn nums s2 npn hn ln bn => ?_⟩
    have S2 := s1.trans s2
    have eN := hN
    obtain ⟨dx, lk, ll, ld, ts, e1, e2, e3, e4, e5⟩ := hN
    have E1 := s2 _ _ e1
    have E2 := s2 _ _ e2
    have E3 := s2 _ _ e3
    have E4 := LinesAt.same e4 s2
    have hS2 := same_lst S2 hS
    have eN2 := eN.same s2
    -- kinds, lines
    refine ⟨_, rfl, p, C, dx, _, _, rfl, E1, c.cl, c.n1, g1, lk, _, rfl, .inl (SqL.of E2), fun kn nk => ?_⟩
    have s3 := same_new (o := .lst (N.ks.map kindV)) nk
    have hk3 : (upd H2 kn (.lst (N.ks.map kindV))) kn = some (.lst (N.ks.map kindV)) := upd_same
    generalize (upd H2 kn (.lst (N.ks.map kindV))) = H3 at s3 hk3 ⊢
    refine ⟨_, rfl, p, C, dx, _, _, rfl, s3 _ _ E1, c.cl, c.n2, g2, ll, _, rfl, .inl (SqL.of (s3 _ _ E3)), fun lnn nl => ?_⟩
    have s4 := same_new (o := .lst (ts.map V.ref)) nl
    have hl4 : (upd H3 lnn (.lst (ts.map V.ref))) lnn = some (.lst (ts.map V.ref)) := upd_same
    have nl2 : H2 lnn = none := s3.free nl
    have hk4 := s4 _ _ hk3
    have z4 := s3.trans s4
    generalize (upd H3 lnn (.lst (ts.map V.ref))) = H4 at s4 hl4 hk4 z4 ⊢
    -- other
    refine ⟨_, rfl, _, rfl, fun x dy nx ndx ne => ?_⟩
    refine mk_new (N := ⟨N.ks, N.ls, 0, 0⟩) (ts := ts) nx ndx ne (SqL.of hk4) (SqL.of hl4) (LinesAt.same E4 z4) (by show N.ls.length ≤ 1000; omega) fun H5 s5 hM => ⟨rfl, ?_⟩
    obtain ⟨dw, mk, ml, md, us, d1, d2, d3, d4, d5, d6, d7⟩ := hM
    have hk5 := s5 _ _ hk4
    have hl5 := s5 _ _ hl4
    have z5 := z4.trans s5
    have nkl : kn ≠ lnn := ne_of_none hk3 nl
    have mkk : mk ≠ kn := fun z => by rw [z, hk4] at d6; cases d6
    have mlk : ml ≠ kn := fun z => by rw [z, hk4] at d7; cases d7
    have mkl : mk ≠ lnn := fun z => by rw [z, hl4] at d6; cases d6
    have mll : ml ≠ lnn := fun z => by rw [z, hl4] at d7; cases d7
    -- kinds.append
    refine ⟨_, rfl, .inl ⟨rfl, _, SqL.of hk5⟩, kn, _, _, rfl, rfl, hk5, szl (by rw [List.length_map]; omega), ?_⟩
    have kb6 : But kn H5 (upd H5 kn (.lst (N.ks.map kindV ++ [V.str "host"]))) := but_self
    have z6 := same_but z5 nk kb6
    generalize (upd H5 kn (.lst (N.ks.map kindV ++ [V.str "host"]))) = H6 at kb6 z6 ⊢
    have hl6 := kb6 _ _ hl5 nkl.symm
    -- lines.append
    refine ⟨_, rfl, .inl ⟨rfl, _, SqL.of hl6⟩, by show 3 ≤ sizeLine; decide, fun t nt => ?_⟩
    have s7 := same_new (o := .tup [V.int 0, V.int 1, V.int 1]) nt
    have hl7 := s7 _ _ hl6
    have tlen : ts.length = N.ls.length := e4.length
    refine ⟨lnn, _, _, rfl, rfl, hl7, szl (by rw [List.length_map]; omega), ?_⟩
    have kb7 : But lnn H6 (upd (upd H6 t (.tup [V.int 0, V.int 1, V.int 1])) lnn (.lst (ts.map V.ref ++ [V.ref t]))) := but_app nt
    have z7 := same_but z6 nl2 kb7
    generalize (upd (upd H6 t (.tup [V.int 0, V.int 1, V.int 1])) lnn (.lst (ts.map V.ref ++ [V.ref t]))) = H7 at kb7 z7 ⊢
    have D1 := kb7 _ _ (kb6 _ _ d1 (ne_of d1 hk5 (by intro z; cases z))) (ne_of d1 hl5 (by intro z; cases z))
    have D2 := kb7 _ _ (kb6 _ _ d2 mkk) mkl
    have D3 := kb7 _ _ (kb6 _ _ d3 mlk) mll
    have D4 : LinesAt K H7 us N.ls := LinesAt.mono (LinesAt.mono d4 fun a ys y => kb6.tupL hk5 y) fun a ys y => kb7.tupL hl6 y
    -- the copies
    dsimp only [gName, tSeq, tIfS]
    refine or_read (a := false) (b := false) (fun Q h => ?_) (fun Q h => or_read (a := false) (b := false) (fun Q h => ?_) (fun Q h => or_read (a := false) (b := false) (fun Q h => ?_) (fun Q h => ?_) h) h) ?_
    · refine ⟨_, rfl, x, C, dw, _, _, rfl, D1, c.cl, c.n1, g1, _, rfl, p, C, dx, _, _, rfl, z7 _ _ E1, c.cl, c.n1, g1, dKinds N.ks, dKinds N.ks, dp_kinds (SqL.of D2), dp_kinds (SqL.of (z7 _ _ E2)), (shp_kinds _).shaped, (shp_kinds _).shaped, _, rfl, ?_⟩
      rw [eqv_kinds, decide_eq_true rfl]
      exact h
    · refine ⟨_, rfl, x, C, dw, _, _, rfl, D1, c.cl, c.n2, g2, _, rfl, p, C, dx, _, _, rfl, z7 _ _ E1, c.cl, c.n2, g2, dLines N.ls, dLines N.ls, dp_lines (SqL.of D3) D4, dp_lines (SqL.of (z7 _ _ E3)) (LinesAt.same E4 z7), (shp_lines _).shaped, (shp_lines _).shaped, _, rfl, ?_⟩
      rw [eqv_lines, decide_eq_true rfl]
      exact h
    · refine ⟨_, rfl, x, C, dw, _, _, rfl, D1, c.cl, c.n3, g3, rfl, _, rfl, ?_⟩
      rw [decide_eq_true rfl]
      exact h
    · refine ⟨_, rfl, x, C, dw, _, _, rfl, D1, c.cl, c.n4, g4, rfl, _, rfl, ?_⟩
      rw [decide_eq_true rfl]
      exact h
    refine ite2 (fun e => by cases e) (fun _ => ?_)
    -- lines hold, equal holds
    dsimp only [tNext, tSeq, tIfS]
    refine or_read2 (a := false) (b := false) (fun Q h => ?_) (fun H8 s8 Q h => ?_) (fun H8 s8 => ?_)
    · exact ⟨_, rfl, p, N, rfl, eN2.same z7, hD0, by omega, fun H8 s8 => ⟨_, rfl, h H8 s8⟩⟩
    · exact ⟨_, rfl, _, rfl, p, pn, N, nums, rfl, eN2.same (z7.trans s8), hD0, by omega, by omega, by omega, s8 _ _ (z7 _ _ hn), by omega, (bn _ (getD_mem (by omega))).1, fun H9 s9 => ⟨_, rfl, h H9 s9⟩⟩
    refine ite2 (fun e => by cases e) (fun _ => ?_)
    have z8 := z7.trans s8
    -- rows
    refine ⟨_, rfl, p, 3, N, rfl, eN2.same z8, n7, by omega, fun H9 pf fs s9 npf hf hF => ?_⟩
    refine ⟨_, rfl, pf, _, rfl, SqL.of hf, fun rn nr => ?_⟩
    rw [cut_20, ← List.map_take]
    have s10 := same_new (o := .lst ((fs.take 20).map V.ref)) nr
    have hr10 : (upd H9 rn (.lst ((fs.take 20).map V.ref))) rn = some (.lst ((fs.take 20).map V.ref)) := upd_same
    have hR10 : RowsAt (upd H9 rn (.lst ((fs.take 20).map V.ref))) (fs.take 20) ((foundOf N 3).take 20) := RowsAt.same (Paired.take 20 hF) s10
    have z10 := (z8.trans s9).trans s10
    generalize (upd H9 rn (.lst ((fs.take 20).map V.ref))) = H10 at s10 hr10 hR10 z10 ⊢
    -- the cells
    refine ⟨_, rfl, _, rfl, _, rfl, a, _, rfl, same_lst z10 hS2, fun cn ncn => ?_⟩
    obtain ⟨ms, em⟩ := cut_map V.int ns (some 3) (some 30)
    have s11 := same_new (o := .lst (cutV (ns.map V.int) (some 3) (some 30))) ncn
    have hc11 : (upd H10 cn (.lst (cutV (ns.map V.int) (some 3) (some 30)))) cn = some (.lst (ms.map V.int)) := by rw [upd_same, em]
    have z11 := z10.trans s11
    have hr11 := s11 _ _ hr10
    have hR11 := RowsAt.same hR10 s11
    generalize (upd H10 cn (.lst (cutV (ns.map V.int) (some 3) (some 30)))) = H11 at s11 hc11 z11 hr11 hR11 ⊢
    clear s3 s4 s5 s7 s8 s9 s10 s11 kb6 kb7 D4 d4
    refine ⟨cn, rfl, ⟨_, SqL.of hc11⟩, for_list (K := K) (a := cn) (xs := ms.map V.int) (fun i σ H' => ∃ v7 v8 v9 : Option V, σ = [some (.ref a), some (.ref p), some (.ref pn), some (.ref kn), some (.ref lnn), some (.ref x), some (.ref rn), v7, v8, v9, none, none] ∧ Same H11 H') ⟨none, none, none, rfl, Same.refl H11⟩ (fun i σ H' _ ⟨_, _, _, _, sm⟩ => SqL.of (sm _ _ hc11)) ?_ ?_⟩
    · rintro i v σ H12 hi ⟨v7, v8, v9, rfl, s12⟩
      obtain ⟨m, em', rfl⟩ := ints_at hi
      have z12 := z11.trans s12
      have en : (N.ks.map kindV).length = N.ks.length := List.length_map ..
      have m0 : 0 ≤ m % 5 := Int.emod_nonneg _ (by decide)
      have m1 : m % 5 < 5 := Int.emod_lt_of_pos _ (by decide)
      refine ⟨_, rfl, _, rfl, .inl ⟨_, rfl, _, _, rfl, rfl, (by show (0 : Int) < 5; decide), _, _, rfl, rfl, ?_⟩⟩
      refine ⟨_, rfl, p, C, dx, _, _, rfl, z12 _ _ E1, c.cl, c.n1, g1, lk, _, rfl, .inl (SqL.of (z12 _ _ E2)), m, (((N.ks.map kindV).length : Nat) : Int), (1 + m % 5).toNat, ?_, by omega, by omega, by omega, fun H13 pd ds s13 npd hd ld bd => ?_⟩
      · rw [Int.toNat_of_nonneg (by omega)]
        rfl
      have z13 := z12.trans s13
      have hd' : H13 pd = some (.lst (natsV (ds.map Int.toNat))) := by rw [hd, ints_nats fun y hy => (bd y hy).1]
      have hlt : ∀ y ∈ ds.map Int.toNat, y < N.ks.length := fun y hy => by
        obtain ⟨e, he, rfl⟩ := List.mem_map.mp hy
        have := bd e he
        omega
      have hlr : (ds.map Int.toNat).length ≤ 100 := by rw [List.length_map]; omega
      generalize ds.map Int.toNat = r at hd' hlt hlr
      refine ⟨_, rfl, _, rfl, p, pd, r, N, rfl, eN2.same z13, hD0, hd', hlt, hlr, fun b H14 s14 hb => ?_⟩
      have z14 := z13.trans s14
      dsimp only [gName, tIfS]
      refine or_read2 (a := false) (b := false) (fun Q h => ?_) (fun H15 s15 Q h => ?_) (fun H15 s15 => ?_)
      · exact ⟨_, rfl, _, .ty "bool", .type "bool", .type "bool", true, rfl, .ty "bool", .base (.bl b), kit_ty (by decide +kernel), _, rfl, h H14 (Same.refl H14)⟩
      · refine ⟨_, rfl, _, rfl, _, rfl, p, pd, r, N, rfl, eN2.same (z14.trans s15), hD0, s15 _ _ (s14 _ _ hd'), hlt, hlr, fun b' H16 s16 hb' => ?_⟩
        have eb : b = b' := by rw [Bool.eq_iff_iff, hb, hb']
        refine ⟨rfl, _, rfl, ?_⟩
        rw [eb, decide_eq_true rfl]
        exact h H16 s16
      · refine ite2 (fun e => by cases e) (fun _ => ?_)
        exact ⟨_, _, _, rfl, ((s12.trans s13).trans s14).trans s15⟩
    rintro σ H12 ⟨v7, v8, v9, rfl, s12⟩
    have z12 := z11.trans s12
    have hr12 := s12 _ _ hr11
    have hR12 := RowsAt.same hR11 s12
    -- the rows
    refine ⟨_, rfl, rn, rfl, ⟨_, SqL.of hr12⟩, for_list (K := K) (a := rn) (xs := (fs.take 20).map V.ref) (fun i σ H' => ∃ v8 v10 : Option V, σ = [some (.ref a), some (.ref p), some (.ref pn), some (.ref kn), some (.ref lnn), some (.ref x), some (.ref rn), v7, v8, v9, v10, none] ∧ Same H12 H') ⟨_, _, rfl, Same.refl H12⟩ (fun i σ H' _ ⟨_, _, _, sm⟩ => SqL.of (sm _ _ hr12)) ?_ ?_⟩
    · rintro i v σ H13 hi ⟨v8, v10, rfl, s13⟩
      rw [List.getElem?_map] at hi
      cases hti : (fs.take 20)[i]? with
      | none => rw [hti] at hi; cases hi
      | some ra =>
        rw [hti] at hi
        cases hi
        obtain ⟨row, erow, rne, hrow⟩ := Paired.at hR12 hti
        have hmem : row ∈ foundOf N 3 := List.mem_of_mem_take (List.mem_of_getElem? erow)
        have hP := found_is hmem
        obtain ⟨hlt, hl4'⟩ := found_lt hmem
        have z13 := z12.trans s13
        have hrow13 := s13 _ _ hrow
        have two := hP.two
        dsimp only [gName, tSeq, tIfS]
        refine or_read2 (a := false) (b := false) (fun Q h => ?_) (fun H14 s14 Q h => ?_) (fun H14 s14 => ?_)
        · refine ⟨_, rfl, _, rfl, p, ra, row, N, rfl, eN2.same z13, hD0, hrow13, hlt, by omega, fun b H14 s14 hb => ⟨_, rfl, ?_⟩⟩
          rw [hb.mpr hP]
          exact h H14 s14
        · refine ⟨_, rfl, ra, row, rfl, s14 _ _ hrow13, fun H15 pp ts' s15 npp hpp hPP => ?_⟩
          have hrow15 := s15 _ _ (s14 _ _ hrow13)
          refine ⟨_, rfl, ra, _, rfl, .inl (SqL.of hrow15), _, _, rfl, rfl, (((natsV row).length : Nat) : Int) - 1, rfl, by omega, by rw [natsV_len]; omega, fun D nD => ?_⟩
          have lpo := ports_len row
          have eln : ((((natsV row).length : Nat) : Int) - 1).toNat = (portsOf row).length := by rw [natsV_len]; omega
          refine lc_range (lo := 0) (n := ((((natsV row).length : Nat) : Int) - 1).toNat) (fun j H' => Same H15 H' ∧ ∃ us' : List Addr, H' D = some (.lst (us'.map V.ref)) ∧ PairsAt K H' us' ((portsOf row).take j)) ⟨same_new nD, [], upd_same, .nil⟩ ?_ ?_
          · rintro j H16 hj ⟨s16, us', hD16, hU⟩
            rw [eln] at hj
            rw [Int.zero_add]
            have hrow16 := s16 _ _ hrow15
            have at0 : atI (natsV row) (j : Int) = some (.int ((row.getD j 0 : Nat) : Int)) := atI_nat (natsV_at (getD_at 0 (by omega)))
            have at1 : atI (natsV row) ((j : Int) + 1) = some (.int ((row.getD (j + 1) 0 : Nat) : Int)) := at_nat (j + 1) (by omega) rfl
            have lu : us'.length = ((portsOf row).take j).length := hU.length
            rw [List.length_take] at lu
            refine ⟨rfl, ?_⟩
            refine ⟨_, rfl, _, rfl, ra, _, _, _, rfl, rfl, SqL.of hrow16, at0, _, rfl, _, rfl, _, _, rfl, rfl, ra, _, _, _, rfl, rfl, SqL.of hrow16, at1, by show 2 ≤ sizeLine; decide, fun u nu => ?_⟩
            have su := same_new (o := .tup [V.int ((row.getD j 0 : Nat) : Int), V.int ((row.getD (j + 1) 0 : Nat) : Int)]) nu
            have hD' := su _ _ hD16
            refine ⟨_, hD', szl (by rw [List.length_map]; omega), same_but (s16.trans su) nD but_self, us' ++ [u], ?_, ?_⟩
            · rw [upd_same, List.map_append]
              rfl
            · rw [take_snoc (ports_at (by omega : j + 1 < row.length))]
              have kb2 : But D (upd H16 u (.tup [V.int ((row.getD j 0 : Nat) : Int), V.int ((row.getD (j + 1) 0 : Nat) : Int)])) (upd (upd H16 u (.tup [V.int ((row.getD j 0 : Nat) : Int), V.int ((row.getD (j + 1) 0 : Nat) : Int)])) D (.lst (us'.map V.ref ++ [V.ref u]))) := but_self
              exact PairsAt.snoc (PairsAt.mono hU fun _ _ y => kb2.tupL hD' (same_tup su y)) (kb2.tupL hD' (SqT.of upd_same))
          rintro H16 ⟨s16, us', hD16, hU⟩
          rw [eln, List.take_length] at hU
          refine ⟨dPorts (portsOf row), dPorts (portsOf row), dp_ports (SqL.of (s16 _ _ hpp)) (PairsAt.mono hPP fun _ _ y => same_tup s16 y), dp_ports (SqL.of hD16) hU, (shp_ports _).shaped, (shp_ports _).shaped, _, rfl, ?_⟩
          rw [eqv_ports, decide_eq_true rfl]
          exact h H16 (s15.trans s16)
        refine ite2 (fun e => by cases e) (fun _ => ?_)
        have z14 := z13.trans s14
        have S14 := s13.trans s14
        have hr14 := S14 _ _ hr12
        -- second
        refine ⟨_, rfl, rn, rfl, ⟨_, SqL.of hr14⟩, for_list (K := K) (a := rn) (xs := (fs.take 20).map V.ref) (fun j σ H' => ∃ v10 : Option V, σ = [some (.ref a), some (.ref p), some (.ref pn), some (.ref kn), some (.ref lnn), some (.ref x), some (.ref rn), v7, some (.ref ra), v9, v10, none] ∧ Same H12 H') ⟨_, rfl, S14⟩ (fun i σ H' _ ⟨_, _, sm⟩ => SqL.of (sm _ _ hr12)) ?_ ?_⟩
        · rintro j v σ H15 hj ⟨v10, rfl, s15⟩
          rw [List.getElem?_map] at hj
          cases htj : (fs.take 20)[j]? with
          | none => rw [htj] at hj; cases hj
          | some rb =>
            rw [htj] at hj
            cases hj
            obtain ⟨sec, esec, sne, hsec⟩ := Paired.at hR12 htj
            have hmem2 : sec ∈ foundOf N 3 := List.mem_of_mem_take (List.mem_of_getElem? esec)
            have hP2 := found_is hmem2
            obtain ⟨hlt2, hl5'⟩ := found_lt hmem2
            have two2 := hP2.two
            have hrow15 := s15 _ _ hrow
            have hsec15 := s15 _ _ hsec
            have f0 : atI (natsV row) 0 = some (.int ((row.getD 0 0 : Nat) : Int)) := at_nat 0 (by omega) rfl
            have g0 : atI (natsV sec) 0 = some (.int ((sec.getD 0 0 : Nat) : Int)) := at_nat 0 (by omega) rfl
            have lasts : ∀ (r : List Nat), 2 ≤ r.length → atI (natsV r) (((natsV r).length : Int) - 1) = some (.int ((lastN r : Nat) : Int)) := fun r h2 => by
              have e : (((natsV r).length : Int) - 1) = ((r.length - 1 : Nat) : Int) := by rw [natsV_len]; omega
              rw [e]
              exact atI_nat (natsV_at (getD_at 0 (by omega)))
            dsimp only [gName, tIfS]
            refine and_read (a := decide (row.getD 0 0 = sec.getD 0 0)) (b := decide (lastN row = lastN sec)) (fun Q h => ?_) (fun _ Q h => ?_) ?_
            · refine ⟨_, rfl, ra, _, _, _, rfl, rfl, SqL.of hrow15, f0, _, rfl, rb, _, _, _, rfl, rfl, SqL.of hsec15, g0, rfl, _, rfl, ?_⟩
              rw [dec_nat]
              exact h
            · refine ⟨_, rfl, _, rfl, ra, _, rfl, .inl (SqL.of hrow15), _, _, rfl, rfl, ra, _, _, _, rfl, rfl, SqL.of hrow15, lasts row two, _, rfl, _, rfl, rb, _, rfl, .inl (SqL.of hsec15), _, _, rfl, rfl, rb, _, _, _, rfl, rfl, SqL.of hsec15, lasts sec two2, rfl, _, rfl, ?_⟩
              rw [dec_nat]
              exact h
            · refine ite2 (fun e => ?_) (fun _ => ⟨_, rfl, s15⟩)
              rw [Bool.and_eq_true, decide_eq_true_eq, decide_eq_true_eq] at e
              refine ⟨_, rfl, _, rfl, ra, rb, row, sec, rfl, hrow15, hsec15, by omega, by omega, fun H16 s16 => ?_⟩
              refine ⟨_, rfl, _, rfl, ra, rb, row, sec, rfl, s16 _ _ hrow15, s16 _ _ hsec15, by omega, by omega, by omega, by omega, fun H17 s17 => ?_⟩
              refine ⟨rfl, _, rfl, ?_⟩
              rw [sep_eq hP hP2 e.1 e.2, decide_eq_true rfl]
              refine ite2 (fun e => by cases e) (fun _ => ⟨_, rfl, (s15.trans s16).trans s17⟩)
        · rintro σ H15 ⟨v10, rfl, s15⟩
          exact ⟨_, _, rfl, s15⟩
    · rintro σ H13 ⟨v8, v10, rfl, s13⟩
      exact q H13
end
end My
namespace My
open PySem PySem.Spec PyProof.Rows L2
theorem kit_cls {K : PySem.W.Frag} {C : Addr} {t : Value} {b : Bool} (ne : (t == .ref C) = false) (ic : PySem.W.isClsIn K C = true) (ty : PySem.W.typeIn K (.ref C) = some (.type "type")) (s : PySem.W.subIn K t (.ref C) = some b) : PySem.W.kitOne K t (.ref C) = some b := by
  have ic : (PySem.W.clsIn K C).isSome = true := ic
  unfold PySem.W.kitOne
  rw [if_neg (by rw [ne]; decide)]
  show (if ((PySem.W.clsIn K C).isSome && PySem.W.typeIn K (.ref C) == some (.type "type")) = true then PySem.W.subIn K t (.ref C) else none) = some b
  rw [ic, ty, if_pos (by rw [beq_self_eq_true]; rfl), s]
/-! ### what the top has written, the head -/
theorem all_mk {l : PySem.W.OpenLaw} {w : World} {K : PySem.W.Frag} {h : Heap} {mg : Str → Option Value} {fa C fI fE fY fM fS fPo fSe fD fC' fN fJ fP fLS fLe fH fQ fL : Addr} (X : K.In h) (G : h.Ns mainGlobals mg) (hfa : mg "law" = some (.ref fa))
    {DK : Addr}
    {odI anI : Option Addr} {slI : Array (Option Value)} {ocI dcI pmI cdI ctI : Value}
    {tk0 : Tok}
    {tk1 : Tok}
    {odE anE : Option Addr} {slE : Array (Option Value)} {ocE kVE dcE pmE cdE ctE : Value}
    {odY anY : Option Addr} {slY : Array (Option Value)} {ocY kVY dcY pmY cdY ctY : Value}
    {odM anM : Option Addr} {slM : Array (Option Value)} {ocM kVM dcM pmM cdM ctM : Value}
    {odS anS : Option Addr} {slS : Array (Option Value)} {ocS kVS dcS pmS cdS ctS : Value}
    {odPo anPo : Option Addr} {slPo : Array (Option Value)} {ocPo kVPo dcPo pmPo cdPo ctPo : Value}
    {odSe anSe : Option Addr} {slSe : Array (Option Value)} {ocSe kVSe dcSe pmSe cdSe ctSe : Value}
    {odD anD : Option Addr} {slD : Array (Option Value)} {ocD kVD dcD pmD cdD ctD : Value}
    {odC' anC' : Option Addr} {slC' : Array (Option Value)} {ocC' kVC' dcC' pmC' cdC' ctC' : Value}
    {odN anN : Option Addr} {slN : Array (Option Value)} {ocN kVN dcN pmN cdN ctN : Value}
    {odJ anJ : Option Addr} {slJ : Array (Option Value)} {ocJ kVJ dcJ pmJ cdJ ctJ : Value}
    {odP anP : Option Addr} {slP : Array (Option Value)} {ocP kVP dcP pmP cdP ctP : Value}
    {odLS anLS : Option Addr} {slLS : Array (Option Value)} {ocLS kVLS dcLS pmLS cdLS ctLS : Value}
    {odLe anLe : Option Addr} {slLe : Array (Option Value)} {ocLe kVLe dcLe pmLe cdLe ctLe : Value}
    {odH anH : Option Addr} {slH : Array (Option Value)} {ocH kVH dcH pmH cdH ctH : Value}
    {odQ anQ : Option Addr} {slQ : Array (Option Value)} {ocQ kVQ dcQ pmQ cdQ ctQ : Value}
    {odL anL : Option Addr} {slL : Array (Option Value)} {ocL kVL dcL pmL cdL ctL : Value}
    (aC : PySem.W.nsIn K mainGlobals "Net" = some (some (.ref C)))
    (aI : PySem.W.findIn K (.ref C) "__init__" = some (some (.ref fI))) (iI : PySem.W.isFn K (.ref fI) = true) (lI : K.lookup fI = some ⟨ocI, odI, .func (PySem.W.fnOf "__init__" "Net.__init__" (defArgs sInit) (defBody sInit) (defScope sInit) .none (.ref DK) dcI pmI anI cdI ctI), slI⟩) (cI : PySem.W.codeIn K cdI "Net.__init__" = true) (kI : PySem.W.keepIn K (.ref fI) = true)
    (kw0 : PySem.W.nsIn K DK "processing" = some (some (.int 0 tk0)))
    (kw1 : PySem.W.nsIn K DK "error" = some (some (.int 0 tk1)))
    (aE : PySem.W.findIn K (.ref C) "__eq__" = some (some (.ref fE))) (iE : PySem.W.isFn K (.ref fE) = true) (lE : K.lookup fE = some ⟨ocE, odE, .func (PySem.W.fnOf "__eq__" "Net.__eq__" (defArgs sEq) (defBody sEq) (defScope sEq) .none kVE dcE pmE anE cdE ctE), slE⟩) (cE : PySem.W.codeIn K cdE "Net.__eq__" = true) (kE : PySem.W.keepIn K (.ref fE) = true)
    (aY : PySem.W.findIn K (.ref C) "delay" = some (some (.ref fY))) (iY : PySem.W.isFn K (.ref fY) = true) (lY : K.lookup fY = some ⟨ocY, odY, .func (PySem.W.fnOf "delay" "Net.delay" (defArgs sDelay) (defBody sDelay) (defScope sDelay) .none kVY dcY pmY anY cdY ctY), slY⟩) (cY : PySem.W.codeIn K cdY "Net.delay" = true) (kY : PySem.W.keepIn K (.ref fY) = true)
    (aM : PySem.W.findIn K (.ref C) "neighbours" = some (some (.ref fM))) (iM : PySem.W.isFn K (.ref fM) = true) (lM : K.lookup fM = some ⟨ocM, odM, .func (PySem.W.fnOf "neighbours" "Net.neighbours" (defArgs sNb) (defBody sNb) (defScope sNb) .none kVM dcM pmM anM cdM ctM), slM⟩) (cM : PySem.W.codeIn K cdM "Net.neighbours" = true) (kM : PySem.W.keepIn K (.ref fM) = true)
    (pg : PySem.W.plainGet K C Str.empty = true) (hd : PySem.W.hasDictIn K C = true) (po : PySem.W.plainOver K C = true) (sa : PySem.W.findIn K (.ref C) "__setattr__" = some (some (.builtin "object.__setattr__"))) (mk : PySem.W.makesIn K C = true) (kc : PySem.W.keepIn K (.ref C) = true)
    (n1 : PySem.W.findIn K (.ref C) "kinds" = some none)
    (n2 : PySem.W.findIn K (.ref C) "lines" = some none)
    (n3 : PySem.W.findIn K (.ref C) "processing" = some none)
    (n4 : PySem.W.findIn K (.ref C) "error" = some none)
    (n5 : PySem.W.findIn K (.ref C) "_delays" = some none)
    (aS : PySem.W.nsIn K mainGlobals "is_path" = some (some (.ref fS))) (lS : K.lookup fS = some ⟨ocS, odS, .func (PySem.W.fnOf "is_path" "is_path" (defArgs sIsP) (defBody sIsP) (defScope sIsP) .none kVS dcS pmS anS cdS ctS), slS⟩) (cS : PySem.W.codeIn K cdS "is_path" = true) (kS : PySem.W.keepIn K (.ref fS) = true)
    (aPo : PySem.W.nsIn K mainGlobals "ports_of" = some (some (.ref fPo))) (lPo : K.lookup fPo = some ⟨ocPo, odPo, .func (PySem.W.fnOf "ports_of" "ports_of" (defArgs sPorts) (defBody sPorts) (defScope sPorts) .none kVPo dcPo pmPo anPo cdPo ctPo), slPo⟩) (cPo : PySem.W.codeIn K cdPo "ports_of" = true) (kPo : PySem.W.keepIn K (.ref fPo) = true)
    (aSe : PySem.W.nsIn K mainGlobals "are_separate" = some (some (.ref fSe))) (lSe : K.lookup fSe = some ⟨ocSe, odSe, .func (PySem.W.fnOf "are_separate" "are_separate" (defArgs sSep) (defBody sSep) (defScope sSep) .none kVSe dcSe pmSe anSe cdSe ctSe), slSe⟩) (cSe : PySem.W.codeIn K cdSe "are_separate" = true) (kSe : PySem.W.keepIn K (.ref fSe) = true)
    (aD : PySem.W.nsIn K mainGlobals "_law_draw" = some (some (.ref fD))) (lD : K.lookup fD = some ⟨ocD, odD, .func (PySem.W.fnOf "_law_draw" "_law_draw" (defArgs sDraw) (defBody sDraw) (defScope sDraw) .none kVD dcD pmD anD cdD ctD), slD⟩) (cD : PySem.W.codeIn K cdD "_law_draw" = true) (kD : PySem.W.keepIn K (.ref fD) = true)
    (aC' : PySem.W.nsIn K mainGlobals "_law_cell" = some (some (.ref fC'))) (lC' : K.lookup fC' = some ⟨ocC', odC', .func (PySem.W.fnOf "_law_cell" "_law_cell" (defArgs sCell) (defBody sCell) (defScope sCell) .none kVC' dcC' pmC' anC' cdC' ctC'), slC'⟩) (cC' : PySem.W.codeIn K cdC' "_law_cell" = true) (kC' : PySem.W.keepIn K (.ref fC') = true)
    (aN : PySem.W.nsIn K mainGlobals "_law_net" = some (some (.ref fN))) (lN : K.lookup fN = some ⟨ocN, odN, .func (PySem.W.fnOf "_law_net" "_law_net" (defArgs sLNet) (defBody sLNet) (defScope sLNet) .none kVN dcN pmN anN cdN ctN), slN⟩) (cN : PySem.W.codeIn K cdN "_law_net" = true) (kN : PySem.W.keepIn K (.ref fN) = true)
    (aJ : PySem.W.nsIn K mainGlobals "_law_joined" = some (some (.ref fJ))) (lJ : K.lookup fJ = some ⟨ocJ, odJ, .func (PySem.W.fnOf "_law_joined" "_law_joined" (defArgs sJoined) (defBody sJoined) (defScope sJoined) .none kVJ dcJ pmJ anJ cdJ ctJ), slJ⟩) (cJ : PySem.W.codeIn K cdJ "_law_joined" = true) (kJ : PySem.W.keepIn K (.ref fJ) = true)
    (aP : PySem.W.nsIn K mainGlobals "_law_paths" = some (some (.ref fP))) (lP : K.lookup fP = some ⟨ocP, odP, .func (PySem.W.fnOf "_law_paths" "_law_paths" (defArgs sPaths) (defBody sPaths) (defScope sPaths) .none kVP dcP pmP anP cdP ctP), slP⟩) (cP : PySem.W.codeIn K cdP "_law_paths" = true) (kP : PySem.W.keepIn K (.ref fP) = true)
    (aLS : PySem.W.nsIn K mainGlobals "_law_is_path" = some (some (.ref fLS))) (lLS : K.lookup fLS = some ⟨ocLS, odLS, .func (PySem.W.fnOf "_law_is_path" "_law_is_path" (defArgs sLIs) (defBody sLIs) (defScope sLIs) .none kVLS dcLS pmLS anLS cdLS ctLS), slLS⟩) (cLS : PySem.W.codeIn K cdLS "_law_is_path" = true) (kLS : PySem.W.keepIn K (.ref fLS) = true)
    (aLe : PySem.W.nsIn K mainGlobals "_law_separate" = some (some (.ref fLe))) (lLe : K.lookup fLe = some ⟨ocLe, odLe, .func (PySem.W.fnOf "_law_separate" "_law_separate" (defArgs sLSep) (defBody sLSep) (defScope sLSep) .none kVLe dcLe pmLe anLe cdLe ctLe), slLe⟩) (cLe : PySem.W.codeIn K cdLe "_law_separate" = true) (kLe : PySem.W.keepIn K (.ref fLe) = true)
    (aH : PySem.W.nsIn K mainGlobals "_law_lines_hold" = some (some (.ref fH))) (lH : K.lookup fH = some ⟨ocH, odH, .func (PySem.W.fnOf "_law_lines_hold" "_law_lines_hold" (defArgs sLines) (defBody sLines) (defScope sLines) .none kVH dcH pmH anH cdH ctH), slH⟩) (cH : PySem.W.codeIn K cdH "_law_lines_hold" = true) (kH : PySem.W.keepIn K (.ref fH) = true)
    (aQ : PySem.W.nsIn K mainGlobals "_law_equal_holds" = some (some (.ref fQ))) (lQ : K.lookup fQ = some ⟨ocQ, odQ, .func (PySem.W.fnOf "_law_equal_holds" "_law_equal_holds" (defArgs sEqH) (defBody sEqH) (defScope sEqH) .none kVQ dcQ pmQ anQ cdQ ctQ), slQ⟩) (cQ : PySem.W.codeIn K cdQ "_law_equal_holds" = true) (kQ : PySem.W.keepIn K (.ref fQ) = true)
    (aL : PySem.W.nsIn K mainGlobals "law" = some (some (.ref fL))) (lL : K.lookup fL = some ⟨ocL, odL, .func (PySem.W.fnOf "law" "law" (defArgs sLaw) (defBody sLaw) (defScope sLaw) .none kVL dcL pmL anL cdL ctL), slL⟩) (cL : PySem.W.codeIn K cdL "law" = true) (kL : PySem.W.keepIn K (.ref fL) = true)
    (z_range : PySem.W.nsIn K mainGlobals "range" = some none)
    (z_len : PySem.W.nsIn K mainGlobals "len" = some none)
    (z_int : PySem.W.nsIn K mainGlobals "int" = some none)
    (z_list : PySem.W.nsIn K mainGlobals "list" = some none)
    (z_enum : PySem.W.nsIn K mainGlobals "enumerate" = some none)
    (z_isi : PySem.W.nsIn K mainGlobals "isinstance" = some none)
    (z_set : PySem.W.nsIn K mainGlobals "set" = some none)
    (z_zip : PySem.W.nsIn K mainGlobals "zip" = some none)
    (z_all : PySem.W.nsIn K mainGlobals "all" = some none)
    (z_bool : PySem.W.nsIn K mainGlobals "bool" = some none)
    (ha : PySem.W.findIn K (.ref C) "__class__" = some (some (.builtin "object.__class__")))
    (hn : PySem.W.specialIn K (.builtin "object.__class__") "__get__" = some (some (.builtin "getset_descriptor.__get__")))
    (htk : PySem.W.takesIn K (.builtin "object.__class__") = some true)
    (hm : PySem.W.mroIn K C (.type "object") = some true)
    (ic : PySem.W.isClsIn K C = true)
    (tyC : PySem.W.typeIn K (.ref C) = some (.type "type"))
    (si : PySem.W.subIn K (.type "int") (.ref C) = some false)
    (sl : PySem.W.subIn K (.type "list") (.ref C) = some false)
    (nfi : PySem.W.notFirst K C (.type "int") = true)
    (nfl : PySem.W.notFirst K C (.type "list") = true) :
    ∃ fd : FuncData, (∀ (s : Shared) (v : Value), BindsTo s fd ⟨[v], []⟩ [("script", v)]) ∧ ∀ base : Heap, K.In base → base.Ns mainGlobals mg → FnOk l.prog w K mg base CX0 4 fa fd ["script"] (spLaw K) := by
  have e := hfa.symm.trans (PySem.W.mg_of X G aL)
  cases e
  have T : Blt mg := ⟨PySem.W.mg_none_of X G z_range, PySem.W.mg_none_of X G z_len, PySem.W.mg_none_of X G z_int, PySem.W.mg_none_of X G z_list, PySem.W.mg_none_of X G z_enum⟩
  have T2 : Blt2 mg := ⟨PySem.W.mg_none_of X G z_isi, PySem.W.mg_none_of X G z_set, PySem.W.mg_none_of X G z_zip, PySem.W.mg_none_of X G z_all, PySem.W.mg_none_of X G z_bool⟩
  have c : NetC K C := ⟨⟨pg, hd, po, sa⟩, n1, n2, n3, n4, n5⟩
  have FI : FunInit K fI _ := ⟨⟨_, _, _, _, _, _, _, _, _, _, rfl, lI, cI, .inl ⟨rfl, rfl⟩, .inr ⟨DK, rfl, fun q hq => by
    rcases List.mem_cons.mp hq with rfl | hq
    · exact ⟨_, kw0, ⟨_, rfl⟩⟩
    · rw [List.mem_singleton.mp hq]
      exact ⟨_, kw1, ⟨_, rfl⟩⟩⟩⟩, kI⟩
  have MI : Mk K C fI := ⟨mk, aI, iI, kc⟩
  have gC := PySem.W.mg_of X G aC
  have FE := fun_mk (st := sEq) lE cE kE
  have mE : Meth K C "__eq__" fE := ⟨aE, iE, kE⟩
  have FY := fun_mk (st := sDelay) lY cY kY
  have mY : Meth K C "delay" fY := ⟨aY, iY, kY⟩
  have FM := fun_mk (st := sNb) lM cM kM
  have mM : Meth K C "neighbours" fM := ⟨aM, iM, kM⟩
  have FS := fun_mk (st := sIsP) lS cS kS
  have gS := PySem.W.mg_of X G aS
  have FPo := fun_mk (st := sPorts) lPo cPo kPo
  have gPo := PySem.W.mg_of X G aPo
  have FSe := fun_mk (st := sSep) lSe cSe kSe
  have gSe := PySem.W.mg_of X G aSe
  have FD := fun_mk (st := sDraw) lD cD kD
  have gD := PySem.W.mg_of X G aD
  have FC' := fun_mk (st := sCell) lC' cC' kC'
  have gC' := PySem.W.mg_of X G aC'
  have FN := fun_mk (st := sLNet) lN cN kN
  have gN := PySem.W.mg_of X G aN
  have FJ := fun_mk (st := sJoined) lJ cJ kJ
  have gJ := PySem.W.mg_of X G aJ
  have FP := fun_mk (st := sPaths) lP cP kP
  have gP := PySem.W.mg_of X G aP
  have FLS := fun_mk (st := sLIs) lLS cLS kLS
  have gLS := PySem.W.mg_of X G aLS
  have FLe := fun_mk (st := sLSep) lLe cLe kLe
  have gLe := PySem.W.mg_of X G aLe
  have FH := fun_mk (st := sLines) lH cH kH
  have gH := PySem.W.mg_of X G aH
  have FQ := fun_mk (st := sEqH) lQ cQ kQ
  have gQ := PySem.W.mg_of X G aQ
  have FL := fun_mk (st := sLaw) lL cL kL
  refine ⟨PySem.W.fnOf "law" "law" (defArgs sLaw) (defBody sLaw) (defScope sLaw) .none kVL dcL pmL anL cdL ctL, fun s v => .of_eq rfl, fun base _ _ => ?_⟩
  have BD : Binds K _ ["cell", "many", "bound"] [] := FD.binds (ps := ["cell", "many", "bound"]) fun _ _ _ _ _ _ us hl => match us, hl with | [_, _, _], _ => rfl
  have BC' : Binds K _ ["script", "k"] [] := FC'.binds (ps := ["script", "k"]) fun _ _ _ _ _ _ us hl => match us, hl with | [_, _], _ => rfl
  have BN : Binds K _ ["cell", "more"] [] := FN.binds (ps := ["cell", "more"]) fun _ _ _ _ _ _ us hl => match us, hl with | [_, _], _ => rfl
  have BJ : Binds K _ ["net", "a", "b"] [] := FJ.binds (ps := ["net", "a", "b"]) fun _ _ _ _ _ _ us hl => match us, hl with | [_, _, _], _ => rfl
  have BP : Binds K _ ["net", "most"] [] := FP.binds (ps := ["net", "most"]) fun _ _ _ _ _ _ us hl => match us, hl with | [_, _], _ => rfl
  have BM : Binds K _ ["self", "a"] [] := FM.binds (ps := ["self", "a"]) fun _ _ _ _ _ _ us hl => match us, hl with | [_, _], _ => rfl
  have BY : Binds K _ ["self", "a", "b"] [] := FY.binds (ps := ["self", "a", "b"]) fun _ _ _ _ _ _ us hl => match us, hl with | [_, _, _], _ => rfl
  have BE : Binds K _ ["self", "other"] [] := FE.binds (ps := ["self", "other"]) fun _ _ _ _ _ _ us hl => match us, hl with | [_, _], _ => rfl
  have BS : Binds K _ ["net", "nodes"] [] := FS.binds (ps := ["net", "nodes"]) fun _ _ _ _ _ _ us hl => match us, hl with | [_, _], _ => rfl
  have BPo : Binds K _ ["path"] [] := FPo.binds (ps := ["path"]) fun _ _ _ _ _ _ us hl => match us, hl with | [_], _ => rfl
  have BSe : Binds K _ ["first", "second"] [] := FSe.binds (ps := ["first", "second"]) fun _ _ _ _ _ _ us hl => match us, hl with | [_, _], _ => rfl
  have BLS : Binds K _ ["net", "row"] [] := FLS.binds (ps := ["net", "row"]) fun _ _ _ _ _ _ us hl => match us, hl with | [_, _], _ => rfl
  have BLe : Binds K _ ["first", "second"] [] := FLe.binds (ps := ["first", "second"]) fun _ _ _ _ _ _ us hl => match us, hl with | [_, _], _ => rfl
  have BH : Binds K _ ["net"] [] := FH.binds (ps := ["net"]) fun _ _ _ _ _ _ us hl => match us, hl with | [_], _ => rfl
  have BQ : Binds K _ ["net", "numbers"] [] := FQ.binds (ps := ["net", "numbers"]) fun _ _ _ _ _ _ us hl => match us, hl with | [_, _], _ => rfl
  have ni : NetI K C := ⟨ha, hn, htk, hm, if_pos (beq_self_eq_true _), kit_cls rfl ic tyC si, kit_cls rfl ic tyC sl, nfi, nfl⟩
  have GI : NetMk l.prog w K mg base C fI _ := ⟨ok_init FI T c, gC, MI, kb_net FI⟩
  have GD : Callee l.prog w K mg base 1 "_law_draw" ["cell", "many", "bound"] spDraw fD _ := ⟨ok_draw FD T, gD, FD.kp, BD⟩
  have GC' : Callee l.prog w K mg base 1 "_law_cell" ["script", "k"] (spCell K) fC' _ := ⟨ok_cell FC' T, gC', FC'.kp, BC'⟩
  have GN : Callee l.prog w K mg base 3 "_law_net" ["cell", "more"] (spLNet K C) fN _ := ⟨ok_lnet FN T GD GI, gN, FN.kp, BN⟩
  have GJ : Callee l.prog w K mg base 1 "_law_joined" ["net", "a", "b"] (spJoined K C) fJ _ := ⟨ok_joined FJ c, gJ, FJ.kp, BJ⟩
  have GP : Callee l.prog w K mg base 2 "_law_paths" ["net", "most"] (spPaths K C) fP _ := ⟨ok_paths FP T c GJ, gP, FP.kp, BP⟩
  have GM : MethOf l.prog w K mg base 1 ["self", "a"] (spNb K C) fM _ := ⟨ok_nb FM T c, BM⟩
  have GY : MethOf l.prog w K mg base 1 ["self", "a", "b"] (spDelay K C) fY _ := ⟨ok_delay FY c, BY⟩
  have GE : EqMk l.prog w K mg base C fE _ := ⟨ok_eq FE T2 c ni gC, mE.1, mE.2, BE⟩
  have GPo : Callee l.prog w K mg base 1 "ports_of" ["path"] (spPo K) fPo _ := ⟨ok_ports FPo T T2, gPo, FPo.kp, BPo⟩
  have GS : Callee l.prog w K mg base 2 "is_path" ["net", "nodes"] (spIs K C) fS _ := ⟨ok_is FS T T2 c GPo mY GY, gS, FS.kp, BS⟩
  have GSe : Callee l.prog w K mg base 2 "are_separate" ["first", "second"] spSp fSe _ := ⟨ok_sep FSe GPo, gSe, FSe.kp, BSe⟩
  have GLS : Callee l.prog w K mg base 2 "_law_is_path" ["net", "row"] (spIs K C) fLS _ := ⟨ok_lis FLS T c GJ, gLS, FLS.kp, BLS⟩
  have GLe : Callee l.prog w K mg base 1 "_law_separate" ["first", "second"] spLSep fLe _ := ⟨ok_lsep FLe T, gLe, FLe.kp, BLe⟩
  have GH : Callee l.prog w K mg base 2 "_law_lines_hold" ["net"] (spLi K C) fH _ := ⟨ok_lines FH T c GJ mM GM mY GY, gH, FH.kp, BH⟩
  have GQ : Callee l.prog w K mg base 3 "_law_equal_holds" ["net", "numbers"] (spEqH K C) fQ _ := ⟨ok_eqh FQ T c ni GI GE, gQ, FQ.kp, BQ⟩
  exact ok_law FL T T2 c GC' GD GN GI (net0 FI) GH GQ GP GS GLS GPo GSe GLe
end My
open PySem PySem.W PyProof.Rows in
set_option maxHeartbeats 0 in
theorem PySem.Challenge.cw_metronet_k01_nets_and_paths_holds : PySem.Challenge.rw_metronet_k01_nets_and_paths.Holds := by
  w_on; o_law; k_head; (case hw => w_witness2)
  k_fill
  refine L2.walk_of (l := PySem.Challenge.rw_metronet_k01_nets_and_paths) (n := 63) (k := 4) (x := "script") (CX := fun _ => L2.CX0) (sp := fun w => My.spLaw _) rfl (by decide) rfl ⟨rfl, by decide, by decide⟩ (fun w h Y => PySem.W.kIn_of Y) ?F (fun _ _ a ns hl _ hS => ⟨a, ns, rfl, hS, hl, fun _ => rfl⟩) (fun _ _ _ _ _ h => h)
  case F =>
    intro w mg fa h KX G hmg
    refine' My.all_mk KX G hmg ?aC ?aI ?iI ?lI ?cI ?kI ?kw0 ?kw1 ?aE ?iE ?lE ?cE ?kE ?aY ?iY ?lY ?cY ?kY ?aM ?iM ?lM ?cM ?kM ?pg ?hd ?po ?sa ?mk ?kc ?n1 ?n2 ?n3 ?n4 ?n5 ?aS ?lS ?cS ?kS ?aPo ?lPo ?cPo ?kPo ?aSe ?lSe ?cSe ?kSe ?aD ?lD ?cD ?kD ?aC' ?lC' ?cC' ?kC' ?aN ?lN ?cN ?kN ?aJ ?lJ ?cJ ?kJ ?aP ?lP ?cP ?kP ?aLS ?lLS ?cLS ?kLS ?aLe ?lLe ?cLe ?kLe ?aH ?lH ?cH ?kH ?aQ ?lQ ?cQ ?kQ ?aL ?lL ?cL ?kL ?z_range ?z_len ?z_int ?z_list ?z_enum ?z_isi ?z_set ?z_zip ?z_all ?z_bool ?ha ?hn ?htk ?hm ?ic ?tyC ?si ?sl ?nfi ?nfl
    (case aC => k_is)
    (case aI => k_is)
    (case iI => k_is)
    (case lI => k_is)
    (case cI => k_is)
    (case kI => k_is)
    (case kw0 => k_is)
    (case kw1 => k_is)
    (case aE => k_is)
    (case iE => k_is)
    (case lE => k_is)
    (case cE => k_is)
    (case kE => k_is)
    (case aY => k_is)
    (case iY => k_is)
    (case lY => k_is)
    (case cY => k_is)
    (case kY => k_is)
    (case aM => k_is)
    (case iM => k_is)
    (case lM => k_is)
    (case cM => k_is)
    (case kM => k_is)
    (case pg => k_is)
    (case hd => k_is)
    (case po => k_is)
    (case sa => k_is)
    (case mk => k_is)
    (case kc => k_is)
    (case n1 => k_is)
    (case n2 => k_is)
    (case n3 => k_is)
    (case n4 => k_is)
    (case n5 => k_is)
    (case aS => k_is)
    (case lS => k_is)
    (case cS => k_is)
    (case kS => k_is)
    (case aPo => k_is)
    (case lPo => k_is)
    (case cPo => k_is)
    (case kPo => k_is)
    (case aSe => k_is)
    (case lSe => k_is)
    (case cSe => k_is)
    (case kSe => k_is)
    (case aD => k_is)
    (case lD => k_is)
    (case cD => k_is)
    (case kD => k_is)
    (case aC' => k_is)
    (case lC' => k_is)
    (case cC' => k_is)
    (case kC' => k_is)
    (case aN => k_is)
    (case lN => k_is)
    (case cN => k_is)
    (case kN => k_is)
    (case aJ => k_is)
    (case lJ => k_is)
    (case cJ => k_is)
    (case kJ => k_is)
    (case aP => k_is)
    (case lP => k_is)
    (case cP => k_is)
    (case kP => k_is)
    (case aLS => k_is)
    (case lLS => k_is)
    (case cLS => k_is)
    (case kLS => k_is)
    (case aLe => k_is)
    (case lLe => k_is)
    (case cLe => k_is)
    (case kLe => k_is)
    (case aH => k_is)
    (case lH => k_is)
    (case cH => k_is)
    (case kH => k_is)
    (case aQ => k_is)
    (case lQ => k_is)
    (case cQ => k_is)
    (case kQ => k_is)
    (case aL => k_is)
    (case lL => k_is)
    (case cL => k_is)
    (case kL => k_is)
    (case z_range => k_is)
    (case z_len => k_is)
    (case z_int => k_is)
    (case z_list => k_is)
    (case z_enum => k_is)
    (case z_isi => k_is)
    (case z_set => k_is)
    (case z_zip => k_is)
    (case z_all => k_is)
    (case z_bool => k_is)
    (case ha => k_is)
    (case hn => k_is)
    (case htk => k_is)
    (case hm => k_is)
    (case ic => k_is)
    (case tyC => k_is)
    (case si => k_is)
    (case sl => k_is)
    (case nfi => k_is)
    (case nfl => k_is)
