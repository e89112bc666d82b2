import PyProof.Rows.All
import Wide.All
import OpenK.AllK
import Wide.FinOn
import HandS.ForMost
import HandS.Exc
import HandS.TryOnly
import HandS.ExcOwn
import HandS.WordsExc
import HandS.Defaults
import HandS.Style
import HandS.Strs
import HandS.SetFor
import HandS.SortInts
import HandS.IsInst
import HandS.CallLocal
import HandS.FStr
import HandS.Rev
import HandS.TupAny
import HandS.Walk
import HandS.HeadEnd
import HandS.HeadHook3
import PySem.Challenge.RW_codecolumns_k01_packed_numbers
import KE.KEqSeq
import HandS.Wide
import HandS.HotCalls
import HandS.Lambda
import HandS.EndTab
import HandS.HeadHook4
import HandS.RaiseMore
import KE.KExcIs
import HandS.ExcIs
import HandS.ExcField
import KE.KDflt
import HandS.ExcInit
import HandS.ClsMeth
import KE.GoesEnum
import HandS.Iter
import HandS.Head0
import HandS.Head1
import HandS.Head2
import HandS.HeadHook1
import HandS.HeadHook2
import HandS.More
set_option Elab.async false
set_option linter.all false
set_option maxRecDepth 100000
namespace K3
open PySem PySem.Spec PyProof.Rows L2
def top (i : Nat) : Stmt := PySem.Challenge.pw_codecolumns_k01_packed_numbers.main.body.getD i (.Pass ⟨0, 0, 0, 0⟩)

/-- a def that keeps its promise, by its name -/
structure Fn (P : Program) (w : World) (K : PySem.W.Frag) (mg : Str → Option Value) (base : Heap) (CX : CXT) (k : Nat) (x : Str) (ps : List Str) (sp : Sp) : Prop where
  ex : ∃ (f : Addr) (fd : FuncData), FnOk P w K mg base CX k f fd ps sp ∧ mg x = some (.ref f) ∧ PySem.W.keepIn K (.ref f) = true ∧ Binds K fd ps []
/-- a def as it stands behind the top, by its name -/
structure Df (K : PySem.W.Frag) (mg : Str → Option Value) (x : Str) (st : Stmt) (ps : List Str) : Prop where
  ex : ∃ (f : Addr) (fd : FuncData), FunD K x x (defArgs st) (defBody st) (defScope st) [] [] f fd ∧ mg x = some (.ref f) ∧ Binds K fd ps []
section
variable {X : Cx} {CX : CXT} {k : Nat} {ps : List Str} {sp : Sp} {E : XK} {x : Str} {p pos : Pos} {e : Expr} {es : List Expr} {t : TA}
theorem pe_c (F : Fn X.prog X.w X.K X.mg X.base CX k x ps sp) (hr : Room k X.A) (hx : Passes CX X E) (ha : PA X (e :: es) t) (hg : Gl X x := by rfl) (hdb : (x == ("__debug__" : Str)) = false := by decide)
    (he : starEach (e :: es) X.env = (false, eval e X.env) :: starEach es X.env := by rfl) (hpl : (backTo pos (starEach es X.env)).any (·.1) = false := by rfl) : PE X (.Call (.Name x p) (e :: es) [] pos) (tCall sp [] E t) := by
  obtain ⟨f, fd, G, hm, hk, hb⟩ := F.ex
  exact pe_call G hr hg hm hk hb .nil hx ha hdb he hpl
theorem pe_gint {i : Int} (h : ∃ t, X.mg x = some (.int i t)) (hg : Gl X x := by rfl) (hd : (x == ("__debug__" : Str)) = false := by decide) : PE X (.Name x pos) (tC (.int i)) := by
  obtain ⟨t, h⟩ := h
  exact pe_glob hg h ⟨t, rfl⟩ hd
end
section
variable {P : Program} {w : World} {K : PySem.W.Frag} {mg : Str → Option Value} {base : Heap}
/-- THE RULE for a def that raises nothing -/
theorem Df.ok {x : Str} {st : Stmt} {N ps : List Str} {k : Nat} {sp : Sp} (D : Df K mg x st ps) (S : FnScope N ps (defScope st)) (len : ∀ vs H Q E, sp vs H Q E → vs.length = ps.length)
    (hbody : ∀ (f : Addr) (cdv : Value) (A : Around) (outer : List Env) (s : Shared) (H : Hp) (vs : List V) (Q : VK) (E : XK), Room k (A.deeper (envOfC x (defScope st) s.heap.objs.size f cdv)) → sp vs H Q E →
      ∃ t, PSs (cxOf CX0 P w K mg base N x (defScope st) f cdv A outer s H E).nox (defBody st) t ∧ t { nx := fun _ H' => Q .non H', rt := Q } (start N vs) H) : Fn P w K mg base CX0 (k + 1) x ps sp := by
  obtain ⟨f, fd, F, hm, hb⟩ := D.ex
  refine ⟨f, fd, F.ok S len fun cdv A outer s H vs Q E hr hsp => ?_, hm, F.kp, hb⟩
  obtain ⟨t, h, q⟩ := hbody f cdv A outer s H vs Q E hr hsp
  exact ⟨t, h.nox, q⟩
/-- .. for one that may raise -/
theorem Df.okX {x : Str} {st : Stmt} {N ps : List Str} {k : Nat} {sp : Sp} (D : Df K mg x st ps) (S : FnScope N ps (defScope st)) (len : ∀ vs H Q E, sp vs H Q E → vs.length = ps.length)
    (hbody : ∀ (f : Addr) (cdv : Value) (A : Around) (outer : List Env) (s : Shared) (H : Hp) (vs : List V) (Q : VK) (E : XK), Room k (A.deeper (envOfC x (defScope st) s.heap.objs.size f cdv)) → sp vs H Q E →
      ∃ t, PSs (cxOf (L2.CX P w) P w K mg base N x (defScope st) f cdv A outer s H E) (defBody st) t ∧ t { nx := fun _ H' => Q .non H', rt := Q } (start N vs) H) : Fn P w K mg base (L2.CX P w) (k + 1) x ps sp := by
  obtain ⟨f, fd, F, hm, hb⟩ := D.ex
  exact ⟨f, fd, F.ok S len fun cdv A outer s H vs Q E hr hsp => hbody f cdv A outer s H vs Q E hr hsp, hm, F.kp, hb⟩
end
/-- what the top has written besides its defs -/
structure Txt (mg : Str → Option Value) : Prop where
  c_LEAST_BASE : ∃ t, mg "LEAST_BASE" = some (.int 2 t)
  c_CELL_SIZE : ∃ t, mg "CELL_SIZE" = some (.int 10000 t)
  b_len : mg "len" = none
  b_tuple : mg "tuple" = none
  b_list : mg "list" = none
  b_int : mg "int" = none
  b_range : mg "range" = none
  b_enumerate : mg "enumerate" = none
  b_reversed : mg "reversed" = none
  b_min : mg "min" = none
  b_max : mg "max" = none
  b_set : mg "set" = none
  b_sorted : mg "sorted" = none
  b_isinstance : mg "isinstance" = none
/-! ### heaps -/
theorem _root_.L2.Same.upd {H : Hp} {p : Addr} {o : HO} (h : H p = none) : Same H (upd H p o) := fun b u e => by rw [upd_ne (ne_of_none e h)]; exact e
theorem _root_.L2.Same.upd' {H H1 : Hp} {p : Addr} {o : HO} (s : Same H H1) (h : H1 p = none) : Same H (L2.upd H1 p o) := s.trans (Same.upd h)
theorem _root_.L2.Same.seqT {K : PySem.W.Frag} {H H' : Hp} {a : Addr} {xs : List V} (e : Same H H') (h : SqT K H a xs) : SqT K H' a xs := by
  rcases h with (h | ⟨o, h⟩) | h
  · exact .inl (.inl (e _ _ h))
  · exact .inl (.inr ⟨o, e _ _ h⟩)
  · exact .inr h
end K3

set_option linter.all false
/-! K3M: numbers packed in cells, in plain Lean -/
namespace K3
/-- how many numbers below b a cell holds: f turns left, r the reach -/
def perGo (b : Int) : Nat → Int → Nat
  | 0, _ => 0
  | f + 1, r => if r ≤ 10000 then 1 + perGo b f (r * b) else 0
def perC (b : Int) : Nat := perGo b 14 b
theorem perC_pos {b : Int} (h : b ≤ 10000) : 1 ≤ perC b := by
  show 1 ≤ (if b ≤ 10000 then 1 + perGo b 13 (b * b) else 0)
  rw [if_pos h]; omega
theorem perGo_le (b : Int) : ∀ (f : Nat) (r : Int), perGo b f r ≤ f
  | 0, _ => Nat.le_refl 0
  | f + 1, r => by
    have ih := perGo_le b f (r * b)
    show (if r ≤ 10000 then 1 + perGo b f (r * b) else 0) ≤ f + 1
    split <;> omega
theorem perC_le (b : Int) : perC b ≤ 14 := perGo_le b 14 b
/-- what the while keeps: m counted, r reached, f turns left -/
structure PerAt (b : Int) (m : Nat) (r : Int) (f : Nat) : Prop where
  sum : perC b = m + perGo b f r
  big : (2 : Int) ^ (15 - f) ≤ r
  few : f ≤ 14
theorem PerAt.start {b : Int} (h : 2 ≤ b) : PerAt b 0 b 14 := ⟨by rw [Nat.zero_add]; rfl, by simpa using h, Nat.le_refl _⟩
theorem PerAt.pos {b : Int} {m : Nat} {r : Int} {f : Nat} (h : PerAt b m r f) : 0 < r := Int.lt_of_lt_of_le (Int.pow_pos (by decide)) h.big
theorem PerAt.turn {b : Int} {m : Nat} {r : Int} {f : Nat} (h : PerAt b m r f) (hb : 2 ≤ b) (hr : r ≤ 10000) : ∃ f', PerAt b (m + 1) (r * b) f' := by
  cases f with
  | zero =>
    have h1 := h.big
    have h2 : (2 : Int) ^ (15 - 0) = 32768 := by decide
    omega
  | succ f =>
    refine ⟨f, ?_, ?_, by have := h.few; omega⟩
    · have h1 := h.sum
      have h2 : perGo b (f + 1) r = 1 + perGo b f (r * b) := if_pos hr
      rw [h1, h2]; omega
    · have h1 := h.big
      have h3 := h.few
      have e : 15 - f = (15 - (f + 1)) + 1 := by omega
      rw [e, Int.pow_succ]
      have h0 : (0 : Int) ≤ 2 ^ (15 - (f + 1)) := Int.le_of_lt (Int.pow_pos (by decide))
      exact Int.mul_le_mul h1 hb (by decide) (Int.le_trans h0 h1)
theorem PerAt.done {b : Int} {m : Nat} {r : Int} {f : Nat} (h : PerAt b m r f) (hr : ¬ r ≤ 10000) : perC b = m := by
  rw [h.sum]
  cases f with
  | zero => rfl
  | succ f =>
    show m + (if r ≤ 10000 then 1 + perGo b f (r * b) else 0) = m
    rw [if_neg hr]; rfl
/-- a cell of numbers, the first counts as it is -/
def val (b : Int) : List Int → Int
  | [] => 0
  | n :: r => val b r * b + n
def digits (b : Int) : Nat → Int → List Int
  | 0, _ => []
  | k + 1, c => (c % b) :: digits b k (c / b)
def restOf (b : Int) : Nat → Int → Int
  | 0, c => c
  | k + 1, c => restOf b k (c / b)
theorem restOf_succ (b : Int) : ∀ (k : Nat) (c : Int), restOf b (k + 1) c = restOf b k c / b
  | 0, _ => rfl
  | k + 1, c => restOf_succ b k (c / b)
theorem digits_succ (b : Int) : ∀ (k : Nat) (c : Int), digits b (k + 1) c = digits b k c ++ [restOf b k c % b]
  | 0, _ => rfl
  | k + 1, c => by
    show (c % b) :: digits b (k + 1) (c / b) = (c % b) :: (digits b k (c / b) ++ [restOf b k (c / b) % b])
    rw [digits_succ b k (c / b)]
theorem digits_length (b : Int) : ∀ (k : Nat) (c : Int), (digits b k c).length = k
  | 0, _ => rfl
  | k + 1, c => by
    show (digits b k (c / b)).length + 1 = k + 1
    rw [digits_length b k]
theorem val_digit {b n v : Int} (hn : 0 ≤ n) (hb : n < b) : (v * b + n) % b = n ∧ (v * b + n) / b = v := by
  have h0 : b ≠ 0 := by omega
  constructor
  · rw [Int.add_comm, Int.add_mul_emod_self_right]
    exact Int.emod_eq_of_lt hn hb
  · rw [Int.add_comm, Int.add_mul_ediv_right _ _ h0, Int.ediv_eq_zero_of_lt hn hb, Int.zero_add]
theorem digits_zero (b : Int) : ∀ k, digits b k 0 = List.replicate k 0
  | 0 => rfl
  | k + 1 => by
    show (0 % b) :: digits b k (0 / b) = List.replicate (k + 1) 0
    rw [Int.zero_emod, Int.zero_ediv, digits_zero b k]; rfl
theorem digits_val {b : Int} : ∀ (ns : List Int) (k : Nat), (∀ n ∈ ns, 0 ≤ n ∧ n < b) → ns.length ≤ k → digits b k (val b ns) = ns ++ List.replicate (k - ns.length) 0
  | [], k, _, _ => by rw [List.nil_append, List.length_nil, Nat.sub_zero]; exact digits_zero b k
  | n :: r, 0, _, h => absurd h (by simp)
  | n :: r, k + 1, hb, hl => by
    obtain ⟨h1, h2⟩ := val_digit (v := val b r) (hb n (List.mem_cons_self ..)).1 (hb n (List.mem_cons_self ..)).2
    show ((val b r * b + n) % b) :: digits b k ((val b r * b + n) / b) = _
    rw [h1, h2, digits_val r k (fun m hm => hb m (List.mem_cons_of_mem _ hm)) (by simpa using hl)]
    simp
/-- the cells, k numbers each -/
def pack (b : Int) (k : Nat) : Nat → List Int → List Int
  | 0, _ => []
  | _ + 1, [] => []
  | f + 1, n :: r => val b ((n :: r).take k) :: pack b k f ((n :: r).drop k)
def packed (b : Int) (ns : List Int) : List Int := pack b (perC b) ns.length ns
theorem pack_nil (b : Int) (k : Nat) : ∀ f, pack b k f [] = []
  | 0 => rfl
  | _ + 1 => rfl
/-- the i-th cell -/
theorem pack_get (b : Int) {k : Nat} (hk : 1 ≤ k) : ∀ (f : Nat) (ns : List Int) (i : Nat), ns.length ≤ f → (pack b k f ns)[i]? = if i * k < ns.length then some (val b ((ns.drop (i * k)).take k)) else none
  | 0, ns, i, h => by
    have e : ns = [] := List.length_eq_zero_iff.mp (by omega)
    subst e
    simp [pack]
  | f + 1, [], i, h => by simp [pack]
  | f + 1, n :: r, 0, h => by simp [pack]
  | f + 1, n :: r, i + 1, h => by
    show (pack b k f ((n :: r).drop k))[i]? = _
    have hl : ((n :: r).drop k).length ≤ f := by rw [List.length_drop]; simp at h ⊢; omega
    rw [pack_get b hk f _ i hl, List.length_drop, List.drop_drop]
    have e : k + i * k = (i + 1) * k := by rw [Nat.add_mul, Nat.one_mul, Nat.add_comm]
    rw [e]
    by_cases c : (i + 1) * k < (n :: r).length
    · rw [if_pos c, if_pos (by omega)]
    · rw [if_neg c, if_neg (by omega)]
theorem pack_length (b c : Int) (k : Nat) : ∀ (f : Nat) (ns ms : List Int), ns.length = ms.length → (pack b k f ns).length = (pack c k f ms).length
  | 0, _, _, _ => rfl
  | _ + 1, [], [], _ => rfl
  | _ + 1, [], _ :: _, h => by simp at h
  | _ + 1, _ :: _, [], h => by simp at h
  | f + 1, n :: r, m :: q, h => by
    show (pack b k f ((n :: r).drop k)).length + 1 = (pack c k f ((m :: q).drop k)).length + 1
    rw [pack_length b c k f ((n :: r).drop k) ((m :: q).drop k) (by rw [List.length_drop, List.length_drop, h])]
theorem pack_le (b : Int) {k : Nat} (hk : 1 ≤ k) : ∀ (f : Nat) (ns : List Int), (pack b k f ns).length ≤ ns.length
  | 0, _ => Nat.zero_le _
  | _ + 1, [] => Nat.le_refl _
  | f + 1, n :: r => by
    have ih := pack_le b hk f ((n :: r).drop k)
    rw [List.length_drop] at ih
    show (pack b k f ((n :: r).drop k)).length + 1 ≤ (n :: r).length
    simp at ih ⊢; omega
/-- read again -/
theorem unpack {b : Int} {k : Nat} (hk : 1 ≤ k) : ∀ (f : Nat) (ns : List Int), ns.length ≤ f → (∀ n ∈ ns, 0 ≤ n ∧ n < b) → ∃ z, (pack b k f ns).flatMap (digits b k) = ns ++ List.replicate z 0
  | 0, ns, h, _ => by
    have e : ns = [] := List.length_eq_zero_iff.mp (by omega)
    subst e
    exact ⟨0, rfl⟩
  | f + 1, [], _, _ => ⟨0, rfl⟩
  | f + 1, n :: r, h, hb => by
    have hl : ((n :: r).drop k).length ≤ f := by rw [List.length_drop]; simp at h ⊢; omega
    obtain ⟨z, e⟩ := unpack hk f ((n :: r).drop k) hl fun m hm => hb m (List.mem_of_mem_drop hm)
    show ∃ z, (val b ((n :: r).take k) :: pack b k f ((n :: r).drop k)).flatMap (digits b k) = _
    rw [List.flatMap_cons, e, digits_val _ k (fun m hm => hb m (List.mem_of_mem_take hm)) (by rw [List.length_take]; omega)]
    by_cases c : k ≤ (n :: r).length
    · refine ⟨z, ?_⟩
      rw [List.length_take, Nat.min_eq_left c, Nat.sub_self, List.replicate_zero, List.append_nil, ← List.append_assoc, List.take_append_drop]
    · have c' : (n :: r).length ≤ k := by omega
      rw [List.take_of_length_le c', List.drop_of_length_le c', List.nil_append, List.append_assoc, List.replicate_append_replicate]
      exact ⟨_, rfl⟩
theorem unpacked_packed {b : Int} (hb : b ≤ 10000) (ns : List Int) (h : ∀ n ∈ ns, 0 ≤ n ∧ n < b) : ((packed b ns).flatMap (digits b (perC b))).take ns.length = ns := by
  obtain ⟨z, e⟩ := unpack (perC_pos hb) ns.length ns (Nat.le_refl _) h
  show ((pack b (perC b) ns.length ns).flatMap (digits b (perC b))).take ns.length = ns
  rw [e, List.take_left']
  rfl
end K3
namespace K3
theorem val_step (b : Int) {ns : List Int} {i : Nat} {x : Int} (hi : i < ns.length) (h : ns[ns.length - 1 - i]? = some x) : val b (ns.drop (ns.length - (i + 1))) = val b (ns.drop (ns.length - i)) * b + x := by
  have e : ns.length - 1 - i = ns.length - (i + 1) := by omega
  rw [e] at h
  obtain ⟨hl, hx⟩ := List.getElem?_eq_some_iff.mp h
  rw [List.drop_eq_getElem_cons hl, hx]
  have e2 : ns.length - (i + 1) + 1 = ns.length - i := by omega
  rw [e2]
  rfl
/-- how many cells -/
def cells (k n : Nat) : Nat := (n + k - 1) / k
theorem cells_lt {k n i : Nat} (hk : 1 ≤ k) : i < cells k n ↔ i * k < n := by
  unfold cells
  constructor
  · intro h
    have h1 : (i + 1) * k ≤ n + k - 1 := Nat.le_trans (Nat.mul_le_mul_right k h) (Nat.div_mul_le_self _ _)
    rw [Nat.add_mul, Nat.one_mul] at h1
    omega
  · intro h
    refine (Nat.le_div_iff_mul_le (by omega)).mpr ?_
    rw [Nat.succ_mul]
    omega
theorem packed_eq {b : Int} (hb : b ≤ 10000) (ns : List Int) : (List.range (cells (perC b) ns.length)).map (fun i => val b ((ns.drop (i * perC b)).take (perC b))) = packed b ns := by
  have hk := perC_pos hb
  apply List.ext_getElem?
  intro i
  unfold packed
  rw [pack_get b hk _ _ _ (Nat.le_refl _), List.getElem?_map]
  by_cases c : i < cells (perC b) ns.length
  · rw [if_pos ((cells_lt hk).mp c), List.getElem?_range c]
    rfl
  · rw [if_neg (fun z => c ((cells_lt hk).mpr z)), List.getElem?_eq_none (by rw [List.length_range]; omega)]
    rfl
theorem cells_le {k n : Nat} (hk : 1 ≤ k) : cells k n ≤ n := by
  rcases Nat.lt_or_ge n (cells k n) with h | h
  · have := (cells_lt hk).mp h
    have h2 : n * 1 ≤ n * k := Nat.mul_le_mul_left n hk
    omega
  · exact h
end K3
namespace K3
theorem flat_length (b : Int) (k : Nat) : ∀ cs : List Int, (cs.flatMap (digits b k)).length = cs.length * k
  | [] => by simp
  | c :: r => by
    rw [List.flatMap_cons, List.length_append, digits_length, flat_length b k r, List.length_cons, Nat.succ_mul, Nat.add_comm]
end K3

set_option Elab.async false
set_option linter.all false
set_option maxRecDepth 100000
set_option maxHeartbeats 4000000
namespace K3
open PySem PySem.Spec PyProof.Rows L2
theorem map_at {α : Type} {f : α → V} {l : List α} {i : Nat} {y : V} (h : (l.map f)[i]? = some y) : ∃ z, l[i]? = some z ∧ y = f z := by
  rw [List.getElem?_map] at h
  cases e : l[i]? with
  | none =>
    rw [e] at h
    cases h
  | some z =>
    rw [e] at h
    exact ⟨z, rfl, (Option.some.inj h).symm⟩
theorem take_more {α : Type} : ∀ {l : List α} {i : Nat} {x : α}, l[i]? = some x → l.take (i + 1) = l.take i ++ [x]
  | [], i, x, h => by simp at h
  | a :: l, 0, x, h => by
    obtain rfl : a = x := Option.some.inj h
    rfl
  | a :: l, i + 1, x, h => by
    rw [List.take_succ_cons, take_more (l := l) (i := i) (x := x) h, List.take_succ_cons]
    rfl
theorem _root_.L2.Same.put {H H1 : Hp} {p : Addr} {o : HO} (s : Same H H1) (n : H p = none) : Same H (L2.upd H1 p o) := fun b u e => by
  rw [upd_ne (ne_of_none e n)]
  exact s b u e
theorem cutV_take (xs : List V) (m : Nat) : cutV xs none (some (m : Int)) = xs.take m := by
  unfold cutV
  rw [HT.sIx_none, HT.sIx_nat, Nat.sub_zero, List.drop_zero]
  by_cases c : m ≤ xs.length
  · rw [Nat.min_eq_left c]
  · rw [Nat.min_eq_right (by omega), List.take_length, List.take_of_length_le (by omega)]
theorem cutV_part (xs : List V) (i k : Nat) : cutV xs (some (i : Int)) (some ((i : Int) + (k : Int))) = (xs.drop i).take k := by
  have e : (i : Int) + (k : Int) = ((i + k : Nat) : Int) := by omega
  unfold cutV
  rw [e, HT.sIx_nat, HT.sIx_nat]
  by_cases c : i ≤ xs.length
  · rw [Nat.min_eq_left c]
    by_cases d : i + k ≤ xs.length
    · rw [Nat.min_eq_left d, Nat.add_sub_cancel_left]
    · rw [Nat.min_eq_right (by omega), List.take_of_length_le (by rw [List.length_drop]; omega), List.take_of_length_le (by rw [List.length_drop]; omega)]
  · rw [Nat.min_eq_right (by omega), Nat.min_eq_right (by omega), Nat.sub_self, List.take_zero, List.drop_of_length_le (by omega), List.take_nil]
theorem rgC_up {n k : Nat} (hk : 1 ≤ k) (hk2 : k < 1000000) (hn : n < 1000000) : RgC 0 (n : Int) (k : Int) (cells k n) := by
  have e : Builtin.Range.rangeSize 0 (n : Int) (k : Int) = ((cells k n : Nat) : Int) := by
    rw [rangeSize_pos (by omega) (by omega)]
    unfold cells
    rw [Int.natCast_ediv]
    congr 1
    omega
  have hc := cells_le (n := n) hk
  refine ⟨by omega, by omega, ?_, e⟩
  unfold Builtin.Range.small
  rw [e]
  simp only [Builtin.Range.rangeFitsLong, Bool.and_eq_true, Bool.or_eq_true, decide_eq_true_eq, beq_iff_eq, show ((k : Int) > 0) by omega, if_true]
  omega
/-- a comprehension of one name without an if, over any walk -/
theorem lc_all {J : It} {n : Nat} {G : Hp → Prop} {Y : Nat → Hp → V → Hp → Prop} (w : Walk J n G Y) {j : Nat} {te : TE} {σ : L2.St} {H1 : Hp} {D : Addr} {Qd : Hp → Prop} (Pv : Nat → Hp → Prop) (h0 : Pv 0 (L2.upd H1 D (.lst []))) (hG : ∀ i H, i ≤ n → Pv i H → G H)
    (hs : ∀ i x H H', i < n → Pv i H → Y i H x H' → te (σ.set j (some x)) H' fun y H4 => ∃ acc, H4 D = some (.lst acc) ∧ acc.length < sizeLine ∧ Pv (i + 1) (L2.upd H4 D (.lst (acc ++ [y])))) (hd : ∀ H, Pv n H → Qd H) :
    ∃ W : Nat → Nat → Hp → Prop, (∃ m, W 0 m (L2.upd H1 D (.lst []))) ∧ ∀ i m H, W i m H →
      (J.stop i H ∧ Qd H) ∨ (J.go i H ∧ ∃ Nx : Hp → Prop, (∀ H', Nx H' → ∃ m', m' < m ∧ W (i + 1) m' H') ∧ ∀ x H', J.yld i H x H' → gName j x (wipe σ [j]) H' fun σ2 H2 => wipe σ2 [j] = wipe σ [j] ∧ tYes σ2 H2 fun b H3 =>
        if b = true then te σ2 H3 fun y H4 => ∃ acc, H4 D = some (.lst acc) ∧ acc.length < sizeLine ∧ Nx (L2.upd H4 D (.lst (acc ++ [y]))) else Nx H3) := by
  refine lc_it w Pv h0 hG (fun i x H H' hi p y => ?_) hd
  have q := hs i x H H' hi p y
  have e : (wipe σ [j]).set j (some x) = σ.set j (some x) := by
    show (σ.set j none).set j (some x) = σ.set j (some x)
    rw [List.set_set]
  refine ⟨?_, ?_⟩
  · show ((σ.set j none).set j (some x)).set j none = σ.set j none
    rw [List.set_set, List.set_set]
  · show (if true = true then te ((wipe σ [j]).set j (some x)) H' (fun y H4 => ∃ acc, H4 D = some (.lst acc) ∧ acc.length < sizeLine ∧ Pv (i + 1) (L2.upd H4 D (.lst (acc ++ [y])))) else Pv (i + 1) H')
    rw [e, if_pos rfl]
    exact q
theorem sl_listK {X : Cx} {K : PySem.W.Frag} (e : X.K = K) : SlR X (rSlL K) := by
  subst e
  exact sl_list
section
variable {P : Program} {w : World} {K : PySem.W.Frag} {mg : Str → Option Value} {base : Heap}
abbrev s_per_cell : Stmt := top 18
abbrev N_per_cell : List Str := ["base", "many", "reach"]
abbrev P_per_cell : List Str := ["base"]
theorem sc_per_cell : FnScope N_per_cell P_per_cell (defScope s_per_cell) := ⟨rfl, rfl, rfl, by decide +kernel, rfl, by decide +kernel, by decide +kernel⟩
def spPer : Sp := fun vs H Q _ => ∃ b : Int, vs = [.int b] ∧ 2 ≤ b ∧ b ≤ 10000 ∧ Q (.int (perC b)) H
def reach : L2.St → Nat
  | [_, _, some (.int r)] => (10001 - r).toNat
  | _ => 0
theorem ok_per_cell (T : Txt mg) (D : Df K mg "per_cell" s_per_cell P_per_cell) : Fn P w K mg base CX0 1 "per_cell" P_per_cell spPer := by
  refine D.ok sc_per_cell (fun vs H Q E h => ?_) (fun f cdv A outer s H vs Q E hr h => ?_)
  · obtain ⟨b, rfl, _⟩ := h
    rfl
  · obtain ⟨b, rfl, h2, h1, k⟩ := h
    have nd := sc_per_cell.nd
    refine ⟨_, (pss_cons (ps_if (PW.pt (pw_or (pt_cmpR op_lt (pv 0) (pe_gint T.c_LEAST_BASE) (nomark _)) (pw_or1 (pt_cmpR op_gt (pv 0) (pe_gint T.c_CELL_SIZE) (nomark _)))))
  (pss_one ps_never)
  pss_nil)
  (pss_cons (ps_set (i := 1) nd rfl (by first | exact Or.inl rfl | exact Or.inr rfl) pe_int)
  (pss_cons (ps_set (i := 2) nd rfl (by first | exact Or.inl rfl | exact Or.inr rfl) (pv 0))
  (pss_cons (ps_while PassesOwn.never (pt_cmpR op_le (pv 2) (pe_gint T.c_CELL_SIZE) (nomark _))
  (pss_cons (ps_aug (i := 1) nd rfl (by first | exact Or.inl rfl | exact Or.inr rfl) pe_int ip_add)
  (pss_one (ps_aug (i := 2) nd rfl (by first | exact Or.inl rfl | exact Or.inr rfl) (pv 0) iop_mul))))
  (pss_one (ps_ret (pv 1))))))), ?_⟩
    refine ⟨_, rfl, _, _, rfl, rfl, _, rfl, ?_⟩
    refine ite2 (fun c => absurd (of_decide_eq_true c) (by omega)) (fun _ => ?_)
    refine ⟨_, rfl, _, _, rfl, rfl, _, rfl, ?_⟩
    refine ite2 (fun c => absurd (of_decide_eq_true c) (by omega)) (fun _ => ?_)
    refine ⟨_, rfl, ?_⟩
    refine while_by (fun σ H' => ∃ (m : Nat) (r : Int) (f : Nat), σ = [some (.int b), some (.int m), some (.int r)] ∧ PerAt b m r f ∧ H' = H) (fun σ _ => reach σ) ⟨0, b, 14, rfl, .start h2, rfl⟩ ?_ (fun σ H Q Q' im h => ?_)
    · rintro σ H' ⟨m, r, f, rfl, A, rfl⟩
      refine ⟨_, rfl, _, _, rfl, rfl, _, rfl, ?_⟩
      refine ite2 (fun c => ?_) (fun c => ?_)
      · have c' : r ≤ 10000 := of_decide_eq_true c
        obtain ⟨f', A'⟩ := A.turn h2 c'
        refine ⟨_, rfl, _, _, rfl, rfl, _, rfl, _, rfl, _, _, rfl, rfl, .inr (by constructor <;> omega), ?_⟩
        have p1 := A.pos
        have p2 := A'.pos
        have p3 : r * 2 ≤ r * b := Int.mul_le_mul_of_nonneg_left h2 (by omega)
        refine ⟨⟨m + 1, r * b, f', rfl, A', rfl⟩, ?_⟩
        show (10001 - r * b).toNat < (10001 - r).toNat
        omega
      · have c' : ¬ r ≤ 10000 := fun z => c (decide_eq_true z)
        refine ⟨_, rfl, ?_⟩
        rw [A.done c'] at k
        exact k
    · obtain ⟨v, e, i, j, e1, e2, kk, e3, q⟩ := h
      exact ⟨v, e, i, j, e1, e2, kk, e3, im _ _ q⟩

abbrev s_check_below : Stmt := top 21
abbrev N_check_below : List Str := ["limit", "numbers", "place", "number"]
abbrev P_check_below : List Str := ["limit", "numbers"]
theorem sc_check_below : FnScope N_check_below P_check_below (defScope s_check_below) := ⟨rfl, rfl, rfl, by decide +kernel, rfl, by decide +kernel, by decide +kernel⟩
def spChk (K : PySem.W.Frag) : Sp := fun vs H Q _ => ∃ (b : Int) (a : Addr) (ns : List Int), vs = [.int b, .ref a] ∧ SqL K H a (ns.map V.int) ∧ (∀ n ∈ ns, 0 ≤ n ∧ n < b) ∧ ∀ H', Same H H' → Q .non H'
theorem ok_check_below (T : Txt mg) (D : Df K mg "check_below" s_check_below P_check_below) : Fn P w K mg base CX0 1 "check_below" P_check_below (spChk K) := by
  refine D.ok sc_check_below (fun vs H Q E h => ?_) (fun f cdv A outer s H vs Q E hr h => ?_)
  · obtain ⟨b, a, ns, rfl, _⟩ := h
    rfl
  · obtain ⟨b, a, ns, rfl, hS, hb, k⟩ := h
    have nd := sc_check_below.nd
    refine ⟨_, (pss_one (ps_for PassesOwn.never rfl (pi_enum (by rfl) T.b_enumerate (pa_cons (pv 1) pa_nil)) (pg_tup (by rfl) (pgs_cons (pg_name (i := 2) nd rfl (by first | exact Or.inl rfl | exact Or.inr rfl)) (pgs_cons (pg_name (i := 3) nd rfl (by first | exact Or.inl rfl | exact Or.inr rfl)) pgs_nil)))
  (pss_one (ps_if (PW.pt (pw_or (pt_cmpR op_lt (pv 3) pe_int (nomark _)) (pw_or1 (pt_cmpR op_ge (pv 3) (pv 0) (nomark _)))))
  (pss_one ps_never)
  pss_nil)))), ?_⟩
    refine ⟨_, rfl, a, _, rfl, hS, for_it walk_enum (fun i σ H' => ∃ v1 v2, σ = [some (.int b), some (.ref a), v1, v2] ∧ Same H H') ⟨none, none, rfl, Same.refl H⟩ (fun i σ H' _ ⟨_, _, _, s5⟩ => s5.seq hS) ?_ ?_⟩
    · rintro i x σ H1 H2 hi ⟨v1, v2, rfl, s5⟩ ⟨T0, x0, y0, rfl, nT, rfl, e1, e2⟩
      obtain ⟨z, hz, rfl⟩ := map_at e2
      obtain ⟨z0, z1⟩ := hb z (List.mem_of_getElem? hz)
      refine ⟨T0, _, rfl, SqT.of upd_same, rfl, _, _, rfl, _, _, rfl, rfl, ?_⟩
      refine ⟨_, rfl, _, _, rfl, rfl, _, rfl, ?_⟩
      refine ite2 (fun c => absurd (of_decide_eq_true c) (by omega)) (fun _ => ?_)
      refine ⟨_, rfl, _, rfl, _, _, rfl, rfl, _, rfl, ?_⟩
      refine ite2 (fun c => absurd (of_decide_eq_true c) (by omega)) (fun _ => ?_)
      exact ⟨_, _, rfl, s5.upd' nT⟩
    · rintro σ H' ⟨v1, v2, rfl, s5⟩
      exact k _ s5

abbrev s_cell_of : Stmt := top 22
abbrev N_cell_of : List Str := ["base", "numbers", "cell", "number"]
abbrev P_cell_of : List Str := ["base", "numbers"]
theorem sc_cell_of : FnScope N_cell_of P_cell_of (defScope s_cell_of) := ⟨rfl, rfl, rfl, by decide +kernel, rfl, by decide +kernel, by decide +kernel⟩
def spCell (K : PySem.W.Frag) : Sp := fun vs H Q _ => ∃ (b : Int) (a : Addr) (ns : List Int), vs = [.int b, .ref a] ∧ SqL K H a (ns.map V.int) ∧ 2 ≤ b ∧ b ≤ 10000 ∧ Q (.int (val b ns)) H
theorem ok_cell_of (T : Txt mg) (D : Df K mg "cell_of" s_cell_of P_cell_of) : Fn P w K mg base CX0 1 "cell_of" P_cell_of (spCell K) := by
  refine D.ok sc_cell_of (fun vs H Q E h => ?_) (fun f cdv A outer s H vs Q E hr h => ?_)
  · obtain ⟨b, a, ns, rfl, _⟩ := h
    rfl
  · obtain ⟨b, a, ns, rfl, hS, h2, h1, k⟩ := h
    have nd := sc_cell_of.nd
    refine ⟨_, (pss_cons (ps_set (i := 2) nd rfl (by first | exact Or.inl rfl | exact Or.inr rfl) pe_int)
  (pss_cons (ps_for PassesOwn.never rfl (pi_reversed (by rfl) T.b_reversed (pa_cons (pv 1) pa_nil)) (pg_name (i := 3) nd rfl (by first | exact Or.inl rfl | exact Or.inr rfl))
  (pss_one (ps_set (i := 2) nd rfl (by first | exact Or.inl rfl | exact Or.inr rfl) (pe_op op_add (pe_op op_mul (pv 2) (pv 0)) (pv 3)))))
  (pss_one (ps_ret (pv 2))))), ?_⟩
    refine ⟨_, rfl, a, _, rfl, hS, for_it walk_rev (fun i σ H' => ∃ v, σ = [some (.int b), some (.ref a), some (.int (val b (ns.drop (ns.length - i)))), v] ∧ H' = H) ⟨none, by rw [Nat.sub_zero, List.drop_length]; rfl, rfl⟩ (fun i σ H' _ ⟨_, _, s5⟩ => s5 ▸ hS) ?_ ?_⟩
    · rintro i x σ H1 H2 hi ⟨v, rfl, rfl⟩ ⟨rfl, e⟩
      rw [List.length_map] at hi e
      obtain ⟨z, hz, rfl⟩ := map_at e
      refine ⟨_, rfl, _, rfl, _, _, rfl, rfl, .inr (by constructor <;> omega), _, rfl, _, _, rfl, rfl, ?_⟩
      exact ⟨_, by rw [val_step b hi hz]; rfl, rfl⟩
    · rintro σ H' ⟨v, rfl, rfl⟩
      refine ⟨_, rfl, ?_⟩
      rw [List.length_map, Nat.sub_self]
      exact k

abbrev s_numbers_in : Stmt := top 23
abbrev N_numbers_in : List Str := ["base", "cell", "numbers", "rest", "_"]
abbrev P_numbers_in : List Str := ["base", "cell"]
theorem sc_numbers_in : FnScope N_numbers_in P_numbers_in (defScope s_numbers_in) := ⟨rfl, rfl, rfl, by decide +kernel, rfl, by decide +kernel, by decide +kernel⟩
def spNum : Sp := fun vs H Q _ => ∃ (b c : Int), vs = [.int b, .int c] ∧ 2 ≤ b ∧ b ≤ 10000 ∧ ∀ (H' : Hp) (p : Addr), Same H H' → H p = none → H' p = some (.lst ((digits b (perC b) c).map V.int)) → Q (.ref p) H'
theorem ok_numbers_in (T : Txt mg) (D : Df K mg "numbers_in" s_numbers_in P_numbers_in) (G_per_cell : Fn P w K mg base CX0 1 "per_cell" P_per_cell spPer) : Fn P w K mg base CX0 2 "numbers_in" P_numbers_in spNum := by
  refine D.ok sc_numbers_in (fun vs H Q E h => ?_) (fun f cdv A outer s H vs Q E hr h => ?_)
  · obtain ⟨b, c, rfl, _⟩ := h
    rfl
  · obtain ⟨b, c, rfl, h2, h1, k⟩ := h
    have nd := sc_numbers_in.nd
    refine ⟨_, (pss_cons (ps_set (i := 2) nd rfl (by first | exact Or.inl rfl | exact Or.inr rfl) (pe_lst pa_nil))
  (pss_cons (ps_set (i := 3) nd rfl (by first | exact Or.inl rfl | exact Or.inr rfl) (pv 1))
  (pss_cons (ps_for PassesOwn.never rfl (pi_range1 (by rfl) T.b_range (pa_cons (pe_c G_per_cell (hr.mono (by decide)) pass0 (pa_cons (pv 0) pa_nil)) pa_nil)) (pg_name (i := 4) nd rfl (by first | exact Or.inl rfl | exact Or.inr rfl))
  (pss_cons (ps_expr (pe_bm PySem.F.plainAttrs_list PySem.F.slot_list_append PySem.F.type_list_append mt_append (pv 2) (pa_cons (pe_op op_mod (pv 3) (pv 0)) pa_nil)))
  (pss_one (ps_aug (i := 3) nd rfl (by first | exact Or.inl rfl | exact Or.inr rfl) (pv 0) iop_fdiv))))
  (pss_one (ps_ret (pv 2)))))), ?_⟩
    refine ⟨Nat.zero_le _, fun p np => ?_⟩
    refine ⟨_, rfl, _, rfl, b, rfl, h2, h1, _, rfl, by omega, by have := perC_le b; omega, ?_⟩
    refine for_it (walk_range (lo := 0)) (fun i σ H' => ∃ v, σ = [some (.int b), some (.int c), some (.ref p), some (.int (restOf b i c)), v] ∧ Same H H' ∧ H' p = some (.lst ((digits b i c).map V.int))) ⟨none, rfl, Same.upd np, upd_same⟩ (fun i σ H' _ _ => True.intro) ?_ ?_
    · rintro i x σ H1 H2 hi ⟨v, rfl, s5, hp⟩ ⟨rfl, rfl⟩
      rw [Int.toNat_natCast] at hi
      have hi2 := perC_le b
      refine ⟨_, rfl, .inl ⟨rfl, _, SqL.of hp⟩, _, rfl, _, rfl, _, _, rfl, rfl, (by show 0 < b; omega), _, _, _, rfl, rfl, hp, by rw [List.length_map, digits_length]; exact Nat.lt_of_lt_of_le hi (Nat.le_trans hi2 (by decide)), ?_⟩
      refine ⟨_, rfl, _, rfl, _, _, rfl, rfl, ⟨by omega, by omega⟩, ?_⟩
      refine ⟨_, by rw [restOf_succ]; rfl, Same.put s5 np, ?_⟩
      rw [upd_same, digits_succ, List.map_append]
      rfl
    · rintro σ H' ⟨v, rfl, s5, hp⟩
      rw [Int.toNat_natCast] at hp
      exact ⟨_, rfl, k _ _ s5 np hp⟩

abbrev s_packed : Stmt := top 19
abbrev N_packed : List Str := ["base", "values", "many", "at"]
abbrev P_packed : List Str := ["base", "values"]
theorem sc_packed : FnScope N_packed P_packed (defScope s_packed) := ⟨rfl, rfl, rfl, by decide +kernel, rfl, by decide +kernel, by decide +kernel⟩
def spPck (K : PySem.W.Frag) : Sp := fun vs H Q _ => ∃ (b : Int) (a : Addr) (ns : List Int), vs = [.int b, .ref a] ∧ SqL K H a (ns.map V.int) ∧ 2 ≤ b ∧ b ≤ 10000 ∧ (∀ n ∈ ns, 0 ≤ n ∧ n < b) ∧ ns.length ≤ 1000 ∧
  ∀ (H' : Hp) (p : Addr), Same H H' → H p = none → H' p = some (.tup ((K3.packed b ns).map V.int)) → Q (.ref p) H'
theorem ok_packed (T : Txt mg) (D : Df K mg "packed" s_packed P_packed) (G_per_cell : Fn P w K mg base CX0 1 "per_cell" P_per_cell spPer) (G_check_below : Fn P w K mg base CX0 1 "check_below" P_check_below (spChk K))
    (G_cell_of : Fn P w K mg base CX0 1 "cell_of" P_cell_of (spCell K)) : Fn P w K mg base CX0 2 "packed" P_packed (spPck K) := by
  refine D.ok sc_packed (fun vs H Q E h => ?_) (fun f cdv A outer s H vs Q E hr h => ?_)
  · obtain ⟨b, a, ns, rfl, _⟩ := h
    rfl
  · obtain ⟨b, a, ns, rfl, hS, h2, h1, hb, hl, k⟩ := h
    have nd := sc_packed.nd
    refine ⟨_, (pss_cons (ps_set (i := 2) nd rfl (by first | exact Or.inl rfl | exact Or.inr rfl) (pe_c G_per_cell (hr.mono (by decide)) pass0 (pa_cons (pv 0) pa_nil)))
  (pss_cons (ps_expr (pe_c G_check_below (hr.mono (by decide)) pass0 (pa_cons (pv 0) (pa_cons (pv 1) pa_nil))))
  (pss_one (ps_ret (pe_callTy call_tuple_of (by rfl) T.b_tuple (by decide +kernel) (pa_cons (pe_lc (own := [("at", 3)]) (g := gName 3) (by rfl) nd  (pi_range3 (by rfl) T.b_range (pa_cons pe_int (pa_cons (pe_callB call_len_seq (by rfl) T.b_len (by decide +kernel) (pa_cons (pv 1) pa_nil)) (pa_cons (pv 2) pa_nil)))) (blkOk_by (own := [("at", 3)]) (N := N_packed) (sc := defScope s_packed) (by decide +kernel)) (fun _ _ _ _ _ => pg_name (i := 3) nd rfl (Or.inl rfl)) (fun _ _ _ _ _ => pts_nil) (fun _ _ _ _ _ => (pe_c G_cell_of (hr.mono (by decide)) pass0 (pa_cons (pv 0) (pa_cons (pe_slice (sl_listK (K := K) rfl) (pv 1) (po_some (pv 3)) (po_some (pe_op op_add (pv 3) (pv 2)))) pa_nil))))) pa_nil)))))), ?_⟩
    have hk := perC_pos h1
    have hkl := perC_le b
    refine ⟨_, rfl, b, rfl, h2, h1, ?_⟩
    refine ⟨_, rfl, _, rfl, b, a, ns, rfl, hS, hb, fun H1 s1 => ?_⟩
    refine ⟨_, rfl, a, _, rfl, .inl (s1.seq hS), _, rfl, _, _, _, cells (perC b) ns.length, rfl, ?_, ?_⟩
    · rw [List.length_map]
      exact rgC_up hk (by omega) (by omega)
    intro D nD
    have sD : Same H (upd H1 D (.lst [])) := s1.upd' nD
    have nDH : H D = none := s1.free nD
    refine lc_all walk_rangeC (fun i H' => Same H H' ∧ H' D = some (.lst (((List.range i).map (fun i => val b ((ns.drop (i * perC b)).take (perC b)))).map V.int))) ⟨sD, upd_same⟩ (fun _ _ _ _ => True.intro) ?_ ?_
    · rintro i x H2 H3 hi ⟨s2, hD⟩ ⟨rfl, rfl⟩
      have hc := (cells_lt hk).mp hi
      have e0 : (0 : Int) + (i : Int) * (perC b : Int) = ((i * perC b : Nat) : Int) := by rw [Int.natCast_mul]; omega
      refine ⟨_, rfl, _, rfl, _, rfl, _, rfl, _, rfl, _, rfl, _, _, rfl, rfl, _, rfl, a, _, rfl, s2.seq hS, fun p np => ?_⟩
      refine ⟨b, p, (ns.drop (i * perC b)).take (perC b), rfl, SqL.of ?_, h2, h1, ?_⟩
      · rw [upd_same, e0, cutV_part, List.map_take, List.map_drop]
      refine ⟨_, (upd_ne (ne_of_none hD np)).trans hD, ?_, Same.put (s2.upd' np) nDH, ?_⟩
      · rw [List.length_map, List.length_map, List.length_range, sizeLine_eq]
        have := cells_le (n := ns.length) hk
        omega
      · rw [upd_same, List.range_succ, List.map_append, List.map_append]
        rfl
    · rintro H2 ⟨s2, hD⟩
      refine ⟨_, _, rfl, .inl ⟨SqL.of hD, fun l nl => ?_⟩⟩
      rw [packed_eq h1]
      exact k _ _ (s2.upd' nl) (s2.free nl) upd_same

def spUnp (K : PySem.W.Frag) : Sp := fun vs H Q _ => ∃ (b : Int) (a : Addr) (cs : List Int) (m : Nat), vs = [.int b, .ref a, .int m] ∧ SqT K H a (cs.map V.int) ∧ 2 ≤ b ∧ b ≤ 10000 ∧ cs.length ≤ 1000 ∧
  ∀ (H' : Hp) (p : Addr), Same H H' → H p = none → H' p = some (.lst (((cs.flatMap (digits b (perC b))).take m).map V.int)) → Q (.ref p) H'
end
end K3

set_option Elab.async false
set_option linter.all false
set_option maxRecDepth 100000
set_option maxHeartbeats 4000000
namespace K3
open PySem PySem.Spec PyProof.Rows L2
/-! ### == of lists of ints -/
theorem eqvAll_ints : ∀ ns ms : List Int, PyData.eqvAll (ns.map PyData.int) (ms.map PyData.int) = decide (ns = ms)
  | [], [] => rfl
  | [], _ :: _ => by simp [PyData.eqvAll]
  | _ :: _, [] => by simp [PyData.eqvAll]
  | n :: ns, m :: ms => by
    rw [List.map_cons, List.map_cons, PyData.eqvAll, eqvAll_ints ns ms, PyData.eqv]
    by_cases h : n = m
    · subst h; simp
    · simp [h]
theorem dpAll_ints {K : PySem.W.Frag} {H : Hp} : ∀ ns : List Int, DpAll K H (ns.map V.int) (ns.map PyData.int)
  | [] => .nil
  | n :: r => .cons (.int n) (dpAll_ints r)
def rEqIs (K : PySem.W.Frag) : R2 := fun x y H Q => ∃ (a b : Addr) (ns ms : List Int), x = .ref a ∧ y = .ref b ∧ SqL K H a (ns.map V.int) ∧ SqL K H b (ms.map V.int) ∧ Q (.bl (decide (ns = ms))) H
def rNeIs (K : PySem.W.Frag) : R2 := fun x y H Q => ∃ (a b : Addr) (ns ms : List Int), x = .ref a ∧ y = .ref b ∧ SqL K H a (ns.map V.int) ∧ SqL K H b (ms.map V.int) ∧ Q (.bl (!decide (ns = ms))) H
theorem op_eqIs {X : Cx} (hu : X.A.units + 64 < cLine) : OpR X (compareOp .Eq) (rEqIs X.K) := by
  intro pins s σ H x y v u Q I rx ry ⟨a, b, ns, ms, ex, ey, h1, h2, q⟩
  subst ex ey
  refine op_eqD hu pins s σ H _ _ v u Q I rx ry ⟨_, _, .lst h1 (dpAll_ints ns), .lst h2 (dpAll_ints ms), PySem.W.ke_shaped_ints ns, PySem.W.ke_shaped_ints ms, ?_⟩
  rw [PyData.eqv, eqvAll_ints]
  exact q
theorem op_neIs {X : Cx} (hu : X.A.units + 64 < cLine) : OpR X (compareOp .NotEq) (rNeIs X.K) := by
  intro pins s σ H x y v u Q I rx ry ⟨a, b, ns, ms, ex, ey, h1, h2, q⟩
  subst ex ey
  refine op_neD hu pins s σ H _ _ v u Q I rx ry ⟨_, _, .lst h1 (dpAll_ints ns), .lst h2 (dpAll_ints ms), PySem.W.ke_shaped_ints ns, PySem.W.ke_shaped_ints ms, ?_⟩
  rw [PyData.eqv, eqvAll_ints]
  exact q
/-! ### the box of draws -/
/-- at b the box: its list of numbers at l, its stirred number -/
def Bx (H : Hp) (b l : Addr) : Prop := ∃ (st : Int) (ns : List Int), H b = some (.lst [.ref l, .int st]) ∧ H l = some (.lst (ns.map V.int)) ∧ ns.length ≤ 63
/-- all but the box stays -/
def Out (b l : Addr) (H H' : Hp) : Prop := ∀ c o, c ≠ b → c ≠ l → H c = some o → H' c = some o
theorem Out.refl {b l : Addr} {H : Hp} : Out b l H H := fun _ _ _ _ e => e
theorem Out.trans {b l : Addr} {H H1 H2 : Hp} (a : Out b l H H1) (c : Out b l H1 H2) : Out b l H H2 := fun d o h1 h2 e => c d o h1 h2 (a d o h1 h2 e)
theorem Out.of {b l : Addr} {H H' : Hp} (s : Same H H') : Out b l H H' := fun _ _ _ _ e => s _ _ e
theorem Out.b {b l : Addr} {H : Hp} {o : HO} : Out b l H (upd H b o) := fun c u h1 _ e => by rw [upd_ne h1]; exact e
theorem Out.l {b l : Addr} {H : Hp} {o : HO} : Out b l H (upd H l o) := fun c u _ h2 e => by rw [upd_ne h2]; exact e
theorem Bx.same {b l : Addr} {H H' : Hp} (h : Bx H b l) (s : Same H H') : Bx H' b l := by
  obtain ⟨st, ns, h1, h2, h3⟩ := h
  exact ⟨st, ns, s _ _ h1, s _ _ h2, h3⟩
theorem Bx.ne {b l : Addr} {H : Hp} (h : Bx H b l) : b ≠ l := by
  obtain ⟨st, ns, h1, h2, h3⟩ := h
  intro e
  subst e
  rw [h1] at h2
  have e2 := HO.lst.inj (Option.some.inj h2)
  cases ns with
  | nil => cases e2
  | cons n r => cases e2
/-- what stands apart from the box is kept -/
theorem Out.at {b l p : Addr} {H H' : Hp} {o : HO} (h : Out b l H H') (h1 : p ≠ b) (h2 : p ≠ l) (e : H p = some o) : H' p = some o := h p o h1 h2 e
theorem Bx.free {b l p : Addr} {H : Hp} (h : Bx H b l) (n : H p = none) : p ≠ b ∧ p ≠ l := by
  obtain ⟨st, ns, h1, h2, h3⟩ := h
  exact ⟨fun e => (by rw [e, h1] at n; cases n), fun e => (by rw [e, h2] at n; cases n)⟩
theorem at0 {x : V} {xs : List V} : atI (x :: xs) 0 = some x := at_of (z := 0) (j := 0) rfl rfl
theorem ix0 (n : Nat) : ixN (n + 1) 0 = some 0 := by
  unfold ixN
  simp
section
variable {P : Program} {w : World} {K : PySem.W.Frag} {mg : Str → Option Value} {base : Heap}
abbrev s__law_begun : Stmt := top 25
abbrev N__law_begun : List Str := ["_law_script", "_law_stirred", "_law_cell"]
abbrev P__law_begun : List Str := ["_law_script"]
theorem sc__law_begun : FnScope N__law_begun P__law_begun (defScope s__law_begun) := ⟨rfl, rfl, rfl, by decide +kernel, rfl, by decide +kernel, by decide +kernel⟩
def spBegun (K : PySem.W.Frag) : Sp := fun vs H Q _ => ∃ (a : Addr) (ns : List Int), vs = [.ref a] ∧ SqL K H a (ns.map V.int) ∧ ns.length ≤ 63 ∧
  ∀ (H' : Hp) (b l : Addr), Same H H' → Bx H' b l → Q (.ref b) H'
theorem ok_begun (T : Txt mg) (D : Df K mg "_law_begun" s__law_begun P__law_begun) : Fn P w K mg base CX0 1 "_law_begun" P__law_begun (spBegun K) := by
  refine D.ok sc__law_begun (fun vs H Q E h => ?_) (fun f cdv A outer s H vs Q E hr h => ?_)
  · obtain ⟨a, ns, rfl, _⟩ := h
    rfl
  · obtain ⟨a, ns, rfl, hS, hl, k⟩ := h
    have nd := sc__law_begun.nd
    refine ⟨_, (pss_cons (ps_set (i := 1) nd rfl (by first | exact Or.inl rfl | exact Or.inr rfl) pe_int)
  (pss_cons (ps_for PassesOwn.never rfl (pi_list (pv 0)) (pg_name (i := 2) nd rfl (by first | exact Or.inl rfl | exact Or.inr rfl))
  (pss_one (ps_set (i := 1) nd rfl (by first | exact Or.inl rfl | exact Or.inr rfl) (pe_op op_mod (pe_op op_add (pe_op op_add (pe_op op_mul (pv 1) pe_int) (pe_op op_mul (pv 2) pe_int)) pe_int) pe_int))))
  (pss_one (ps_ret (pe_lst (pa_cons (pe_callTy call_list_of (by rfl) T.b_list (by decide +kernel) (pa_cons (pv 0) pa_nil)) (pa_cons (pe_op op_mul (pv 1) (pe_callTy call_int1 (by rfl) T.b_int (by decide +kernel) (pa_cons (pe_cmpR op_gt (pe_callB call_len_seq (by rfl) T.b_len (by decide +kernel) (pa_cons (pv 0) pa_nil)) pe_int (nomark _)) pa_nil))) pa_nil))))))), ?_⟩
    refine ⟨_, rfl, a, rfl, ⟨_, hS⟩, for_it walk_list (fun i σ H' => ∃ (z : Int) (v : Option V), σ = [some (.ref a), some (.int z), v] ∧ H' = H) ⟨0, none, rfl, rfl⟩ (fun i σ H' _ ⟨_, _, _, e⟩ => e ▸ hS) ?_ ?_⟩
    · rintro i x σ H1 H2 hi ⟨z, v, rfl, rfl⟩ ⟨rfl, e⟩
      obtain ⟨y, hy, rfl⟩ := map_at e
      refine ⟨_, rfl, _, _, rfl, rfl, .inr (by constructor <;> decide), _, rfl, _, _, rfl, rfl, .inr (by constructor <;> decide), _, _, rfl, rfl, _, _, rfl, rfl, _, _, rfl, rfl, (by show (0 : Int) < 2147483647; decide), ?_⟩
      exact ⟨_, _, rfl, rfl⟩
    · rintro σ H' ⟨z, v, rfl, rfl⟩
      refine ⟨_, rfl, a, _, rfl, .inl hS, fun l nl => ?_⟩
      have hS' := (Same.upd (o := .lst (ns.map V.int)) nl).seq hS
      refine ⟨_, rfl, _, rfl, a, _, rfl, .inl hS', _, _, rfl, rfl, .inr ⟨_, rfl, ?_⟩⟩
      refine ⟨_, _, rfl, rfl, .inr ?_, (by show 2 ≤ sizeLine; decide), fun p np => ?_⟩
      · split <;> constructor <;> decide
      refine k _ p l ((Same.upd nl).upd' np) ⟨_, ns, upd_same, (upd_ne (ne_of_none upd_same np)).trans upd_same, hl⟩
abbrev s__law_take : Stmt := top 26
abbrev N__law_take : List Str := ["_law_box", "_law_many", "_law_number"]
abbrev P__law_take : List Str := ["_law_box", "_law_many"]
theorem sc__law_take : FnScope N__law_take P__law_take (defScope s__law_take) := ⟨rfl, rfl, rfl, by decide +kernel, rfl, by decide +kernel, by decide +kernel⟩
def spTake : Sp := fun vs H Q _ => ∃ (b l : Addr) (m : Int), vs = [.ref b, .int m] ∧ Bx H b l ∧ 0 < m ∧ m < 2000000000000000000 ∧
  ∀ (H' : Hp) (v : Int), Bx H' b l → Out b l H H' → 0 ≤ v → v < m → Q (.int v) H'
theorem ok_take (T : Txt mg) (D : Df K mg "_law_take" s__law_take P__law_take) : Fn P w K mg base CX0 1 "_law_take" P__law_take spTake := by
  refine D.ok sc__law_take (fun vs H Q E h => ?_) (fun f cdv A outer s H vs Q E hr h => ?_)
  · obtain ⟨b, l, m, rfl, _⟩ := h
    rfl
  · obtain ⟨b, l, m, rfl, B, m0, m1, k⟩ := h
    have nd := sc__law_take.nd
    refine ⟨_, (pss_cons (ps_if (pt_cmpR (op_eqIs hr.units) (pe_ix ix_list (pv 0) pe_int (fun _ _ => rfl)) (pe_lst pa_nil) (nomark _))
  (pss_cons (ps_asg (pe_op op_mod (pe_op op_mul (pe_ix ix_list (pv 0) pe_int (fun _ _ => rfl)) pe_int) pe_int) (pg_sub (pv 0) pe_int set_list))
  (pss_one (ps_ret (pe_op op_mod (pe_op op_fdiv (pe_ix ix_list (pv 0) pe_int (fun _ _ => rfl)) pe_int) (pv 1)))))
  pss_nil)
  (pss_cons (ps_set (i := 2) nd rfl (by first | exact Or.inl rfl | exact Or.inr rfl) (pe_ix ix_list (pe_ix ix_list (pv 0) pe_int (fun _ _ => rfl)) pe_int (fun _ _ => rfl)))
  (pss_cons (ps_asg (pe_op op_fdivW (pv 2) (pv 1)) (pg_sub (pe_ix ix_list (pv 0) pe_int (fun _ _ => rfl)) pe_int set_list))
  (pss_cons (ps_if (PW.pt (pw_or (pt_cmpR op_eq (pe_ix ix_list (pe_ix ix_list (pv 0) pe_int (fun _ _ => rfl)) pe_int (fun _ _ => rfl)) pe_int (nomark _)) (pw_or1 (pt_cmpR op_eq (pe_ix ix_list (pe_ix ix_list (pv 0) pe_int (fun _ _ => rfl)) pe_int (fun _ _ => rfl)) (pe_un un_neg pe_int) (nomark _)))))
  (pss_one (ps_expr (pe_bm PySem.F.plainAttrs_list PySem.F.slot_list_pop PySem.F.type_list_pop mt_popAt (pe_ix ix_list (pv 0) pe_int (fun _ _ => rfl)) (pa_cons pe_int pa_nil))))
  pss_nil)
  (pss_one (ps_ret (pe_op op_mod (pv 2) (pv 1)))))))), ?_⟩
    have nbl := B.ne
    obtain ⟨st, ns, h1, h2, h3⟩ := B
    refine ⟨_, rfl, b, _, 0, _, rfl, rfl, SqL.of h1, rfl, Nat.zero_le _, fun p np => ?_⟩
    refine ⟨l, p, ns, [], rfl, rfl, SqL.of ((upd_ne (ne_of_none h2 np)).trans h2), SqL.of upd_same, _, rfl, ?_⟩
    refine ite2 (fun c => ?_) (fun c => ?_)
    · have c' : ns = [] := of_decide_eq_true c
      subst c'
      refine ⟨_, rfl, b, _, 1, _, rfl, rfl, SqL.of ((upd_ne (ne_of_none h1 np)).trans h1), rfl, _, _, rfl, rfl, .inr (by constructor <;> decide), _, _, rfl, rfl, (by show (0 : Int) < 2147483647; decide), _, rfl, b, _, 1, 1, rfl, rfl, (upd_ne (ne_of_none h1 np)).trans h1, rfl, ?_⟩
      refine ⟨_, rfl, b, _, 1, _, rfl, rfl, SqL.of upd_same, rfl, _, _, rfl, rfl, ⟨by decide, by decide⟩, _, rfl, _, _, rfl, rfl, m0, ?_⟩
      refine k _ _ ⟨_, [], upd_same, ?_, Nat.zero_le _⟩ ((Out.of (Same.upd np)).trans Out.b) (Int.emod_nonneg _ (by omega)) (Int.emod_lt_of_pos _ m0)
      rw [upd_ne nbl.symm, upd_ne (ne_of_none h2 np)]
      exact h2
    · cases ns with
      | nil => exact absurd (decide_eq_true rfl) c
      | cons n r =>
        have hb : (upd H p (.lst [])) b = some (.lst [.ref l, .int st]) := (upd_ne (ne_of_none h1 np)).trans h1
        have hl : (upd H p (.lst [])) l = some (.lst (.int n :: r.map V.int)) := (upd_ne (ne_of_none h2 np)).trans h2
        have s1 : Out b l H (upd H p (.lst [])) := Out.of (Same.upd np)
        refine ⟨_, rfl, b, _, 0, _, rfl, rfl, SqL.of hb, rfl, l, _, 0, _, rfl, rfl, SqL.of hl, at0, ?_⟩
        refine ⟨_, rfl, _, rfl, _, _, rfl, rfl, wide_div (b := 64) m0 (by omega) (by decide) (by decide), _, rfl, b, _, 0, _, rfl, rfl, SqL.of hb, rfl, l, _, 0, 0, rfl, rfl, hl, ix0 _, ?_⟩
        have hb2 : (upd (upd H p (.lst [])) l (.lst (.int (n / m) :: r.map V.int))) b = some (.lst [.ref l, .int st]) := (upd_ne nbl).trans hb
        have hl2 : (upd (upd H p (.lst [])) l (.lst (.int (n / m) :: r.map V.int))) l = some (.lst (.int (n / m) :: r.map V.int)) := upd_same
        have s2 : Out b l H (upd (upd H p (.lst [])) l (.lst (.int (n / m) :: r.map V.int))) := s1.trans Out.l
        have kp : tSeq (tDrop (tBM K "list" rPopAt (tOp (rIxL K) (tVar 0) (tC (.int 0))) (tCons (tC (.int 0)) tNil))) (tRet (tOp (rI (fun _ j => 0 < j) fun i j => V.int (i % j)) (tVar 2) (tVar 1))) { nx := fun _ H' => Q .non H', rt := Q }
            [some (.ref b), some (.int m), some (.int n)] (upd (upd H p (.lst [])) l (.lst (.int (n / m) :: r.map V.int))) := by
          refine ⟨_, rfl, b, _, 0, _, rfl, rfl, SqL.of hb2, rfl, .inl ⟨rfl, _, SqL.of hl2⟩, l, _, 0, 0, _, rfl, rfl, hl2, by decide, by decide, ?_, rfl, ?_⟩
          · show seqIndex? 0 (r.map V.int).length.succ = some 0
            unfold seqIndex?
            simp
          refine ⟨_, rfl, _, rfl, _, _, rfl, rfl, m0, ?_⟩
          refine k _ _ ⟨st, r, (upd_ne nbl).trans hb2, upd_same, by simp at h3; omega⟩ (s2.trans Out.l) (Int.emod_nonneg _ (by omega)) (Int.emod_lt_of_pos _ m0)
        refine ⟨_, rfl, b, _, 0, _, rfl, rfl, SqL.of hb2, rfl, l, _, 0, _, rfl, rfl, SqL.of hl2, at0, rfl, _, rfl, ?_⟩
        refine ite2 (fun _ => kp) (fun _ => ?_)
        refine ⟨_, rfl, b, _, 0, _, rfl, rfl, SqL.of hb2, rfl, l, _, 0, _, rfl, rfl, SqL.of hl2, at0, _, rfl, rfl, _, rfl, ?_⟩
        refine ite2 (fun _ => kp) (fun _ => ?_)
        refine ⟨_, rfl, _, rfl, _, _, rfl, rfl, m0, ?_⟩
        exact k _ _ ⟨st, (n / m) :: r, hb2, hl2, by simpa using h3⟩ s2 (Int.emod_nonneg _ (by omega)) (Int.emod_lt_of_pos _ m0)
end
end K3

set_option Elab.async false
set_option linter.all false
set_option maxRecDepth 100000
set_option maxHeartbeats 4000000
namespace K3
open PySem PySem.Spec PyProof.Rows L2
theorem pickI {zs : List Int} {v : Int} (h0 : 0 ≤ v) (h1 : v < (zs.length : Int)) : ∃ y, y ∈ zs ∧ atI (zs.map V.int) v = some (.int y) := by
  obtain ⟨k, rfl⟩ : ∃ k : Nat, v = (k : Int) := ⟨v.toNat, by omega⟩
  have hk : k < zs.length := by omega
  exact ⟨zs[k], List.getElem_mem hk, atI_nat (by rw [List.getElem?_map, List.getElem?_eq_getElem hk]; rfl)⟩
/-- what a draw leaves, all apart from the box -/
structure Drw (H0 H : Hp) (b l p : Addr) (xs : List Int) : Prop where
  bx : Bx H b l
  out : Out b l H0 H
  new : H0 p = none
  pb : p ≠ b
  pl : p ≠ l
  at_ : H p = some (.lst (xs.map V.int))
theorem Drw.step {H0 H H' : Hp} {b l p : Addr} {xs : List Int} (d : Drw H0 H b l p xs) (B : Bx H' b l) (O : Out b l H H') : Drw H0 H' b l p xs := ⟨B, d.out.trans O, d.new, d.pb, d.pl, O.at d.pb d.pl d.at_⟩
theorem Drw.same {H0 H H' : Hp} {b l p : Addr} {xs : List Int} (d : Drw H0 H b l p xs) (s : Same H H') : Drw H0 H' b l p xs := d.step (d.bx.same s) (.of s)
theorem Drw.put {H0 H : Hp} {b l p : Addr} {xs ys : List Int} (d : Drw H0 H b l p xs) : Drw H0 (upd H p (.lst (ys.map V.int))) b l p ys := by
  obtain ⟨st, ns, h1, h2, h3⟩ := d.bx
  refine ⟨⟨st, ns, (upd_ne d.pb.symm).trans h1, (upd_ne d.pl.symm).trans h2, h3⟩, fun c o c1 c2 e => ?_, d.new, d.pb, d.pl, upd_same⟩
  rw [upd_ne (ne_of_none e d.new)]
  exact d.out c o c1 c2 e
/-- max(-9999, min(9999, y)) -/
def clip (y : Int) : Int := if (if y < 9999 then y else 9999) > -9999 then (if y < 9999 then y else 9999) else -9999
theorem clip_in (y : Int) : -9999 ≤ clip y ∧ clip y ≤ 9999 := by
  unfold clip
  split <;> split <;> omega
section
variable {P : Program} {w : World} {K : PySem.W.Frag} {mg : Str → Option Value} {base : Heap}
def spVals : Sp := fun vs H Q _ => ∃ (b l : Addr) (m : Int), vs = [.ref b, .int m] ∧ Bx H b l ∧ 1 ≤ m ∧ m ≤ 32 ∧
  ∀ (H' : Hp) (p : Addr) (xs : List Int), Bx H' b l → Out b l H H' → H p = none → p ≠ b → p ≠ l → H' p = some (.lst (xs.map V.int)) → xs ≠ [] → (xs.length : Int) ≤ m → (∀ x ∈ xs, -9999 ≤ x ∧ x ≤ 9999) → Q (.ref p) H'
def lenAt (p : Addr) (H : Hp) : Nat := match H p with
  | some (.lst xs) => xs.length
  | _ => 0
end
end K3

set_option Elab.async false
set_option linter.all false
set_option maxRecDepth 100000
set_option maxHeartbeats 4000000
namespace K3
open PySem PySem.Spec PyProof.Rows L2
/-- ints, truths, texts, None; tuples and lists of such: the same data -/
inductive Alk (K : PySem.W.Frag) (H : Hp) : Nat → V → V → Prop where
  | non {n : Nat} : Alk K H n .non .non
  | int {n : Nat} (i : Int) : Alk K H n (.int i) (.int i)
  | bl {n : Nat} (b : Bool) : Alk K H n (.bl b) (.bl b)
  | str {n : Nat} (z : Str) : Alk K H n (.str z) (.str z)
  | tup {n : Nat} {a b : Addr} {xs ys : List V} (ha : SqT K H a xs) (hb : SqT K H b ys) (hl : xs.length ≤ 10000) (h : xs.length = ys.length) (e : ∀ (i : Nat) (x y : V), xs[i]? = some x → ys[i]? = some y → Alk K H n x y) : Alk K H (n + 1) (.ref a) (.ref b)
  | lst {n : Nat} {a b : Addr} {xs ys : List V} (ha : SqL K H a xs) (hb : SqL K H b ys) (hl : xs.length ≤ 10000) (h : xs.length = ys.length) (e : ∀ (i : Nat) (x y : V), xs[i]? = some x → ys[i]? = some y → Alk K H n x y) : Alk K H (n + 1) (.ref a) (.ref b)
theorem tyX_seqT {K : PySem.W.Frag} {H : Hp} {t : Addr} {xs : List V} (h : SqT K H t xs) : TyX K H (.ref t) (.type "tuple") := by
  rcases h with (h | ⟨o, h⟩) | h
  · exact .base (.tup h)
  · exact .fTuple h
  · obtain ⟨o, _, _, e, c, _⟩ := h
    exact .kTuple e c
theorem tyX_seqL {K : PySem.W.Frag} {H : Hp} {t : Addr} {xs : List V} (h : SqL K H t xs) : TyX K H (.ref t) (.type "list") := by
  rcases h with (h | ⟨o, h⟩) | h
  · exact .base (.lst h)
  · exact .base (.frz h)
  · obtain ⟨o, _, _, e, c, _⟩ := h
    exact .kList e c
/-- the builtins that it names -/
structure Txt4 (mg : Str → Option Value) : Prop where
  b_bool : mg "bool" = none
  b_str : mg "str" = none
  b_sum : mg "sum" = none
section
variable {P : Program} {w : World} {K : PySem.W.Frag} {mg : Str → Option Value} {base : Heap}
abbrev s__law_alike : Stmt := top 27
abbrev N__law_alike : List Str := ["_law_found", "_law_due", "_law_k"]
abbrev P__law_alike : List Str := ["_law_found", "_law_due"]
theorem sc__law_alike : FnScope N__law_alike P__law_alike (defScope s__law_alike) := ⟨rfl, rfl, rfl, by decide +kernel, rfl, by decide +kernel, by decide +kernel⟩
def spAlike (K : PySem.W.Frag) (n : Nat) : Sp := fun vs H Q _ => ∃ x y, vs = [x, y] ∧ ∃ m, m < n ∧ Alk K H m x y ∧ Q (.bl true) H
theorem ok_alikeS {n : Nat} (T : Txt mg) (T4 : Txt4 mg) (D : Df K mg "_law_alike" s__law_alike P__law_alike) (G_alike : Fn P w K mg base CX0 (1 + n) "_law_alike" P__law_alike (spAlike K n)) : Fn P w K mg base CX0 (1 + n + 1) "_law_alike" P__law_alike (spAlike K (n + 1)) := by
  refine D.ok sc__law_alike (fun vs H Q E h => ?_) (fun f cdv A outer s H vs Q E hr h => ?_)
  · obtain ⟨x, y, rfl, _⟩ := h
    rfl
  · obtain ⟨x, y, rfl, m, hm, hA, k⟩ := h
    have nd := sc__law_alike.nd
    refine ⟨_, (pss_cons (ps_if (pt_cmpR op_isN (pv 1) pe_non (nomark _))
  (pss_one (ps_ret (pe_cmpR op_isN (pv 0) pe_non (nomark _))))
  pss_nil)
  (pss_cons (ps_if (pt_val (pe_callB call_isi (by rfl) T.b_isinstance (by decide +kernel) (pa_cons (pv 1) (pa_cons (pe_bltn (v := .ty "bool") (by rfl) T4.b_bool (by decide +kernel) rfl) pa_nil))))
  (pss_one (ps_ret (pe_and (pe_callB call_isi (by rfl) T.b_isinstance (by decide +kernel) (pa_cons (pv 0) (pa_cons (pe_bltn (v := .ty "bool") (by rfl) T4.b_bool (by decide +kernel) rfl) pa_nil))) (pe_one (pe_cmpR op_eq (pv 0) (pv 1) (nomark _))))))
  pss_nil)
  (pss_cons (ps_if (pt_val (pe_callB call_isi (by rfl) T.b_isinstance (by decide +kernel) (pa_cons (pv 1) (pa_cons (pe_bltn (v := .ty "int") (by rfl) T.b_int (by decide +kernel) rfl) pa_nil))))
  (pss_one (ps_ret (pe_and (pe_callB call_isi (by rfl) T.b_isinstance (by decide +kernel) (pa_cons (pv 0) (pa_cons (pe_bltn (v := .ty "int") (by rfl) T.b_int (by decide +kernel) rfl) pa_nil))) (pe_and (pe_not (pe_callB call_isi (by rfl) T.b_isinstance (by decide +kernel) (pa_cons (pv 0) (pa_cons (pe_bltn (v := .ty "bool") (by rfl) T4.b_bool (by decide +kernel) rfl) pa_nil)))) (pe_one (pe_cmpR op_eq (pv 0) (pv 1) (nomark _)))))))
  pss_nil)
  (pss_cons (ps_if (pt_val (pe_callB call_isi (by rfl) T.b_isinstance (by decide +kernel) (pa_cons (pv 1) (pa_cons (pe_bltn (v := .ty "str") (by rfl) T4.b_str (by decide +kernel) rfl) pa_nil))))
  (pss_one (ps_ret (pe_and (pe_callB call_isi (by rfl) T.b_isinstance (by decide +kernel) (pa_cons (pv 0) (pa_cons (pe_bltn (v := .ty "str") (by rfl) T4.b_str (by decide +kernel) rfl) pa_nil))) (pe_one (pe_cmpR op_eq (pv 0) (pv 1) (nomark _))))))
  pss_nil)
  (pss_cons (ps_if (PW.pt (pw_or (pt_cmpR op_ne (pe_callB call_isi (by rfl) T.b_isinstance (by decide +kernel) (pa_cons (pv 1) (pa_cons (pe_bltn (v := .ty "tuple") (by rfl) T.b_tuple (by decide +kernel) rfl) pa_nil))) (pe_callB call_isi (by rfl) T.b_isinstance (by decide +kernel) (pa_cons (pv 0) (pa_cons (pe_bltn (v := .ty "tuple") (by rfl) T.b_tuple (by decide +kernel) rfl) pa_nil))) (nomark _)) (pw_or1 (pt_cmpR op_ne (pe_callB call_isi (by rfl) T.b_isinstance (by decide +kernel) (pa_cons (pv 1) (pa_cons (pe_bltn (v := .ty "list") (by rfl) T.b_list (by decide +kernel) rfl) pa_nil))) (pe_callB call_isi (by rfl) T.b_isinstance (by decide +kernel) (pa_cons (pv 0) (pa_cons (pe_bltn (v := .ty "list") (by rfl) T.b_list (by decide +kernel) rfl) pa_nil))) (nomark _)))))
  (pss_one (ps_ret pe_bl))
  pss_nil)
  (pss_cons (ps_if (pt_cmpR op_ne (pe_callB call_len_seq (by rfl) T.b_len (by decide +kernel) (pa_cons (pv 0) pa_nil)) (pe_callB call_len_seq (by rfl) T.b_len (by decide +kernel) (pa_cons (pv 1) pa_nil)) (nomark _))
  (pss_one (ps_ret pe_bl))
  pss_nil)
  (pss_cons (ps_for PassesOwn.never rfl (pi_range1 (by rfl) T.b_range (pa_cons (pe_callB call_len_seq (by rfl) T.b_len (by decide +kernel) (pa_cons (pv 1) pa_nil)) pa_nil)) (pg_name (i := 2) nd rfl (by first | exact Or.inl rfl | exact Or.inr rfl))
  (pss_one (ps_if (pt_not (pt_val (pe_c G_alike hr pass0 (pa_cons (pe_ix ix_seq (pv 0) (pv 2) (fun _ _ => rfl)) (pa_cons (pe_ix ix_seq (pv 1) (pv 2) (fun _ _ => rfl)) pa_nil)))))
  (pss_one (ps_ret pe_bl))
  pss_nil)))
  (pss_one (ps_ret pe_bl))))))))), ?_⟩
    cases hA with
    | non =>
      refine ⟨_, rfl, rfl, _, rfl, ?_⟩
      refine ite2 (fun _ => ?_) (fun c => absurd rfl c)
      exact ⟨_, rfl, rfl, k⟩
    | int i =>
      refine ⟨_, rfl, rfl, _, rfl, ?_⟩
      refine ite2 (fun c => nomatch (of_decide_eq_true c)) (fun _ => ?_)
      refine ⟨_, rfl, _, .ty "bool", .type "int", .type "bool", false, rfl, .ty _, .base (.int _), kit_ty (by decide +kernel), _, rfl, ite2 (fun c => Bool.noConfusion c) (fun _ => ?_)⟩
      refine ⟨_, rfl, _, .ty "int", .type "int", .type "int", true, rfl, .ty _, .base (.int _), kit_ty (by decide +kernel), _, rfl, ite2 (fun _ => ?_) (fun c => absurd rfl c)⟩
      refine ⟨_, rfl, _, .ty "int", .type "int", .type "int", true, rfl, .ty _, .base (.int _), kit_ty (by decide +kernel), _, rfl, ite2 (fun _ => ?_) (fun c => absurd rfl c)⟩
      refine ⟨_, rfl, _, .ty "bool", .type "int", .type "bool", false, rfl, .ty _, .base (.int _), kit_ty (by decide +kernel), _, rfl, _, rfl, ite2 (fun _ => ?_) (fun c => absurd rfl c)⟩
      refine ⟨_, rfl, _, rfl, rfl, ?_⟩
      have e : decide (V.int i = V.int i) = true := decide_eq_true rfl
      rw [e]
      exact k
    | bl b =>
      refine ⟨_, rfl, rfl, _, rfl, ?_⟩
      refine ite2 (fun c => nomatch (of_decide_eq_true c)) (fun _ => ?_)
      refine ⟨_, rfl, _, .ty "bool", .type "bool", .type "bool", true, rfl, .ty _, .base (.bl _), kit_ty (by decide +kernel), _, rfl, ite2 (fun _ => ?_) (fun c => absurd rfl c)⟩
      refine ⟨_, rfl, _, .ty "bool", .type "bool", .type "bool", true, rfl, .ty _, .base (.bl _), kit_ty (by decide +kernel), _, rfl, ite2 (fun _ => ?_) (fun c => absurd rfl c)⟩
      refine ⟨_, rfl, _, rfl, rfl, ?_⟩
      have e : decide (V.bl b = V.bl b) = true := decide_eq_true rfl
      rw [e]
      exact k
    | str z =>
      refine ⟨_, rfl, rfl, _, rfl, ?_⟩
      refine ite2 (fun c => nomatch (of_decide_eq_true c)) (fun _ => ?_)
      refine ⟨_, rfl, _, .ty "bool", .type "str", .type "bool", false, rfl, .ty _, .base (.str _), kit_ty (by decide +kernel), _, rfl, ite2 (fun c => Bool.noConfusion c) (fun _ => ?_)⟩
      refine ⟨_, rfl, _, .ty "int", .type "str", .type "int", false, rfl, .ty _, .base (.str _), kit_ty (by decide +kernel), _, rfl, ite2 (fun c => Bool.noConfusion c) (fun _ => ?_)⟩
      refine ⟨_, rfl, _, .ty "str", .type "str", .type "str", true, rfl, .ty _, .base (.str _), kit_ty (by decide +kernel), _, rfl, ite2 (fun _ => ?_) (fun c => absurd rfl c)⟩
      refine ⟨_, rfl, _, .ty "str", .type "str", .type "str", true, rfl, .ty _, .base (.str _), kit_ty (by decide +kernel), _, rfl, ite2 (fun _ => ?_) (fun c => absurd rfl c)⟩
      refine ⟨_, rfl, _, rfl, rfl, ?_⟩
      have e : decide (V.str z = V.str z) = true := decide_eq_true rfl
      rw [e]
      exact k
    | @tup m a b xs ys ha hb hl hlen e =>
      refine ⟨_, rfl, rfl, _, rfl, ?_⟩
      refine ite2 (fun c => nomatch (of_decide_eq_true c)) (fun _ => ?_)
      refine ⟨_, rfl, _, .ty "bool", .type "tuple", .type "bool", false, rfl, .ty _, tyX_seqT hb, kit_ty (by decide +kernel), _, rfl, ite2 (fun c => Bool.noConfusion c) (fun _ => ?_)⟩
      refine ⟨_, rfl, _, .ty "int", .type "tuple", .type "int", false, rfl, .ty _, tyX_seqT hb, kit_ty (by decide +kernel), _, rfl, ite2 (fun c => Bool.noConfusion c) (fun _ => ?_)⟩
      refine ⟨_, rfl, _, .ty "str", .type "tuple", .type "str", false, rfl, .ty _, tyX_seqT hb, kit_ty (by decide +kernel), _, rfl, ite2 (fun c => Bool.noConfusion c) (fun _ => ?_)⟩
      refine ⟨_, rfl, _, .ty "tuple", .type "tuple", .type "tuple", true, rfl, .ty _, tyX_seqT hb, kit_ty (by decide +kernel), ?_⟩
      refine ⟨_, rfl, _, .ty "tuple", .type "tuple", .type "tuple", true, rfl, .ty _, tyX_seqT ha, kit_ty (by decide +kernel), rfl, _, rfl, ?_⟩
      refine ite2 (fun c => Bool.noConfusion (show false = true from c)) (fun _ => ?_)
      refine ⟨_, rfl, _, .ty "list", .type "tuple", .type "list", false, rfl, .ty _, tyX_seqT hb, kit_ty (by decide +kernel), ?_⟩
      refine ⟨_, rfl, _, .ty "list", .type "tuple", .type "list", false, rfl, .ty _, tyX_seqT ha, kit_ty (by decide +kernel), rfl, _, rfl, ?_⟩
      refine ite2 (fun c => Bool.noConfusion (show false = true from c)) (fun _ => ?_)
      refine ⟨_, rfl, a, xs, rfl, .inr ha, _, rfl, b, ys, rfl, .inr hb, rfl, _, rfl, ?_⟩
      rw [hlen, decide_eq_true (rfl : V.int (ys.length : Nat) = V.int (ys.length : Nat))]
      refine ite2 (fun c => Bool.noConfusion (show false = true from c)) (fun _ => ?_)
      refine ⟨_, rfl, b, ys, rfl, .inr hb, (ys.length : Nat), rfl, by omega, by omega, ?_⟩
      have en : ((ys.length : Nat) : Int).toNat = ys.length := Int.toNat_natCast _
      rw [en]
      refine for_it (walk_range (lo := 0)) (fun i σ H' => ∃ v, σ = [some (.ref a), some (.ref b), v] ∧ H' = H) ⟨none, rfl, rfl⟩ (fun _ _ _ _ _ => True.intro) ?_ ?_
      · rintro i x σ H1 H1' hi ⟨v, rfl, rfl⟩ ⟨rfl, rfl⟩
        have hx : xs[i]? = some (xs[i]'(by omega)) := List.getElem?_eq_getElem (by omega)
        have hy : ys[i]? = some ys[i] := List.getElem?_eq_getElem hi
        refine ⟨_, rfl, _, rfl, (.inr (.inl ⟨a, xs, _, _, rfl, rfl, ha, at_of (j := i) (by omega) hx, _, rfl, _, rfl, (.inr (.inl ⟨b, ys, _, _, rfl, rfl, hb, at_of (j := i) (by omega) hy, _, _, rfl, m, by omega, e i _ _ hx hy, ?_⟩))⟩))⟩
        refine ⟨_, rfl, ite2 (fun c => Bool.noConfusion (show false = true from c)) (fun _ => ⟨_, rfl, rfl⟩)⟩
      · rintro σ H1 ⟨v, rfl, rfl⟩
        exact k
    | @lst m a b xs ys ha hb hl hlen e =>
      refine ⟨_, rfl, rfl, _, rfl, ?_⟩
      refine ite2 (fun c => nomatch (of_decide_eq_true c)) (fun _ => ?_)
      refine ⟨_, rfl, _, .ty "bool", .type "list", .type "bool", false, rfl, .ty _, tyX_seqL hb, kit_ty (by decide +kernel), _, rfl, ite2 (fun c => Bool.noConfusion c) (fun _ => ?_)⟩
      refine ⟨_, rfl, _, .ty "int", .type "list", .type "int", false, rfl, .ty _, tyX_seqL hb, kit_ty (by decide +kernel), _, rfl, ite2 (fun c => Bool.noConfusion c) (fun _ => ?_)⟩
      refine ⟨_, rfl, _, .ty "str", .type "list", .type "str", false, rfl, .ty _, tyX_seqL hb, kit_ty (by decide +kernel), _, rfl, ite2 (fun c => Bool.noConfusion c) (fun _ => ?_)⟩
      refine ⟨_, rfl, _, .ty "tuple", .type "list", .type "tuple", false, rfl, .ty _, tyX_seqL hb, kit_ty (by decide +kernel), ?_⟩
      refine ⟨_, rfl, _, .ty "tuple", .type "list", .type "tuple", false, rfl, .ty _, tyX_seqL ha, kit_ty (by decide +kernel), rfl, _, rfl, ?_⟩
      refine ite2 (fun c => Bool.noConfusion (show false = true from c)) (fun _ => ?_)
      refine ⟨_, rfl, _, .ty "list", .type "list", .type "list", true, rfl, .ty _, tyX_seqL hb, kit_ty (by decide +kernel), ?_⟩
      refine ⟨_, rfl, _, .ty "list", .type "list", .type "list", true, rfl, .ty _, tyX_seqL ha, kit_ty (by decide +kernel), rfl, _, rfl, ?_⟩
      refine ite2 (fun c => Bool.noConfusion (show false = true from c)) (fun _ => ?_)
      refine ⟨_, rfl, a, xs, rfl, .inl ha, _, rfl, b, ys, rfl, .inl hb, rfl, _, rfl, ?_⟩
      rw [hlen, decide_eq_true (rfl : V.int (ys.length : Nat) = V.int (ys.length : Nat))]
      refine ite2 (fun c => Bool.noConfusion (show false = true from c)) (fun _ => ?_)
      refine ⟨_, rfl, b, ys, rfl, .inl hb, (ys.length : Nat), rfl, by omega, by omega, ?_⟩
      have en : ((ys.length : Nat) : Int).toNat = ys.length := Int.toNat_natCast _
      rw [en]
      refine for_it (walk_range (lo := 0)) (fun i σ H' => ∃ v, σ = [some (.ref a), some (.ref b), v] ∧ H' = H) ⟨none, rfl, rfl⟩ (fun _ _ _ _ _ => True.intro) ?_ ?_
      · rintro i x σ H1 H1' hi ⟨v, rfl, rfl⟩ ⟨rfl, rfl⟩
        have hx : xs[i]? = some (xs[i]'(by omega)) := List.getElem?_eq_getElem (by omega)
        have hy : ys[i]? = some ys[i] := List.getElem?_eq_getElem hi
        refine ⟨_, rfl, _, rfl, (.inl ⟨a, xs, _, _, rfl, rfl, ha, at_of (j := i) (by omega) hx, _, rfl, _, rfl, (.inl ⟨b, ys, _, _, rfl, rfl, hb, at_of (j := i) (by omega) hy, _, _, rfl, m, by omega, e i _ _ hx hy, ?_⟩)⟩)⟩
        refine ⟨_, rfl, ite2 (fun c => Bool.noConfusion (show false = true from c)) (fun _ => ⟨_, rfl, rfl⟩)⟩
      · rintro σ H1 ⟨v, rfl, rfl⟩
        exact k
theorem ok_alike0 (D : Df K mg "_law_alike" s__law_alike P__law_alike) : Fn P w K mg base CX0 1 "_law_alike" P__law_alike (spAlike K 0) := by
  obtain ⟨f, fd, F, hm, hb⟩ := D.ex
  refine ⟨f, fd, ⟨fun vs H Q E h => ?_, fun A outer s H args us vs Q E _ _ _ _ h => ?_⟩, hm, F.kp, hb⟩
  · obtain ⟨x, y, _, m, h, _⟩ := h
    exact absurd h (Nat.not_lt_zero _)
  · obtain ⟨x, y, _, m, h, _⟩ := h
    exact absurd h (Nat.not_lt_zero _)
theorem ok_alike (T : Txt mg) (T4 : Txt4 mg) (D : Df K mg "_law_alike" s__law_alike P__law_alike) : ∀ n, Fn P w K mg base CX0 (1 + n) "_law_alike" P__law_alike (spAlike K n)
  | 0 => ok_alike0 D
  | n + 1 => ok_alikeS T T4 D (ok_alike T T4 D n)
end
end K3

set_option Elab.async false
set_option linter.all false
set_option maxRecDepth 100000
set_option maxHeartbeats 4000000
namespace K3
open PySem PySem.Spec PyProof.Rows L2
section
variable {P : Program} {w : World} {K : PySem.W.Frag} {mg : Str → Option Value} {base : Heap}
abbrev s__law_per : Stmt := top 31
abbrev N__law_per : List Str := ["_law_base_here", "_law_many", "_law_worth"]
abbrev P__law_per : List Str := ["_law_base_here"]
theorem sc__law_per : FnScope N__law_per P__law_per (defScope s__law_per) := ⟨rfl, rfl, rfl, by decide +kernel, rfl, by decide +kernel, by decide +kernel⟩
def worth : L2.St → Nat
  | [_, _, some (.int r)] => (10001 - r).toNat
  | _ => 0
theorem ok_lper (T : Txt mg) (D : Df K mg "_law_per" s__law_per P__law_per) : Fn P w K mg base CX0 1 "_law_per" P__law_per spPer := by
  refine D.ok sc__law_per (fun vs H Q E h => ?_) (fun f cdv A outer s H vs Q E hr h => ?_)
  · obtain ⟨b, rfl, _⟩ := h
    rfl
  · obtain ⟨b, rfl, h2, h1, k⟩ := h
    have nd := sc__law_per.nd
    refine ⟨_, (pss_cons (ps_set (i := 1) nd rfl (by first | exact Or.inl rfl | exact Or.inr rfl) pe_int)
  (pss_cons (ps_set (i := 2) nd rfl (by first | exact Or.inl rfl | exact Or.inr rfl) pe_int)
  (pss_cons (ps_while PassesOwn.never (pt_cmpR op_le (pe_op op_mul (pv 2) (pv 0)) pe_int (nomark _))
  (pss_cons (ps_set (i := 2) nd rfl (by first | exact Or.inl rfl | exact Or.inr rfl) (pe_op op_mul (pv 2) (pv 0)))
  (pss_one (ps_set (i := 1) nd rfl (by first | exact Or.inl rfl | exact Or.inr rfl) (pe_op op_add (pv 1) pe_int)))))
  (pss_one (ps_ret (pv 1)))))), ?_⟩
    refine while_by (fun σ H' => ∃ (m : Nat) (r : Int) (f : Nat), σ = [some (.int b), some (.int m), some (.int r)] ∧ PerAt b m (r * b) f ∧ 0 < r ∧ H' = H) (fun σ _ => worth σ) ⟨0, 1, 14, rfl, by rw [Int.one_mul]; exact .start h2, by decide, rfl⟩ ?_ (fun σ H Q Q' im h => ?_)
    · rintro σ H' ⟨m, r, f, rfl, A, r0, rfl⟩
      refine ⟨_, rfl, _, rfl, _, _, rfl, rfl, .inr (by constructor <;> omega), _, _, rfl, rfl, _, rfl, ?_⟩
      refine ite2 (fun c => ?_) (fun c => ?_)
      · have c' : r * b ≤ 10000 := of_decide_eq_true c
        obtain ⟨f', A'⟩ := A.turn h2 c'
        have p3 : r * 2 ≤ r * b := Int.mul_le_mul_of_nonneg_left h2 (by omega)
        refine ⟨_, rfl, _, rfl, _, _, rfl, rfl, .inr (by constructor <;> omega), _, rfl, _, _, rfl, rfl, ?_⟩
        refine ⟨⟨m + 1, r * b, f', rfl, A', by omega, rfl⟩, ?_⟩
        show (10001 - r * b).toNat < (10001 - r).toNat
        omega
      · have c' : ¬ r * b ≤ 10000 := fun z => c (decide_eq_true z)
        refine ⟨_, rfl, ?_⟩
        rw [A.done c'] at k
        exact k
    · obtain ⟨v, e, v2, e2, i, j, e3, e4, bd, i2, j2, e5, e6, kk, e7, q⟩ := h
      exact ⟨v, e, v2, e2, i, j, e3, e4, bd, i2, j2, e5, e6, kk, e7, im _ _ q⟩
abbrev s__law_packed : Stmt := top 32
abbrev N__law_packed : List Str := ["_law_base_here", "_law_values", "_law_per_here", "_law_found", "_law_begin", "_law_cell", "_law_value"]
abbrev P__law_packed : List Str := ["_law_base_here", "_law_values"]
theorem sc__law_packed : FnScope N__law_packed P__law_packed (defScope s__law_packed) := ⟨rfl, rfl, rfl, by decide +kernel, rfl, by decide +kernel, by decide +kernel⟩
def spLpk (K : PySem.W.Frag) : Sp := fun vs H Q _ => ∃ (b : Int) (a : Addr) (ns : List Int), vs = [.int b, .ref a] ∧ SqL K H a (ns.map V.int) ∧ 2 ≤ b ∧ b ≤ 10000 ∧ ns.length ≤ 1000 ∧
  ∀ (H' : Hp) (p : Addr), Same H H' → H p = none → H' p = some (.tup ((K3.packed b ns).map V.int)) → Q (.ref p) H'
theorem ok_lpacked (T : Txt mg) (D : Df K mg "_law_packed" s__law_packed P__law_packed) (G__law_per : Fn P w K mg base CX0 1 "_law_per" P__law_per spPer) : Fn P w K mg base CX0 2 "_law_packed" P__law_packed (spLpk K) := by
  refine D.ok sc__law_packed (fun vs H Q E h => ?_) (fun f cdv A outer s H vs Q E hr h => ?_)
  · obtain ⟨b, a, ns, rfl, _⟩ := h
    rfl
  · obtain ⟨b, a, ns, rfl, hS, h2, h1, hl, k⟩ := h
    have nd := sc__law_packed.nd
    refine ⟨_, (pss_cons (ps_set (i := 2) nd rfl (by first | exact Or.inl rfl | exact Or.inr rfl) (pe_c G__law_per (hr.mono (by decide)) pass0 (pa_cons (pv 0) pa_nil)))
  (pss_cons (ps_set (i := 3) nd rfl (by first | exact Or.inl rfl | exact Or.inr rfl) (pe_lst pa_nil))
  (pss_cons (ps_for PassesOwn.never rfl (pi_range3 (by rfl) T.b_range (pa_cons pe_int (pa_cons (pe_callB call_len_seq (by rfl) T.b_len (by decide +kernel) (pa_cons (pv 1) pa_nil)) (pa_cons (pv 2) pa_nil)))) (pg_name (i := 4) nd rfl (by first | exact Or.inl rfl | exact Or.inr rfl))
  (pss_cons (ps_set (i := 5) nd rfl (by first | exact Or.inl rfl | exact Or.inr rfl) pe_int)
  (pss_cons (ps_for PassesOwn.never rfl (pi_list (pe_revL (pe_slice sl_list (pv 1) (po_some (pv 4)) (po_some (pe_op op_add (pv 4) (pv 2)))))) (pg_name (i := 6) nd rfl (by first | exact Or.inl rfl | exact Or.inr rfl))
  (pss_one (ps_set (i := 5) nd rfl (by first | exact Or.inl rfl | exact Or.inr rfl) (pe_op op_add (pe_op op_mul (pv 5) (pv 0)) (pv 6)))))
  (pss_one (ps_expr (pe_bm PySem.F.plainAttrs_list PySem.F.slot_list_append PySem.F.type_list_append mt_append (pv 3) (pa_cons (pv 5) pa_nil)))))))
  (pss_one (ps_ret (pe_callTy call_tuple_of (by rfl) T.b_tuple (by decide +kernel) (pa_cons (pv 3) pa_nil))))))), ?_⟩
    have hk := perC_pos h1
    have hkl := perC_le b
    refine ⟨_, rfl, b, rfl, h2, h1, ?_⟩
    refine ⟨(by show 0 ≤ sizeLine; decide), fun p np => ?_⟩
    have sp := Same.upd (o := .lst []) np
    refine ⟨_, rfl, a, _, rfl, .inl (sp.seq hS), _, rfl, _, _, _, cells (perC b) ns.length, rfl, ?_, ?_⟩
    · rw [List.length_map]
      exact rgC_up hk (by omega) (by omega)
    refine for_it walk_rangeC (fun i σ H' => ∃ v4 v5 v6, σ = [some (.int b), some (.ref a), some (.int (perC b : Nat)), some (.ref p), v4, v5, v6] ∧ Same H H' ∧ H' p = some (.lst (((List.range i).map (fun i => val b ((ns.drop (i * perC b)).take (perC b)))).map V.int))) ⟨none, none, none, rfl, sp, upd_same⟩ (fun _ _ _ _ _ => True.intro) ?_ ?_
    · rintro i x σ H2 H3 hi ⟨v4, v5, v6, rfl, s2, hD⟩ ⟨rfl, rfl⟩
      have hc := (cells_lt hk).mp hi
      have e0 : (0 : Int) + (i : Int) * (perC b : Int) = ((i * perC b : Nat) : Int) := by rw [Int.natCast_mul]; omega
      refine ⟨_, rfl, _, rfl, _, rfl, _, rfl, _, rfl, _, _, rfl, rfl, _, rfl, a, _, rfl, s2.seq hS, fun q nq => ?_⟩
      rw [e0, cutV_part, ← List.map_drop, ← List.map_take]
      generalize hsg : (ns.drop (i * perC b)).take (perC b) = seg
      refine ⟨q, seg.map V.int, rfl, SqL.of upd_same, fun q2 nq2 => ?_⟩
      have s3 := ((Same.upd (o := .lst (seg.map V.int)) nq).upd' (o := .lst (seg.map V.int).reverse) nq2)
      refine ⟨q2, rfl, ⟨_, SqL.of upd_same⟩, for_it (walk_list (xs := (seg.map V.int).reverse)) (fun j σ H' => ∃ v6, σ = [some (.int b), some (.ref a), some (.int (perC b : Nat)), some (.ref p), some (.int (0 + (i : Int) * (perC b : Int)))  , some (.int (val b (seg.drop (seg.length - j)))), v6] ∧ H' = upd (upd H3 q (.lst (seg.map V.int))) q2 (.lst (seg.map V.int).reverse)) ⟨v6, by rw [Nat.sub_zero, List.drop_length]; rfl, rfl⟩ (fun _ _ _ _ ⟨_, _, e⟩ => by rw [e]; exact SqL.of upd_same) ?_ ?_⟩
      · rintro j x σ H4 H4' hj ⟨v6, rfl, rfl⟩ ⟨rfl, e⟩
        rw [List.length_reverse, List.length_map] at hj
        rw [← List.map_reverse] at e
        obtain ⟨z, hz, rfl⟩ := map_at e
        rw [List.getElem?_reverse hj] at hz
        refine ⟨_, rfl, _, rfl, _, _, rfl, rfl, .inr (by constructor <;> omega), _, rfl, _, _, rfl, rfl, ?_⟩
        exact ⟨_, by rw [val_step b hj hz]; rfl, rfl⟩
      · rintro σ H4 ⟨v6, rfl, rfl⟩
        rw [List.length_reverse, List.length_map, Nat.sub_self]
        refine ⟨_, rfl, .inl ⟨rfl, _, SqL.of (s3 _ _ hD)⟩, _, rfl, _, _, _, rfl, rfl, s3 _ _ hD, ?_, ?_⟩
        · rw [List.length_map, List.length_map, List.length_range, sizeLine_eq]
          have := cells_le (n := ns.length) hk
          omega
        · refine ⟨_, _, _, rfl, Same.put (s2.trans s3) np, ?_⟩
          rw [upd_same, List.range_succ, List.map_append, List.map_append, ← hsg]
          rfl
    · rintro σ H2 ⟨v4, v5, v6, rfl, s2, hD⟩
      refine ⟨_, rfl, p, _, rfl, .inl ⟨SqL.of hD, fun l nl => ?_⟩⟩
      rw [packed_eq h1]
      exact k _ _ (s2.upd' nl) (s2.free nl) upd_same
end
end K3

set_option Elab.async false
set_option linter.all false
set_option maxRecDepth 100000
set_option maxHeartbeats 4000000
/-! KX: defs called while an exception is handled, isinstance of it, its fields; a lambda handed to a def that tells refusals -/
namespace K3
open PySem PySem.Spec PyProof.Rows L2
/-! ### defs called while an exception is handled: their promise knows which -/
structure FnP (P : Program) (w : World) (K : PySem.W.Frag) (mg : Str → Option Value) (base : Heap) (CX : CXT) (k : Nat) (f : Addr) (fd : FuncData) (ps : List Str) (sp : Addr × Obj → Sp) : Prop where
  len : ∀ p vs H Q E, sp p vs H Q E → vs.length = ps.length
  run : ∀ (A : Around) (outer : List Env) (s : Shared) (H : Hp) (args : Args) (us : List Value) (vs : List V) (Q : VK) (E : XK) (p : Addr × Obj), L2H.RoomH k A → L2H.PinOk outer H s p → Env0 P w K mg base A outer s H → BindsTo s fd args (ps.zip us) → Vals vs us → sp p vs H Q E →
    codeAny (model P w) A (.call (.ref f) args) (CR CX outer P w H s Q E) s
/-- .. by its name -/
structure Fnp (P : Program) (w : World) (K : PySem.W.Frag) (mg : Str → Option Value) (base : Heap) (CX : CXT) (k : Nat) (x : Str) (ps : List Str) (sp : Addr × Obj → Sp) : Prop where
  ex : ∃ (f : Addr) (fd : FuncData), FnP P w K mg base CX k f fd ps sp ∧ mg x = some (.ref f) ∧ PySem.W.keepIn K (.ref f) = true ∧ Binds K fd ps []
section
variable {P : Program} {w : World} {K : PySem.W.Frag} {mg : Str → Option Value} {base : Heap}
theorem Df.okP {CX : CXT} {x : Str} {st : Stmt} {N ps : List Str} {k : Nat} {sp : Addr × Obj → Sp} (D : Df K mg x st ps) (S : FnScope N ps (defScope st)) (len : ∀ p vs H Q E, sp p vs H Q E → vs.length = ps.length)
    (hbody : ∀ (f : Addr) (cdv : Value) (A : Around) (outer : List Env) (s : Shared) (H : Hp) (vs : List V) (Q : VK) (E : XK) (p : Addr × Obj), L2H.RoomH k (A.deeper (envOfC x (defScope st) s.heap.objs.size f cdv)) → sp p vs H Q E →
      ∃ t, PSs (L2H.cxH CX P w K mg base N x (defScope st) f cdv A outer s H E p) (defBody st) t ∧ t { nx := fun _ H' => Q .non H', rt := Q } (start N vs) H) : Fnp P w K mg base CX (k + 1) x ps sp := by
  obtain ⟨f, fd, F, hm, hb⟩ := D.ex
  refine ⟨f, fd, ⟨len, fun A outer s H args us vs Q E p hr hpin e0 hbt r hsp => ?_⟩, hm, F.kp, hb⟩
  obtain ⟨oc, od, dV, kV, doc, pm, an, cdv, ct, osl, rfl, lk, hcd, _, _⟩ := F.ex
  have hl := len _ _ _ _ _ hsp
  have KX : K.In s.heap := e0.mod.kin.keeps fun b o e => (e0.bs b o e).1
  have lim : s.heap.NoLimit := e0.mod.nolimit.keeps fun b o e => (e0.bs b o e).1
  have hkind : ∀ y ∈ ps.zip us, (defScope st).names.lookup y.1 = some .local ∨ ((defScope st).names.lookup y.1 = some .cell ∧ ((cellsFrom (s.heap.objs.size + 1) (defScope st).names []).lookup y.1).isSome = true) := fun ⟨n, v⟩ hy => by
    rcases S.par n (List.of_mem_zip hy).1 with q | q
    · exact .inl q
    · exact .inr ⟨q, PySem.W.cellsFrom_some _ _ _ (.inl q)⟩
  refine codeAny_call_function hr.depth (KX _ _ lk) rfl S.co S.gen rfl (PySem.W.codeRec_of KX hcd) (hbt _ _ _ _ ?_)
  refine wpAny_newFunctionEnv_cells S.kind hkind fun env he s1 xc => ?_
  subst he
  refine ⟨lim.keeps xc.toInCall.keep, codeAny_func ?_⟩
  obtain ⟨t, ht, hq⟩ := hbody f cdv A outer s H vs Q E p (hr.deeper _) hsp
  have I : Inv (L2H.cxH CX P w K mg base N x (defScope st) f cdv A outer s H E p) [] (L2.start N vs) H s1 := L2H.inv_startH S hpin e0 hl r xc
  refine wpAny_mono (ht.run [] s1 (L2.start N vs) H _ I hq) (fun fl s' hs => ?_) fun e s' hs => hs
  have fin : ∀ {σ' : L2.St} {H' : Hp} {v : V} {u : Value}, Inv (L2H.cxH CX P w K mg base N x (defScope st) f cdv A outer s H E p) [] σ' H' s' → RelV v u → Q v H' → CE outer P w H s Q u s' :=
    fun {σ' H' v u} J rv q => ⟨v, H', J.os, J.bare, J.base, J.hok, rv, q⟩
  cases fl with
  | ret u =>
    obtain ⟨v, σ', H', J, rv, q⟩ := hs
    exact fin J rv q
  | next =>
    obtain ⟨σ', H', J, q⟩ := hs
    exact fin (v := V.non) (u := Value.none) J rfl q
  | brk =>
    obtain ⟨_, _, _, q⟩ := hs
    exact False.elim q
  | cont =>
    obtain ⟨_, _, _, q⟩ := hs
    exact False.elim q
end
section
variable {X : Cx} {CX : CXT} {k : Nat} {ps : List Str} {sp : Addr × Obj → Sp} {E : L2.St → XK} {x : Str} {q pos : Pos} {e : Expr} {es : List Expr} {t : TA} {p : Addr × Obj}
/-- a call of such a def, where p is pinned -/
theorem pe_cP (F : Fnp X.prog X.w X.K X.mg X.base CX k x ps sp) (hr : L2H.RoomH k X.A) (hp : p ∈ X.pn) (hx : ∀ σ, PassesAt CX X σ (E σ)) (ha : PA X (e :: es) t) (hg : Gl X x := by rfl)
    (hdb : (x == ("__debug__" : Str)) = false := by decide) (he : starEach (e :: es) X.env = (false, eval e X.env) :: starEach es X.env := by rfl) (hpl : (backTo pos (starEach es X.env)).any (·.1) = false := by rfl) :
    PE X (.Call (.Name x q) (e :: es) [] pos) (tCallS (sp p) E t) := by
  obtain ⟨f, fd, G, hm, hk, hb⟩ := F.ex
  refine ⟨fun pins s σ H Q I h => ?_⟩
  refine wpAny_Call_Name_kw (ld_glob I hg hm ?_ hdb)
  refine PySem.W.callWith_K (h₀ := X.base) I.ok.mod.kin hk (thn (ha.run pos pins s σ H _ I h) fun us s1 ⟨vs, H1, I1, r, hq⟩ => ⟨I1.kIn, ?_⟩) he hpl
  have hl : us.length = ps.length := by rw [← r.length]; exact G.len _ _ _ _ _ hq
  have b := hb s1 us I1.kIn (by rw [List.append_nil]; exact hl)
  rw [List.append_nil] at b
  have P1 := I1.pin p (List.mem_append_left _ hp)
  have hpin : L2H.PinOk X.stack H1 s1 p := ⟨P1.1, P1.2.1, fun hm => (List.mem_cons.mp (I1.stkSub p.1 hm)).elim P1.2.2.1 P1.2.2.2.1, P1.2.2.2.2⟩
  refine wpAny_call (codeAny_mono (G.run X.A X.stack s1 H1 ⟨us, []⟩ us vs Q (E σ) p hr hpin I1.env0 b r hq) fun r s' hq => ?_)
  cases r with
  | error e => exact hx σ pins H1 s1 e s' I1 hq
  | ok fl =>
    cases fl with
    | ret u => exact I1.after hq
    | next => exact False.elim hq
    | brk => exact False.elim hq
    | cont => exact False.elim hq
end
/-! ### isinstance(e, c), e pinned -/
def rIsP (K : PySem.W.Frag) (D a : Addr) (d : Option Addr) : List V → Hp → VK → Prop := fun xs H Q => ∃ (c : V) (cv : Value) (b : Bool), xs = [.ref a, c] ∧ (∀ u, RelV c u → u = cv) ∧ PySem.W.kitOne K (.ref D) cv = some b ∧ (∀ dd, d = some dd → ∃ fs, H dd = some (.xd fs)) ∧ Q (.bl b) H
theorem call_isP {X : Cx} {a D : Addr} {oe : Obj} {d : Option Addr} (hp : (a, oe) ∈ X.pn) (C : L2.ExcC X.K D) (hz : Zc (.ref D) d oe) (hf : ∃ vs, oe.data = .fields vs) : CallR X (.builtin "isinstance") (rIsP X.K D a d) := by
  intro pins s σ H xs us Q I r h
  obtain ⟨c, cv, b, rfl, hcv, e, hd, q⟩ := h
  cases r with
  | cons rx rr =>
    cases rr with
    | cons rt rr =>
      cases rr
      cases rx
      have ec := hcv _ rt
      subst ec
      obtain ⟨hget, _⟩ := I.pin (a, oe) (List.mem_append.mpr (.inl hp))
      obtain ⟨vs, hv⟩ := hf
      have J : ∃ od, PySem.W.InstAt s.heap a oe D od := by
        obtain ⟨oc, odd, oda, osl⟩ := oe
        obtain ⟨h1, h2⟩ := hz
        dsimp only at h1 h2 hv
        subst h1 h2 hv
        cases odd with
        | none => exact ⟨none, hget, rfl, rfl, trivial⟩
        | some dd =>
          obtain ⟨fs, hfs⟩ := hd dd rfl
          have hx : ObjOk X.prog X.w H s.heap dd (.xd fs) := I.hok dd _ hfs
          obtain ⟨mA, hns, hr⟩ := hx
          obtain ⟨o, ho, _⟩ := lookIn_ns hns
          exact ⟨some o, hget, rfl, rfl, ho⟩
      obtain ⟨od, J⟩ := J
      have hcl : (PySem.W.clsIn X.K D).isSome = true := by
        obtain ⟨cd, hc, _⟩ := PySem.W.any_some C.hd
        rw [hc]
        rfl
      exact PySem.W.kia_one (PySem.W.kitx_exc (od := od) hcl C.hg C.hk C.hs C.ha C.hn C.ht C.hm) I.kIn J e (fun z => nomatch z) fun tk => ⟨.bl b, H, I.kept (t' := tk) fun _ _ z => z, rfl, q⟩
/-! ### list.count of flat values -/
def rCntV (K : PySem.W.Frag) : V → List V → Hp → VK → Prop := fun x xs H Q => ∃ (p : Addr) (ys : List V) (y : V), x = .ref p ∧ xs = [y] ∧ SqL K H p ys ∧ flatV y = true ∧ ys.all flatV = true ∧ Q (.int ((ys.countP fun z => eqV z y : Nat) : Int)) H
theorem countV {y : V} : ∀ {ys : List V} {us : List Value}, Vals ys us → ys.all flatV = true → us.countP (eqU y) = ys.countP fun z => eqV z y
  | _, _, .nil, _ => rfl
  | z :: ys, u :: us, .cons r t, f => by
    rw [List.all_cons, Bool.and_eq_true] at f
    have ih := countV (y := y) t f.2
    rw [List.countP_cons, List.countP_cons, ih, eqU_of r f.1]
theorem mt_lcountV {X : Cx} : MtR X "list.count" (rCntV X.K) := by
  intro pins s σ H x xs v us Q I rx rxs h
  obtain ⟨p, ys, y, rfl, rfl, hs, fy, fys, q⟩ := h
  cases rx
  cases rxs with
  | cons ry rt =>
    rename_i uy ut
    cases rt
    obtain ⟨its, rv, ⟨⟨cls, dd, data, sl⟩, n, ho, hc, hdn, hd⟩, hlen⟩ := I.list hs
    simp only at hc hd
    subst hc hd
    refine call_meets PySem.F.slot_list_count ⟨_, ho, rfl⟩ PySem.F.entry_list_count (PySem.F.args_list_count_2 _ _)
      (SeqAt.list_countAt p its.toArray n dd sl uy (eqU y)) ⟨ho, fun u hu => mem_eqAt ry fy rv fys u (by simpa using hu), ?_⟩
    have ec : its.toArray.toList.countP (eqU y) = ys.countP fun z => eqV z y := countV rv fys
    refine ⟨.int ((ys.countP fun z => eqV z y : Nat) : Int), H, I.tok _, ⟨s.toks, ?_⟩, q⟩
    show Value.int ((its.toArray.toList.countP (eqU y) : Nat) : Int) s.toks = Value.int ((ys.countP fun z => eqV z y : Nat) : Int) s.toks
    rw [ec]
/-! ### e.f in an except suite, whichever class it is -/
def tXfA (K : PySem.W.Frag) (a : Addr) (cls : Value) (d : Option Addr) (f : Str) (te : TE) : TE := fun σ H Q => te σ H fun x H1 => x = .ref a ∧ ∃ (C dd : Addr) (fs : List (Str × V)) (v : V), XfC K C ∧ PySem.W.findIn K (.ref C) f = some none ∧ cls = .ref C ∧ d = some dd ∧ H1 dd = some (.xd fs) ∧ fs.lookup f = some v ∧ Q v H1
theorem pe_xfA {X : Cx} {a : Addr} {oe : Obj} {cls : Value} {d : Option Addr} {pn : List (Addr × Obj)} {e : Expr} {te : TE} {pos : Pos} {n : Str}
    (hz : Zc cls d oe) (hf : ∃ vs, oe.data = .fields vs) (he : PE (X.suite a ((a, oe) :: pn)) e te) (hb : attributeBase e n X.env (eval e X.env) = eval e X.env := by rfl) :
    PE (X.suite a ((a, oe) :: pn)) (.Attribute e n pos) (tXfA X.K a cls d n te) := by
  refine ⟨fun pins s σ H Q I h => ?_⟩
  refine attr_of hb (thn (he.run pins s σ H _ I h) fun u s1 hh => ?_)
  obtain ⟨x, H1, I1, rx, ex, C, dd, fs, v, T, hno, ec, ed, ea, l, q⟩ := hh
  subst ex
  obtain rfl : u = Value.ref a := rx
  subst ec
  subst ed
  obtain ⟨ha, _⟩ := I1.pin (a, oe) (List.mem_append_left _ List.mem_cons_self)
  obtain ⟨vs, hd⟩ := hf
  have hx : ObjOk X.prog X.w H1 s1.heap dd (.xd fs) := I1.hok dd _ ea
  obtain ⟨mA, hns, hr⟩ := hx
  obtain ⟨od, ho, hl⟩ := lookIn_ns hns
  obtain ⟨u, hu, ru⟩ := RelO.some_of (v := v) (o := mA n) (by rw [← l]; exact hr n)
  have J : PySem.W.InstAt s1.heap a oe C (some od) := ⟨ha, hz.1, by unfold PySem.W.notCls; rw [hd] <;> rfl, by rw [hz.2]; exact ho⟩
  exact HandSPX.exc_get I1.kIn J T.ga T.gg T.exC (PySem.W.findObj_own T.hdC hno rfl (by rw [hl, hu])) (handed_of ru) ⟨v, H1, I1.tok _, ru, q⟩
/-! ### x(lambda: body), x a def that calls what it got -/
section
variable {X : Cx} {pins : List (Addr × Obj)} {σ : L2.St} {H HZ : Hp} {s s1 : Shared}
/-- x(), in the def that got the lambda; what it lets out is what is wished at the slots there -/
theorem pe_actS {CXg : CXT} {Eg : XK} {Ng : List Str} {qg : Str} {sg : Scope} {g f c' : Addr} {cdg pm ctv : Value} {params : Arguments} {body : Expr} {scope : Scope} {k i : Nat} {a : Str} {pn : List (Addr × Obj)} {xe : Value → Shared → Prop} {W : WX} {tb : XK → TE} {p1 p2 : Pos}
    (I : Inv X pins σ H s) (L : LamX.LamS X.env.scope scope) (hf : s.heap.get? f = some (PySem.W.kla_obj "<lambda>" (X.env.qual ++ "<lambda>") params body scope (cloFrom X.env.cells scope.names []) pm c' ctv)) (hfn : H f = none) (hfr : f ∉ frs X.stack)
    (hbind : bindArgs (PySem.W.kla_fn "<lambda>" (X.env.qual ++ "<lambda>") params body scope (cloFrom X.env.cells scope.names []) pm (.ref c') ctv) ⟨[], []⟩ = pure [])
    (tk : Takes ((cxOf CXg X.prog X.w X.K X.mg X.base Ng qg sg g cdg X.A X.stack s H Eg).tr pn xe) W) (hr : Room (k + 1) (X.A.deeper (envOfC qg sg s.heap.objs.size g cdg)))
    (hbody : ∀ (A : Around) (outer : List Env) (s : Shared) (H : Hp) (E : XK), Room k (A.deeper (LamX.lamEnv X scope s.heap.objs.size f c')) → PE (LamX.lamCx X A outer s H E scope f c') body (tb E))
    (hN : Ng[i]? = some a) (hv : Vis sg a) (hd : (a == ("__debug__" : Str)) = false := by decide) (hcd : (a == ("__classdict__" : Str)) = false := by decide) :
    PE ((cxOf CXg X.prog X.w X.K X.mg X.base Ng qg sg g cdg X.A X.stack s H Eg).tr pn xe) (.Call (.Name a p1) [] [] p2)
      (fun σZ HZ Q => σZ[i]? = some (some (.ref f)) ∧ HZ c' = some (LamX.CodeO c' (X.env.qual ++ "<lambda>")) ∧ tb (WE W σZ) σ HZ Q) := by
  refine ⟨fun pinsZ sZ σZ HZ Q IZ h => ?_⟩
  obtain ⟨hs, hc, ht⟩ := h
  refine wpAny_Call_Name_kw (thn ((pe_var (pos := p1) (i := i) hN hv hd hcd).run pinsZ sZ σZ HZ (fun v H1 => v = .ref f ∧ H1 = HZ) IZ ⟨.ref f, hs, rfl, rfl⟩) fun u s1 ⟨v, H1, I1, r1, q1⟩ => ?_)
  obtain ⟨ev, eH⟩ := q1
  subst ev
  rw [eH] at I1
  obtain rfl : u = Value.ref f := r1
  have of1 : s1.heap.get? f = some (PySem.W.kla_obj "<lambda>" (X.env.qual ++ "<lambda>") params body scope (cloFrom X.env.cells scope.names []) pm c' ctv) := I1.base.keep f _ hf hfn hfr (fun z => nomatch (show f ∈ ([] : List Addr) from z))
  refine PySem.W.callWith_F0 ⟨_, _, _, _, of1⟩ ?_
  have un : Un (frs X.stack) [] H HZ s.heap s1.heap := I1.base
  obtain ⟨⟨oc, vs, t, hoc, hdc, hvc⟩, _, _⟩ := I1.hok c' _ hc
  have rc : codeAny (model X.prog X.w) (X.A.deeper (envOfC qg sg s.heap.objs.size g cdg)) (.call (.ref f) ⟨[], []⟩) (CR (L2.CX X.prog X.w) (envOfC qg sg s.heap.objs.size g cdg :: X.stack) X.prog X.w HZ s1 Q (WE W σZ)) s1 := by
    refine PySem.W.kla_callFunE hr.depth of1 rfl L.co L.gen rfl ⟨c', oc, vs, t, rfl, hoc, hdc, hvc⟩ ?_
    rw [hbind]
    refine wpAny_pure (wpAny_newFunctionEnv (fun y hy => (L.own y hy).2) (fun y hy => absurd hy (by simp)) (fun h₁ hns hsb => ⟨I1.nolimit.fresh _ hsb, ?_⟩) L.kind)
    show codeAny _ _ (.expr body (LamX.lamEnv X scope s1.heap.objs.size f c')) _ _
    have kp : ∀ b o, s1.heap.get? b = some o → h₁.get? b = some o := fun b o e => hsb.extBut b o (Nat.ne_of_lt (Heap.lt_size e)) (Heap.get?_push_of_some _ e)
    have J : Inv (LamX.lamCx X (X.A.deeper (envOfC qg sg s.heap.objs.size g cdg)) (envOfC qg sg s.heap.objs.size g cdg :: X.stack) s1 HZ (WE W σZ) scope f c') [] σ HZ { s1 with heap := h₁, toks := s1.toks + ([] : List (Str × Value)).length } :=
      LamX.lam_start2 I L I1.env0 hr.hd un hns kp
    refine PySem.W.kla_codeExpr (wpAny_mono ((hbody _ _ s1 HZ (WE W σZ) (hr.deeper _)).run [] _ _ HZ Q J ht) (fun v s' hq => ?_) fun e s' hq => hq)
    obtain ⟨w', H', J', rv, q⟩ := hq
    exact ⟨w', H', J'.os, J'.bare, J'.base, J'.hok, rv, q⟩
  have hx : PassesAt (L2.CX X.prog X.w) ((cxOf CXg X.prog X.w X.K X.mg X.base Ng qg sg g cdg X.A X.stack s H Eg).tr pn xe) σZ (WE W σZ) := passAt tk σZ
  refine wpAny_call (codeAny_mono rc fun r s' hq => ?_)
  cases r with
  | error e => exact hx pinsZ HZ s1 e s' I1 hq
  | ok fl =>
    cases fl with
    | ret u => exact I1.after hq
    | next => exact False.elim hq
    | brk => exact False.elim hq
    | cont => exact False.elim hq
end

def GivesR (X : Cx) (Ng : List Str) (x : Str) (sg : Scope) (g : Addr) (cdg : Value) (bg : List Stmt) (a : Str) (q : Str) (k : Nat) (TT : (XK → Hp → VK → Prop) → Hp → VK → Prop) : Prop :=
  ∀ (f c' : Addr) (s : Shared) (H : Hp) (Q : VK) (tl : XK → Hp → VK → Prop), Room k (X.A.deeper (envOfC x sg s.heap.objs.size g cdg)) →
    (∀ (W : WX) (pn : List (Addr × Obj)) (xe : Value → Shared → Prop) (p1 p2 : Pos), Takes ((cxOf C8.CX0 X.prog X.w X.K X.mg X.base Ng x sg g cdg X.A X.stack s H C8.E0).tr pn xe) W →
      PE ((cxOf C8.CX0 X.prog X.w X.K X.mg X.base Ng x sg g cdg X.A X.stack s H C8.E0).tr pn xe) (.Call (.Name a p1) [] [] p2) (fun σZ HZ Q => σZ[0]? = some (some (.ref f)) ∧ HZ c' = some (LamX.CodeO c' q) ∧ tl (WE W σZ) HZ Q)) →
    H c' = some (LamX.CodeO c' q) → TT tl H Q →
    ∃ t, PSs (cxOf C8.CX0 X.prog X.w X.K X.mg X.base Ng x sg g cdg X.A X.stack s H C8.E0).nox bg t ∧ t { nx := fun _ H' => Q .non H', rt := Q } (L2.start Ng [.ref f]) H
section
variable {X : Cx}
theorem pe_lamR {T : List (Addr × Str)} {TT : (XK → Hp → VK → Prop) → Hp → VK → Prop} {x a : Str} {g c P : Addr} {k : Nat} {pg : Arguments} {bg : List Stmt} {sg : Scope} {dV kV doc pm cdv ct oc : Value} {an od : Option Addr} {osl : Array (Option Value)} {Ng : List Str}
    {params : Arguments} {body : Expr} {scope : Scope} {t : XK → TE} {p lpos pos : Pos} (hg : Gl X x) (hm : X.mg x = some (.ref g)) (hk : PySem.W.keepIn X.K (.ref g) = true)
    (lk : X.K.lookup g = some ⟨oc, od, .func (PySem.W.fnOf x x pg bg sg dV kV doc pm an cdv ct), osl⟩) (hcg : PySem.W.codeIn X.K cdv x = true) (hb : L2.Binds X.K (PySem.W.fnOf x x pg bg sg dV kV doc pm an cdv ct) [a] []) (Sg : FnScope Ng [a] sg) (hNg : Ng[0]? = some a) (hva : Vis sg a)
    (hG : GivesR X Ng x sg g cdv bg a (X.env.qual ++ "<lambda>") (k + 1) TT)
    (TB : LamX.TabB X.base X.mg c P) (hcode : X.env.code = .ref c) (hmT : (P, X.env.qual ++ "<lambda>") ∈ T) (hu : ∀ p ∈ T, p.1 = P → p.2 = X.env.qual ++ "<lambda>") (hr : Room (k + 2) X.A) (L : LamX.LamS X.env.scope scope) (hdef : defaultsOf params X.env = ([], []))
    (hbind : ∀ (q : Str) (cl : List (Str × Addr)) (pm cv ctv : Value), bindArgs (PySem.W.kla_fn "<lambda>" q params body scope cl pm cv ctv) ⟨[], []⟩ = pure [])
    (hbody : ∀ (A : Around) (outer : List Env) (s : Shared) (H : Hp) (E : XK) (f c' : Addr), Room k (A.deeper (LamX.lamEnv X scope s.heap.objs.size f c')) → PE (LamX.lamCx X A outer s H E scope f c') body (t E))
    (hdb : (x == ("__debug__" : Str)) = false := by decide) (hd : (a == ("__debug__" : Str)) = false := by decide) (hcd : (a == ("__classdict__" : Str)) = false := by decide) :
    PE X (.Call (.Name x p) [.Lambda params body scope lpos] [] pos) (LamX.tLam T TT t) := by
  refine ⟨fun pins s σ H Q I h => ?_⟩
  obtain ⟨hT, h⟩ := h
  refine wpAny_Call_Name_kw (ld_glob I hg hm ?_ hdb)
  refine PySem.W.callWith_K (h₀ := X.base) I.ok.mod.kin hk ?_ (by rfl) (by rfl)
  show wpAny _ _ (spliced ((false, eval (.Lambda params body scope lpos) X.env) :: backTo pos (starEach [] X.env))) _ _ s
  refine Calls.spliced_cons (LamX.lam_make2 I TB hcode hmT hu hT hdef (L.has I.ok) fun f c' pm' ctv H1 s' I1 eN T1 hf hfn hfr hco => ?_)
  refine Calls.spliced_nil ⟨I1.kIn, ?_⟩
  have rc : codeAny (model X.prog X.w) X.A (.call (.ref g) ⟨[.ref f], []⟩) (CR C8.CX0 X.stack X.prog X.w H1 s' Q C8.E0) s' := by
    refine LamX.run_ofS (N := Ng) (ps := [a]) (us := [.ref f]) (vs := [.ref f]) lk hcg Sg hr I1.env0 (hb s' [.ref f] I1.kIn rfl) (.cons rfl .nil) rfl fun hr' => ?_
    obtain ⟨t', ht', hq'⟩ := hG f c' s' H1 Q (fun E H' Q' => t E σ H' Q') hr' (fun W pn xe p1 p2 tk => pe_actS (i := 0) I1 L hf hfn hfr (hbind _ _ _ _ _) tk hr' (fun A outer s H E hr2 => hbody A outer s H E f c' hr2) hNg hva hd hcd) hco (h H1 eN T1)
    exact ⟨t', ht'.nox, hq'⟩
  refine wpAny_call (codeAny_mono rc fun r s2 hq => ?_)
  cases r with
  | error e => exact (show False from hq).elim
  | ok fl =>
    cases fl with
    | ret u => exact I1.after hq
    | next => exact False.elim hq
    | brk => exact False.elim hq
    | cont => exact False.elim hq
end
/-! ### texts of refusals -/
theorem int_log {i : Int} (h : i.natAbs < 2 ^ 64) : i.natAbs.log2 < 1920 := by
  by_cases z : i.natAbs = 0
  · rw [z]
    decide
  · have := (Nat.log2_lt z).mpr h
    omega
theorem int_len {i : Int} (h : i.natAbs < 2 ^ 64) : (Str.ofString (toString i)).length ≤ 1921 := PyProof.Rows.int_text_len_1921 (int_log h)
theorem str_add {a b : Str} {n m : Nat} (ha : a.length ≤ n) (hb : b.length ≤ m) : (a ++ b).length ≤ n + m := by
  rw [PySem.Str.length_append]
  omega
theorem str_fits {a : Str} {n : Nat} (h : a.length ≤ n) (hn : n ≤ 100000) : a.length ≤ sizeLine := by
  rw [sizeLine_eq]
  omega
/-! ### tables of code objects -/
theorem tabs_to {T : List (Addr × Str)} {H H' : Hp} (t : LamX.Tabs T H) (e : ∀ b o, H b = some o → ((∃ ps, o = .tbl ps) ∨ ∃ c q, o = LamX.CodeO c q) → H' b = some o) : LamX.Tabs T H' := fun p hp => by
  obtain ⟨ps, h1, h2, h3⟩ := t p hp
  refine ⟨ps, e _ _ h1 (.inl ⟨ps, rfl⟩), h2, fun pos cv hc => ?_⟩
  obtain ⟨c, e1, e2⟩ := h3 pos cv hc
  exact ⟨c, e1, e _ _ e2 (.inr ⟨c, p.2, rfl⟩)⟩
theorem tabs_put {T : List (Addr × Str)} {H : Hp} {p : Addr} {o0 o : HO} (t : LamX.Tabs T H) (h : H p = some o0) (n1 : ∀ ps, HO.tbl ps ≠ o0) (n2 : ∀ c q, LamX.CodeO c q ≠ o0) : LamX.Tabs T (upd H p o) := tabs_to t fun b u e k => by
  rw [upd_ne fun z => ?_]
  · exact e
  · rw [z, h] at e
    have e2 := Option.some.inj e
    rcases k with ⟨ps, z2⟩ | ⟨c, q, z2⟩
    · exact n1 ps (z2.symm.trans e2.symm)
    · exact n2 c q (z2.symm.trans e2.symm)
theorem code_lst {c : Addr} {q : Str} {xs : List V} : LamX.CodeO c q ≠ .lst xs := fun z => by
  unfold LamX.CodeO at z
  cases z
theorem code_dK {c : Addr} {q : Str} {kvs : List (Key × V)} : LamX.CodeO c q ≠ .dK kvs := fun z => by
  unfold LamX.CodeO at z
  cases z
theorem code_ins {c C : Addr} {q : Str} {dx : Addr} {fs : List (Str × V)} : LamX.CodeO c q ≠ .ins C dx fs := fun z => by
  unfold LamX.CodeO at z
  cases z
theorem tabs_same {T : List (Addr × Str)} {H H' : Hp} (t : LamX.Tabs T H) (s : Same H H') : LamX.Tabs T H' := t.ext s
theorem extN_same {H H' : Hp} (s : Same H H') : LamX.ExtN H H' := .of s
theorem _root_.LamX.ExtN.lst {H H' : Hp} (e : LamX.ExtN H H') {p : Addr} {xs : List V} (h : H p = some (.lst xs)) : H' p = some (.lst xs) := e _ _ h fun _ z => by cases z
theorem _root_.LamX.ExtN.seqT {K : PySem.W.Frag} {H H' : Hp} {a : Addr} {xs : List V} (e : LamX.ExtN H H') (h : SqT K H a xs) : SqT K H' a xs := by
  rcases h with (h | ⟨o, h⟩) | h
  · exact .inl (.inl (e _ _ h fun _ z => by cases z))
  · exact .inl (.inr ⟨o, e _ _ h fun _ z => by cases z⟩)
  · exact .inr h
theorem _root_.LamX.ExtN.seqL {K : PySem.W.Frag} {H H' : Hp} {a : Addr} {xs : List V} (e : LamX.ExtN H H') (h : SqL K H a xs) : SqL K H' a xs := by
  rcases h with (h | ⟨o, h⟩) | h
  · exact .inl (.inl (e _ _ h fun _ z => by cases z))
  · exact .inl (.inr ⟨o, e _ _ h fun _ z => by cases z⟩)
  · exact .inr h
section
variable {P : Program} {w : World} {K : PySem.W.Frag} {mg : Str → Option Value} {base : Heap}
/-- THE RULE for a def whose code object is at c -/
theorem okT {x : Str} {st : Stmt} {N ps : List Str} {k : Nat} {sp : Sp} {f c : Addr} {fd : FuncData} (F : FunD K x x (defArgs st) (defBody st) (defScope st) [] [] f fd) (hc : fd.code = .ref c) (S : FnScope N ps (defScope st)) (len : ∀ vs H Q E, sp vs H Q E → vs.length = ps.length)
    (hbody : ∀ (A : Around) (outer : List Env) (s : Shared) (H : Hp) (vs : List V) (Q : VK) (E : XK), Room k (A.deeper (envOfC x (defScope st) s.heap.objs.size f (.ref c))) → sp vs H Q E →
      ∃ t, PSs (cxOf CX0 P w K mg base N x (defScope st) f (.ref c) A outer s H E).nox (defBody st) t ∧ t { nx := fun _ H' => Q .non H', rt := Q } (start N vs) H) : FnOk P w K mg base CX0 (k + 1) f fd ps sp := by
  obtain ⟨oc, od, dV, kV, doc, pm, an, cdv, ct, osl, rfl, lk, hcd, _, _⟩ := F.ex
  have e : cdv = .ref c := hc
  subst e
  exact fn_of lk hcd S len fun A outer s H vs Q E hr hsp => by
    obtain ⟨t, h, q⟩ := hbody A outer s H vs Q E hr hsp
    exact ⟨t, h.nox, q⟩
end
/-- the end of a law with tables, the written part given by F -/
theorem walk_ofTE {l : PySem.W.OpenLaw} {n k : Nat} {q : Program} {loose : List Str} {XP : (Str → Option Value) → Heap → Prop} {YP : World → Heap → Prop} {d : DefRec} {CX : World → CXT} {x : Str}
    (hn : l.most = some n) (hn2 : n ≤ sizeLine) (hdf : d.params.defaults = []) (hr : Room k callerA)
    (F : ∀ (w : World) (mg : Str → Option Value) (fa : Addr) (h : Heap), YP w h → h.Ns mainGlobals mg → mg d.name = some (.ref fa) → ∃ K : PySem.W.Frag, K.In h ∧ LamX.LawAtS l w K (CX w) k n x mg fa h)
    (hCX : ∀ (w : World) (H : Hp) (s : Shared) (e : Value) (s' : Shared), CX w [] H s (fun _ _ _ => False) e s' → False) :
    PySem.W.WalkO q loose XP YP l.row.toRowW d [] (fun f vs => PySem.call f vs) := by
  refine Att.attach_callB hn hdf fun w s₀ s₁ mg mb fa o pm cd doc a vs ns G Y ho hd hcd hmg hobj hints hlen hbits hg => ?_
  obtain ⟨K, KX, fd, cs, sp, hT, nT, C, hb, hsp, hF⟩ := F w mg fa _ Y G.T.g hmg
  exact LamX.law_callTs KX G.T.g G.T.b G.T.builtins G.T.nolimit hg hT nT C G.T.bmain hobj hints (Nat.le_trans hlen hn2) hr hF hb (fun H hH hS => hsp H a ns hlen hbits hH hS) fun H e s' => hCX w H s₁ e s'
theorem tabs_start {cs : List (Addr × Addr)} {T : List (Addr × Str)} {H : Hp} (hT : ∀ p ∈ cs, H p.2 = some (.tbl #[])) (hs : ∀ q ∈ T, ∃ p ∈ cs, p.2 = q.1) : LamX.Tabs T H := fun q hq => by
  obtain ⟨p, hp, e⟩ := hs q hq
  exact LamX.TabS.nil (e ▸ hT p hp)
end K3

set_option Elab.async false
set_option linter.all false
set_option maxRecDepth 100000
set_option maxHeartbeats 4000000
/-! KL: lambdas as values: kept in lists, handed to defs, called there; some with a default -/
namespace K3
open PySem PySem.Spec PyProof.Rows L2
/-- a lambda's object -/
def LamO (f : Addr) (q : Str) (params : Arguments) (body : Expr) (scope : Scope) (clos : List (Str × Addr)) (dV : Value) (c' : Addr) : HO := .ext fun h => ∃ doc pm ctv : Value, h.get? f = some (PySem.W.kdv_obj "<lambda>" q params (.expr body) scope clos dV doc pm c' ctv)
/-- .. made in the context X, its code object at c', its defaults dvs -/
def LamAt (X : Cx) (H : Hp) (f c' : Addr) (params : Arguments) (body : Expr) (scope : Scope) (dvs : List V) : Prop :=
  ∃ dV : Value, H f = some (LamO f (X.env.qual ++ "<lambda>") params body scope (cloFrom X.env.cells scope.names []) dV c') ∧ H c' = some (LamX.CodeO c' (X.env.qual ++ "<lambda>")) ∧ ((dvs = [] ∧ dV = .none) ∨ (dvs ≠ [] ∧ ∃ t, dV = .ref t ∧ H t = some (.tup dvs)))
theorem LamAt.same {X : Cx} {H H' : Hp} {f c' : Addr} {params : Arguments} {body : Expr} {scope : Scope} {dvs : List V} (h : LamAt X H f c' params body scope dvs) (s : Same H H') : LamAt X H' f c' params body scope dvs := by
  obtain ⟨dV, h1, h2, h3⟩ := h
  refine ⟨dV, s _ _ h1, s _ _ h2, ?_⟩
  rcases h3 with z | ⟨z, t, e, ht⟩
  · exact .inl z
  · exact .inr ⟨z, t, e, s _ _ ht⟩
theorem lamO_ne {f c' : Addr} {q : Str} {params : Arguments} {body : Expr} {scope : Scope} {clos : List (Str × Addr)} {dV : Value} (ps : Array Value) : LamO f q params body scope clos dV c' ≠ .tbl ps := fun z => by
  unfold LamO at z
  cases z
theorem LamAt.extN {X : Cx} {H H' : Hp} {f c' : Addr} {params : Arguments} {body : Expr} {scope : Scope} {dvs : List V} (h : LamAt X H f c' params body scope dvs) (s : LamX.ExtN H H') : LamAt X H' f c' params body scope dvs := by
  obtain ⟨dV, h1, h2, h3⟩ := h
  refine ⟨dV, s _ _ h1 lamO_ne, s _ _ h2 LamX.codeO_ne, ?_⟩
  rcases h3 with z | ⟨z, t, e, ht⟩
  · exact .inl z
  · exact .inr ⟨z, t, e, s _ _ ht fun _ z => by cases z⟩
section
variable {X : Cx} {pins : List (Addr × Obj)} {σ : L2.St} {H : Hp} {s : Shared}
theorem lam_tail {T : List (Addr × Str)} {c P : Addr} {params : Arguments} {body : Expr} {scope : Scope} {pos : Pos} {dV : Value} {E : Value → Shared → Prop} {Q : Value → Shared → Prop} (I : Inv X pins σ H s) (TB : LamX.TabB X.base X.mg c P) (hcode : X.env.code = .ref c)
    (hm : (P, X.env.qual ++ "<lambda>") ∈ T) (hu : ∀ p ∈ T, p.1 = P → p.2 = X.env.qual ++ "<lambda>") (hT : LamX.Tabs T H) (hfree : ∀ y ∈ scope.names, y.2 = .free → ∃ c, X.env.cells.lookup y.1 = some c)
    (h : ∀ (f c' : Addr) (H1 : Hp) (s' : Shared), Inv X pins σ H1 s' → LamX.ExtN H H1 → LamX.Tabs T H1 →
      H1 f = some (LamO f (X.env.qual ++ "<lambda>") params body scope (cloFrom X.env.cells scope.names []) dV c') → H1 c' = some (LamX.CodeO c' (X.env.qual ++ "<lambda>")) → Q (.ref f) s') :
    wpAny (model X.prog X.w) X.A (makeTail "<lambda>" (X.env.qual ++ "<lambda>") params (.expr body) scope X.env dV .none none pos pos.line) Q E s := by
  obtain ⟨ps, hP, ht, ha⟩ := hT _ hm
  have bP : s.heap.BuiltinsAt X.mg P := TB.bm.keeps I.bk
  have hP' : s.heap.get? P = some { cls := .none, data := .fields ps } := I.hok P _ hP
  -- behind the code object: the function object is new
  have last : ∀ {H1 : Hp} {h' : Heap} {tk : Nat} {doc pm ctv : Value} {c' : Addr}, Inv X pins σ H1 { s with heap := h', toks := tk } → LamX.ExtN H H1 → LamX.Tabs T H1 → H1 c' = some (LamX.CodeO c' (X.env.qual ++ "<lambda>")) →
      Q (.ref h'.objs.size) { s with heap := h'.push (PySem.W.kdv_obj "<lambda>" (X.env.qual ++ "<lambda>") params (.expr body) scope (cloFrom X.env.cells scope.names []) dV doc pm c' ctv), toks := tk } := fun {H1 h' tk doc pm ctv c'} I1 e1 t1 hc => by
    have hn : H1 h'.objs.size = none := I1.hok.fresh (Nat.le_refl _)
    refine h h'.objs.size c' (upd H1 h'.objs.size (LamO h'.objs.size (X.env.qual ++ "<lambda>") params body scope (cloFrom X.env.cells scope.names []) dV c')) _ (I1.laid (t' := tk) (fun b u e => Heap.get?_push_of_some _ e) (Nat.le_refl _) ?_) (e1.trans (.of (Same.upd hn))) (t1.ext (Same.upd hn)) upd_same (Same.upd hn _ _ hc)
    exact ⟨⟨doc, pm, ctv, Heap.get?_push_size _ rfl⟩, ⟨_, Heap.get?_push_size _ rfl⟩, fun h1 h2 ⟨d, p, t, e⟩ st => ⟨d, p, t, st _ e⟩⟩
  cases hc : codeAmong pos ps.toList with
  | none =>
    refine PySem.W.kdv_makeTail (mg := X.mg) (c := c) (P := P) (ps := ps) (closure_ok hfree) I.ok.glob (I.mod.glob.keeps I.bk) hcode (TB.code.keeps I.bk) hP' ht hc TB.gP bP fun c' ctv doc h' tk hx hge hlt hrec htb => ?_
    obtain ⟨c2, oc, vs, t, e2, hoc, hd, hv⟩ := hrec
    cases e2
    have nC : H c' = none := I.hok.fresh hge
    have I1 := LamX.inv_table (t' := tk) (more := #[rawInt pos.line, rawInt pos.col, .ref c']) (h' := h') I hP (fun b o hb e => hx b o hb e) htb hge ⟨oc, vs, t, hoc, hd, hv⟩
    have hE : LamX.ExtN H (upd (upd H P (.tbl (ps ++ #[rawInt pos.line, rawInt pos.col, .ref c']))) c' (LamX.CodeO c' (X.env.qual ++ "<lambda>"))) := fun b o e n => by
      rw [upd_ne (ne_of_none e nC), upd_ne (fun z => n ps (Option.some.inj (e.symm.trans (by rw [z]; exact hP))))]
      exact e
    have eL : (ps ++ #[rawInt pos.line, rawInt pos.col, .ref c']).toList = ps.toList ++ [rawInt pos.line, rawInt pos.col, .ref c'] := by simp
    refine last I1 hE (fun p hp => ?_) upd_same
    by_cases hb : p.1 = P
    · rw [hu p hp hb, hb]
      refine ⟨_, by rw [upd_ne (ne_of_none hP nC), upd_same], by rw [eL]; exact PySem.TriplesOk_snoc _ _ _ _ ht, fun p' cv hcv => ?_⟩
      rw [eL] at hcv
      rcases LamX.among_app _ ht hcv with z | z
      · obtain ⟨c0, e1, e2⟩ := ha p' cv z
        exact ⟨c0, e1, hE _ _ e2 LamX.codeO_ne⟩
      · exact ⟨c', z, upd_same⟩
    · obtain ⟨ps', a1, a2, a3⟩ := hT p hp
      refine ⟨ps', by rw [upd_ne (ne_of_none a1 nC), upd_ne hb]; exact a1, a2, fun p' cv hcv => ?_⟩
      obtain ⟨c0, e1, e2⟩ := a3 p' cv hcv
      exact ⟨c0, e1, hE _ _ e2 LamX.codeO_ne⟩
  | some cv =>
    obtain ⟨c', e, hco⟩ := ha pos cv hc
    subst e
    refine PySem.W.kdv_makeTailHit (mg := X.mg) (c := c) (P := P) (ps := ps) (closure_ok hfree) I.ok.glob (I.mod.glob.keeps I.bk) hcode (TB.code.keeps I.bk) hP' ht hc bP fun ctv doc h' tk hx hsz => ?_
    exact last (I.kept hx) (.refl H) hT hco
/-- lambda: e, as a value -/
def tLamV (X : Cx) (T : List (Addr × Str)) (params : Arguments) (body : Expr) (scope : Scope) (dvs : List V) : TE := fun _ H Q => LamX.Tabs T H ∧ ∀ f c' H1, LamX.ExtN H H1 → LamX.Tabs T H1 → LamAt X H1 f c' params body scope dvs → Q (.ref f) H1
theorem pe_lam0 {T : List (Addr × Str)} {c P : Addr} {params : Arguments} {body : Expr} {scope : Scope} {pos : Pos} (TB : LamX.TabB X.base X.mg c P) (hcode : X.env.code = .ref c)
    (hm : (P, X.env.qual ++ "<lambda>") ∈ T) (hu : ∀ p ∈ T, p.1 = P → p.2 = X.env.qual ++ "<lambda>") (hfree : ∀ y ∈ scope.names, y.2 = .free → X.env.scope.names.lookup y.1 = some .cell ∨ X.env.scope.names.lookup y.1 = some .free) (hdef : defaultsOf params X.env = ([], [])) :
    PE X (.Lambda params body scope pos) (tLamV X T params body scope []) := by
  refine ⟨fun pins s σ H Q I h => ?_⟩
  obtain ⟨hT, h⟩ := h
  refine PySem.W.kla_eval hdef ?_
  rw [makeFunction_eq]
  simp only [List.zip_nil_right, List.filterMap_nil, List.isEmpty_nil, if_true, pure_bind]
  refine lam_tail I TB hcode hm hu hT (fun y hy e => ?_) fun f c' H1 s' I1 e1 t1 hf hc => ⟨.ref f, H1, I1, rfl, h f c' H1 e1 t1 ⟨.none, hf, hc, .inl ⟨rfl, rfl⟩⟩⟩
  rcases hfree y hy e with k | k
  · exact I.ok.has _ (.inl k)
  · exact I.ok.has _ (.inr k)
/-- .. with one default -/
theorem pe_lam1 {T : List (Addr × Str)} {c P : Addr} {params : Arguments} {d body : Expr} {i : Int} {scope : Scope} {pos : Pos} (TB : LamX.TabB X.base X.mg c P) (hcode : X.env.code = .ref c)
    (hm : (P, X.env.qual ++ "<lambda>") ∈ T) (hu : ∀ p ∈ T, p.1 = P → p.2 = X.env.qual ++ "<lambda>") (hfree : ∀ y ∈ scope.names, y.2 = .free → X.env.scope.names.lookup y.1 = some .cell ∨ X.env.scope.names.lookup y.1 = some .free)
    (hdef : params.defaults = [d]) (hk : params.kw_defaults = []) (hd : PE X d (fun _ H Q => Q (.int i) H)) :
    PE X (.Lambda params body scope pos) (tLamV X T params body scope [.int i]) := by
  refine ⟨fun pins s σ H Q I h => ?_⟩
  obtain ⟨hT, h⟩ := h
  refine PySem.W.kdv_lam (by rw [hdef]; rfl) hk ?_
  rw [hdef]
  refine PySem.W.kdv_all1 (thn (hd.run pins s σ H (fun v H1 => v = .int i ∧ H1 = H) I ⟨rfl, rfl⟩) fun u s1 ⟨v, H1, I1, r1, q1⟩ => ?_)
  obtain ⟨ev, eH⟩ := q1
  subst ev
  rw [eH] at I1
  refine PySem.W.kdv_all0 ?_
  rw [makeFunction_eq]
  simp only [List.zip_nil_right, List.filterMap_nil, List.isEmpty_nil, if_true, pure_bind, List.isEmpty_cons, Bool.false_eq_true, if_false]
  have hn : H s1.heap.objs.size = none := I1.hok.fresh (Nat.le_refl _)
  refine wpAny_bind (wpAny_newTextTuple ?_)
  have I2 : Inv X pins σ (upd H s1.heap.objs.size (.tup [.int i])) { s1 with heap := s1.heap.push { cls := .type "tuple", data := .seq [u].toArray } } := I1.laid (t' := s1.toks) (fun b u e => Heap.get?_push_of_some _ e) (Nat.le_refl _) ⟨by show 1 ≤ sizeLine; decide, [u], .cons r1 .nil, ⟨_, Heap.get?_push_size _ rfl, rfl, _, rfl⟩⟩
  refine lam_tail I2 TB hcode hm hu (hT.ext (Same.upd hn)) (fun y hy e => ?_) fun f c' H1 s' I1 e1 t1 hf hc => ⟨.ref f, H1, I1, rfl, h f c' H1 ((LamX.ExtN.of (Same.upd hn)).trans e1) t1 ⟨_, hf, hc, .inr ⟨by simp, _, rfl, e1 _ _ upd_same fun _ z => by cases z⟩⟩⟩
  rcases hfree y hy e with k | k
  · exact I2.ok.has _ (.inl k)
  · exact I2.ok.has _ (.inr k)
end
/-! ### calling one: where the maker's cells stand in the base -/
/-- no name of its own but parameters -/
structure LamP (N : List Str) (sc scope : Scope) (ps : List Str) : Prop where
  kind : scope.kind = .function
  co : scope.isCoroutine = false
  gen : scope.isGenerator = false
  own : ∀ y ∈ scope.names, y.2 ≠ .cell ∧ (y.2 = .local → y.1 ∉ N)
  free : ∀ y ∈ scope.names, y.2 = .free → sc.names.lookup y.1 = some .cell ∨ sc.names.lookup y.1 = some .free
  par : ∀ p ∈ ps, scope.names.lookup p = some .local
def lamPB (N : List Str) (sc scope : Scope) (ps : List Str) : Bool :=
  decide (scope.kind = .function) && !scope.isCoroutine && !scope.isGenerator && (scope.names.all fun y => !decide (y.2 = .cell) && (!decide (y.2 = .local) || decide (y.1 ∉ N)) && (!decide (y.2 = .free) || decide (sc.names.lookup y.1 = some .cell) || decide (sc.names.lookup y.1 = some .free))) &&
    ps.all fun p => decide (scope.names.lookup p = some .local)
theorem lamP_by {N : List Str} {sc scope : Scope} {ps : List Str} (h : lamPB N sc scope ps = true) : LamP N sc scope ps := by
  unfold lamPB at h
  simp only [Bool.and_eq_true, Bool.or_eq_true, Bool.not_eq_true', decide_eq_true_eq, decide_eq_false_iff_not, List.all_eq_true] at h
  obtain ⟨⟨⟨⟨h1, h2⟩, h3⟩, h4⟩, h5⟩ := h
  refine ⟨h1, h2, h3, fun y hy => ⟨(h4 y hy).1.1, fun e => ?_⟩, fun y hy e => ?_, h5⟩
  · rcases (h4 y hy).1.2 with z | z
    · exact absurd e z
    · exact z
  · rcases (h4 y hy).2 with (z | z) | z
    · exact absurd e z
    · exact .inl z
    · exact .inr z
/-- how its parameters are bound: all by defaults -/
def LamB (params : Arguments) (body : Expr) (scope : Scope) (ps : List Str) (dvs : List V) : Prop :=
  (dvs = [] ∧ ∀ (q : Str) (cl : List (Str × Addr)) (doc pm cv ctv : Value), bindArgs (PySem.W.kdv_fn "<lambda>" q params (.expr body) scope cl .none doc pm cv ctv) ⟨[], []⟩ = pure []) ∨
  (dvs ≠ [] ∧ dvs.length = ps.length ∧ ∀ (q : Str) (cl : List (Str × Addr)) (t : Addr) (doc pm cv ctv : Value) (its : List Value), its.length = ps.length →
    ∃ k, bindArgs (PySem.W.kdv_fn "<lambda>" q params (.expr body) scope cl (.ref t) doc pm cv ctv) ⟨[], []⟩ = seqItems? (.ref t) >>= k ∧ k (some its.toArray) = pure (ps.zip its))
/-- f may be called without arguments wherever base stands -/
def CallB (P : Program) (w : World) (K : PySem.W.Frag) (mg : Str → Option Value) (base : Heap) (k : Nat) (f : Addr) (tl : XK → Hp → VK → Prop) : Prop :=
  ∀ (A : Around) (outer : List Env) (s : Shared) (H : Hp) (Q : VK) (E : XK), Room k A → Env0 P w K mg base A outer s H → tl E H Q →
    PySem.W.FnAt f s.heap ∧ codeAny (model P w) A (.call (.ref f) ⟨[], []⟩) (CR (L2.CX P w) outer P w H s Q E) s
/-- what the maker of lambdas tells of a base -/
def LamsOk (X : Cx) (σ : L2.St) (base' : Heap) : Prop :=
  Mod X.K X.mg base' ∧ ∀ {params : Arguments} {body : Expr} {scope : Scope} {ps : List Str} {dvs : List V} {k : Nat} {t : XK → TE} {f c' : Addr}, LamP X.N X.env.scope scope ps → LamB params body scope ps dvs →
    (∀ (A : Around) (outer : List Env) (s : Shared) (H : Hp) (E : XK), Room k (A.deeper (LamX.lamEnv X scope s.heap.objs.size f c')) → PE (LamX.lamCx X A outer s H E scope f c') body (t E)) →
    CallB X.prog X.w X.K X.mg base' (k + 1) f fun E HZ Q => LamAt X HZ f c' params body scope dvs ∧ t E σ HZ Q
section
variable {X : Cx} {pins : List (Addr × Obj)} {σ : L2.St} {H : Hp} {s : Shared}
/-- all that isn't tracked and is no frame -/
def bigB (X : Cx) (H : Hp) (h : Heap) : Heap := PySem.W.hideAll (hidT h H) (frs X.stack)
theorem bigB_get {b : Addr} {o : Obj} (e : s.heap.get? b = some o) (n : H b = none) (f : b ∉ frs X.stack) : (bigB X H s.heap).get? b = some o := PySem.W.hideAll_get _ (hidT_get e n) f
theorem of_bigB {b : Addr} {o : Obj} (e : (bigB X H s.heap).get? b = some o) : s.heap.get? b = some o ∧ H b = none := of_hidT (PySem.W.of_hideAll _ e)
theorem bigB_sub (I : Inv X pins σ H s) {b : Addr} {o : Obj} (e : X.base.get? b = some o) : (bigB X H s.heap).get? b = some o :=
  bigB_get (I.bs b o e).1 (I.bs b o e).2 fun z => by
    have := (Heap.FunFrames.mem I.stack z).1
    rw [e] at this
    cases this
theorem bigB_size : (bigB X H s.heap).objs.size = s.heap.objs.size := (PySem.W.hideAll_size _ _).trans (hidT_size _ _)
theorem funs_to {h b1 b2 : Heap} : ∀ {l : List Env}, h.FunFrames b1 l → (∀ L ∈ frs l, b2.get? L = none) → h.FunFrames b2 l
  | [], _, _ => trivial
  | env :: r, ⟨hk, ⟨L, o, hf, hn, ho, hd⟩, hr⟩, g => by
    have m : ∀ b ∈ frs r, b ∈ frs (env :: r) := fun b hb => by
      unfold frs at hb ⊢
      rw [List.filterMap_cons, hf]
      exact List.mem_cons_of_mem _ hb
    refine ⟨hk, ⟨L, o, hf, g L ?_, ho, hd⟩, funs_to hr fun b hb => g b (m b hb)⟩
    unfold frs
    rw [List.filterMap_cons, hf]
    exact List.mem_cons_self
theorem bigB_env0 (I : Inv X pins σ H s) : Mod X.K X.mg (bigB X H s.heap) ∧ Env0 X.prog X.w X.K X.mg (bigB X H s.heap) X.A X.stack s H := by
  have k : ∀ b o, X.base.get? b = some o → (bigB X H s.heap).get? b = some o := fun b o e => bigB_sub I e
  obtain ⟨mb, h1, h2⟩ := I.mod.blt
  have M : Mod X.K X.mg (bigB X H s.heap) := ⟨I.mod.kin.keeps k, I.mod.glob.keeps k, ⟨mb, h1.keeps k, h2⟩, I.mod.nolimit.keeps k⟩
  exact ⟨M, I.ok.frames, M, fun b o e => of_bigB e, Nat.le_of_eq bigB_size, funs_to I.stack fun b hb => PySem.W.hideAll_none _ hb, I.stkFree, I.hok, I.bare⟩
theorem lam_startB {A : Around} {outer : List Env} {E : XK} {scope : Scope} {f c' : Addr} {h₁ : Heap} {tk : Nat} {ps : List Str} {its : List Value} {s1 : Shared} {HZ : Hp} (I : Inv X pins σ H s) (hfn : ∀ x, X.fn x = true) (L : LamP X.N X.env.scope scope ps)
    (e0 : Env0 X.prog X.w X.K X.mg (bigB X H s.heap) A outer s1 HZ) (hd : A.handled = none)
    (hns : h₁.Ns s1.heap.objs.size fun y => (ps.zip its).reverse.lookup y) (kp : ∀ b o, s1.heap.get? b = some o → h₁.get? b = some o) :
    Inv (LamX.lamCx X A outer s1 HZ E scope f c') [] σ HZ { s1 with heap := h₁, toks := tk } := by
  have hfree : ∀ y ∈ scope.names, y.2 = .free → ∃ c, X.env.cells.lookup y.1 = some c := fun y hy e => by
    rcases L.free y hy e with k | k
    · exact I.ok.has _ (.inl k)
    · exact I.ok.has _ (.inr k)
  have cm : ∀ {y c}, (cloFrom X.env.cells scope.names []).lookup y = some c → X.env.cells.lookup y = some c := fun {y c} e => by
    rcases cloFrom_mem (PySem.mem_of_lookup e) with hm | ⟨h1, h2⟩
    · cases hm
    · obtain ⟨c1, hc⟩ := hfree _ h1 rfl
      have hc : X.env.cells.lookup y = some c1 := hc
      have e2 : c = c1 := by
        rw [h2, hc] <;> rfl
      rw [e2]
      exact hc
  have look : ∀ {y}, scope.names.lookup y = some .free → ∃ c, (cloFrom X.env.cells scope.names []).lookup y = some c := fun {y} hl => mem_lookup (cloFrom_has (cells := X.env.cells) (acc := []) (PySem.mem_of_lookup hl))
  -- a cell stands in the base
  have cellB : ∀ {y c o}, X.env.cells.lookup y = some c → s.heap.get? c = some o → s1.heap.get? c = some o ∧ HZ c = none := fun {y c o} e ho => by
    refine e0.bs c o (bigB_get ho (I.freeC y c e) fun z => ?_)
    rcases List.mem_cons.mp (I.stkSub c z) with z | z
    · exact I.cne y c e z
    · obtain ⟨_, o', ho', _⟩ := I.ok.funs.mem z
      exact absurd (Nat.lt_of_lt_of_le (Heap.lt_size ho') (I.ok.cab y c (hfn y) e)) (Nat.lt_irrefl _)
  have cellK : ∀ {y c} {v : Option Value}, X.env.cells.lookup y = some c → s.heap.IsCell c v → h₁.IsCell c v := fun {y c v} e ⟨o, ho, hdt⟩ => ⟨o, kp _ _ (cellB e ho).1, hdt⟩
  have noA : ∀ b : Addr, b ∉ (LamX.lamCx X A outer s1 HZ E scope f c').ex := fun b z => absurd (show b ∈ ([] : List Addr) from z) (by simp)
  refine ⟨⟨I.mod, L.kind, rfl, rfl, Nat.le_refl _, fun y z c e1 e2 => I.ok.inj y z c (cm e1) (cm e2), fun y hy => ?_, fun y c z _ => ?_, fun _ => hd, Around.frames_deeper e0.frames, .inr ⟨rfl, rfl⟩, fun b z => absurd z (noA b), fun b o e => e0.bs b o (bigB_sub I e), ?_, fun b _ _ => noA b,
      fun b z => absurd z (noA b), funs_to e0.funs fun b hb => ?_, e0.frf⟩,
    rfl, e0.bare, Un.kept kp, ⟨_, hns, fun i y v e1 e2 e3 => ?_⟩, fun y c e => ?_, e0.hok.fresh (Nat.le_refl _), fun y c e => ?_, fun q hq => absurd (show q ∈ ([] : List (Addr × Obj)) ++ [] from hq) (by simp), e0.hok.kept kp, I.len⟩
  · have hy : scope.names.lookup y = some .cell ∨ scope.names.lookup y = some .free := hy
    rcases hy with hy | hy
    · exact absurd rfl (L.own _ (PySem.mem_of_lookup hy)).1
    · exact look hy
  · have z : false = true := z
    cases z
  · exact Nat.le_trans (Nat.le_trans I.ok.bsz I.sz) (Nat.le_trans (Nat.le_of_eq bigB_size.symm) e0.bsz)
  · cases q : X.base.get? b with
    | none => exact q
    | some o =>
      have := (Heap.FunFrames.mem e0.funs hb).1
      rw [bigB_sub I q] at this
      cases this
  · have e3 : Vis scope y := e3
    have e1 : X.N[i]? = some y := e1
    rcases e3 with k | k | k
    · exact absurd (List.mem_of_getElem? e1) ((L.own _ (PySem.mem_of_lookup k)).2 rfl)
    · exact absurd rfl (L.own _ (PySem.mem_of_lookup k)).1
    · obtain ⟨m, hn, hl⟩ := I.loc
      have hvis : Vis X.env.scope y := (L.free _ (PySem.mem_of_lookup k) rfl).elim (fun k => .inr (.inl k)) (fun k => .inr (.inr k))
      obtain ⟨w', r, q⟩ := hl i y v e1 e2 hvis
      obtain ⟨c2, h2⟩ := look k
      refine ⟨w', r, .inr ⟨.inr k, c2, h2, ?_⟩⟩
      have c1 := cm h2
      rcases q with ⟨k', _⟩ | ⟨_, c3, e', z⟩
      · have k' : X.env.scope.names.lookup y = some .local := k'
        rcases L.free _ (PySem.mem_of_lookup k) rfl with k2 | k2 <;> rw [show X.env.scope.names.lookup y = _ from k2] at k' <;> cases k'
      · rw [c1] at e'
        cases e'
        exact cellK c1 z
  · obtain ⟨w', z⟩ := I.cell y c (cm e)
    exact ⟨w', cellK (cm e) z⟩
  · obtain ⟨v, o, ho, hdt⟩ := I.cell y c (cm e)
    exact (cellB (cm e) ho).2
theorem lams_ok (I : Inv X pins σ H s) (hfn : ∀ x, X.fn x = true) : LamsOk X σ (bigB X H s.heap) := by
  refine ⟨(bigB_env0 I).1, fun {params body scope ps dvs k t f c'} L B hbody A outer s1 HZ Q E hr e0 h => ?_⟩
  obtain ⟨⟨dV, hf, hc, hdv⟩, ht⟩ := h
  obtain ⟨⟨doc, pm, ctv, of1⟩, _, _⟩ := e0.hok f _ hf
  obtain ⟨⟨oc, vs, tk, hoc, hdc, hvc⟩, _, _⟩ := e0.hok c' _ hc
  have hb : ∃ its : List Value, (∀ y ∈ ps.zip its, scope.names.lookup y.1 = some .local) ∧ BindsTo s1 (PySem.W.kdv_fn "<lambda>" (X.env.qual ++ "<lambda>") params (.expr body) scope (cloFrom X.env.cells scope.names []) dV doc pm (.ref c') ctv) ⟨[], []⟩ (ps.zip its) := by
    have pz : ∀ {its : List Value}, ∀ y ∈ ps.zip its, scope.names.lookup y.1 = some .local := fun {its} ⟨a, b⟩ hy => L.par _ (List.of_mem_zip hy).1
    rcases B with ⟨e, hb⟩ | ⟨hne, hl, hb⟩
    · rcases hdv with ⟨_, z⟩ | ⟨z, _⟩
      · refine ⟨[], pz, ?_⟩
        rw [z, List.zip_nil_right]
        exact .of_eq (hb _ _ _ _ _ _)
      · exact absurd e z
    · rcases hdv with ⟨z, z2⟩ | ⟨_, tp, z, htp⟩
      · exact absurd z hne
      · obtain ⟨_, its, rv, ot, h1, h2, n, h3⟩ := e0.hok tp _ htp
        obtain ⟨k, e1, e2⟩ := hb (X.env.qual ++ "<lambda>") (cloFrom X.env.cells scope.names []) tp doc pm (.ref c') ctv its (rv.length.symm.trans hl)
        refine ⟨its, pz, ?_⟩
        rw [z]
        exact .of_defaults rfl h1 h3 e1 e2
  obtain ⟨its, hloc, hbt⟩ := hb
  refine ⟨⟨_, _, _, _, of1⟩, PySem.W.kla_callFunE hr.depth of1 rfl L.co L.gen rfl ⟨c', oc, vs, tk, rfl, hoc, hdc, hvc⟩ (hbt _ _ _ _ (wpAny_newFunctionEnv (fun y hy => (L.own y hy).1) hloc (fun h₁ hns hsb => ⟨((I.mod.nolimit.keeps fun b o e => (e0.bs b o (bigB_sub I e)).1)).fresh _ hsb, ?_⟩) L.kind))⟩
  show codeAny _ _ (.expr body (LamX.lamEnv X scope s1.heap.objs.size f c')) _ _
  have kp : ∀ b o, s1.heap.get? b = some o → h₁.get? b = some o := fun b o e => hsb.extBut b o (Nat.ne_of_lt (Heap.lt_size e)) (Heap.get?_push_of_some _ e)
  have J := lam_startB (E := E) (f := f) (c' := c') (tk := s1.toks + (ps.zip its).length) I hfn L e0 hr.hd hns kp
  refine PySem.W.kla_codeExpr (wpAny_mono ((hbody A outer s1 HZ E (hr.deeper _)).run [] _ _ HZ Q J ht) (fun v s' hq => ?_) fun e s' hq => hq)
  obtain ⟨w', H', J', rv, q⟩ := hq
  exact ⟨w', H', J'.os, J'.bare, J'.base, J'.hok, rv, q⟩
end
end K3

set_option Elab.async false
set_option linter.all false
set_option maxRecDepth 100000
set_option maxHeartbeats 4000000
/-! KY: the name of a refusal's class; what is told, or the refusal -/
namespace K3
open PySem PySem.Spec PyProof.Rows L2
structure TxtE (mg : Str → Option Value) : Prop where
  b_ValueError : mg "ValueError" = none
def cnms : List Str := ["BadNumber", "BadValues", "NoForm", "BadPrices", "BadKinds", "BadRows", "BadCondition", "BadColumn", "BadHeap", "TooMany", "BadBlock", "Stopped", "BadText"]
def cnm (i : Nat) : Str := cnms.getD i Str.empty
/-- the classes of refusals: theirs is at cs i, ColumnError at CE -/
structure Kinds (K : PySem.W.Frag) (mg : Str → Option Value) (cs : Nat → Addr) (CE : Addr) : Prop where
  g : ∀ i, i < 13 → mg (cnm i) = some (.ref (cs i))
  c : ∀ i, i < 13 → L2.ExcC K (cs i)
  k : ∀ i j, i < 13 → j < 13 → PySem.W.kitOne K (.ref (cs i)) (.ref (cs j)) = some (decide (i = j))
  v : ∀ i, i < 13 → PySem.W.kitOne K (.ref (cs i)) (.type "ValueError") = some true
  m : ∀ i, i < 13 → PySem.W.exmOne K (.ref (cs i)) (.ref CE) = some true
  ge : mg "ColumnError" = some (.ref CE)
  xf : ∀ i, i = 1 ∨ i = 5 ∨ i = 12 → XfC K (cs i) ∧ PySem.W.findIn K (.ref (cs i)) "place" = some none
def kb (i n : Nat) : List V := (List.range n).map fun j => V.bl (decide (i = j))
theorem kb_flat (i n : Nat) : (kb i n).all flatV = true := by
  unfold kb
  rw [List.all_map]
  exact List.all_eq_true.mpr fun _ _ => rfl
theorem kb_at {i j n : Nat} (h : j < n) : (kb i n)[j]? = some (.bl (decide (i = j))) := by
  unfold kb
  rw [List.getElem?_map, List.getElem?_range h]
  rfl
theorem kb_count : ∀ i, i < 13 → (kb i 13).countP (fun z => eqV z (.bl true)) = 1 := by decide
theorem cnm_at : ∀ {i : Nat}, i < 13 → (cnms.map V.str)[i]? = some (.str (cnm i)) := fun {i} h => by
  unfold cnm
  have hl : i < cnms.length := h
  rw [List.getElem?_map, List.getD_eq_getElem?_getD, List.getElem?_eq_getElem hl]
  rfl
section
variable {P : Program} {w : World} {K : PySem.W.Frag} {mg : Str → Option Value} {base : Heap}
abbrev s__law_class : Stmt := top 28
abbrev N__law_class : List Str := ["_law_e", "_law_kinds", "_law_words"]
abbrev P__law_class : List Str := ["_law_e"]
theorem sc__law_class : FnScope N__law_class P__law_class (defScope s__law_class) := ⟨rfl, rfl, rfl, by decide +kernel, rfl, by decide +kernel, by decide +kernel⟩
def spClass (K : PySem.W.Frag) (cs : Nat → Addr) : Addr × Obj → Sp := fun p vs H Q _ => ∃ (i : Nat) (d : Option Addr), i < 13 ∧ vs = [.ref p.1] ∧ Zc (.ref (cs i)) d p.2 ∧ (∃ fl, p.2.data = .fields fl) ∧ (∀ dd, d = some dd → ∃ fs, H dd = some (.xd fs)) ∧ ∀ H', Same H H' → Q (.str (cnm i)) H'
theorem ok_class {cs : Nat → Addr} {CE : Addr} (T : Txt mg) (TE : TxtE mg) (KS : Kinds K mg cs CE) (D : Df K mg "_law_class" s__law_class P__law_class) : Fnp P w K mg base CX0 1 "_law_class" P__law_class (spClass K cs) := by
  refine D.okP sc__law_class (fun p vs H Q E h => ?_) (fun f cdv A outer s H vs Q E p hr h => ?_)
  · obtain ⟨i, d, _, rfl, _⟩ := h
    rfl
  · obtain ⟨i, d, hi, rfl, hz, hf, hd, k⟩ := h
    have nd := sc__law_class.nd
    have keep : ∀ {H1}, Same H H1 → ∀ dd, d = some dd → ∃ fs, H1 dd = some (.xd fs) := fun {H1} s dd e => by
      obtain ⟨fs, h⟩ := hd dd e
      exact ⟨fs, s _ _ h⟩
    refine ⟨_, (pss_cons (ps_set (i := 1) nd rfl (by first | exact Or.inl rfl | exact Or.inr rfl) (pe_lst (pa_cons (pe_callB (call_isP List.mem_cons_self (KS.c i hi) hz hf) (by rfl) T.b_isinstance (by decide +kernel) (pa_cons (pv 0) (pa_cons (pe_glob (v := .ref (cs 0)) (by rfl) (KS.g 0 (by decide)) rfl) pa_nil))) (pa_cons (pe_callB (call_isP List.mem_cons_self (KS.c i hi) hz hf) (by rfl) T.b_isinstance (by decide +kernel) (pa_cons (pv 0) (pa_cons (pe_glob (v := .ref (cs 1)) (by rfl) (KS.g 1 (by decide)) rfl) pa_nil))) (pa_cons (pe_callB (call_isP List.mem_cons_self (KS.c i hi) hz hf) (by rfl) T.b_isinstance (by decide +kernel) (pa_cons (pv 0) (pa_cons (pe_glob (v := .ref (cs 2)) (by rfl) (KS.g 2 (by decide)) rfl) pa_nil))) (pa_cons (pe_callB (call_isP List.mem_cons_self (KS.c i hi) hz hf) (by rfl) T.b_isinstance (by decide +kernel) (pa_cons (pv 0) (pa_cons (pe_glob (v := .ref (cs 3)) (by rfl) (KS.g 3 (by decide)) rfl) pa_nil))) pa_nil))))))
  (pss_cons (ps_set (i := 1) nd rfl (by first | exact Or.inl rfl | exact Or.inr rfl) (pe_op op_cat (pv 1) (pe_lst (pa_cons (pe_callB (call_isP List.mem_cons_self (KS.c i hi) hz hf) (by rfl) T.b_isinstance (by decide +kernel) (pa_cons (pv 0) (pa_cons (pe_glob (v := .ref (cs 4)) (by rfl) (KS.g 4 (by decide)) rfl) pa_nil))) (pa_cons (pe_callB (call_isP List.mem_cons_self (KS.c i hi) hz hf) (by rfl) T.b_isinstance (by decide +kernel) (pa_cons (pv 0) (pa_cons (pe_glob (v := .ref (cs 5)) (by rfl) (KS.g 5 (by decide)) rfl) pa_nil))) (pa_cons (pe_callB (call_isP List.mem_cons_self (KS.c i hi) hz hf) (by rfl) T.b_isinstance (by decide +kernel) (pa_cons (pv 0) (pa_cons (pe_glob (v := .ref (cs 6)) (by rfl) (KS.g 6 (by decide)) rfl) pa_nil))) pa_nil))))))
  (pss_cons (ps_set (i := 1) nd rfl (by first | exact Or.inl rfl | exact Or.inr rfl) (pe_op op_cat (pv 1) (pe_lst (pa_cons (pe_callB (call_isP List.mem_cons_self (KS.c i hi) hz hf) (by rfl) T.b_isinstance (by decide +kernel) (pa_cons (pv 0) (pa_cons (pe_glob (v := .ref (cs 7)) (by rfl) (KS.g 7 (by decide)) rfl) pa_nil))) (pa_cons (pe_callB (call_isP List.mem_cons_self (KS.c i hi) hz hf) (by rfl) T.b_isinstance (by decide +kernel) (pa_cons (pv 0) (pa_cons (pe_glob (v := .ref (cs 8)) (by rfl) (KS.g 8 (by decide)) rfl) pa_nil))) (pa_cons (pe_callB (call_isP List.mem_cons_self (KS.c i hi) hz hf) (by rfl) T.b_isinstance (by decide +kernel) (pa_cons (pv 0) (pa_cons (pe_glob (v := .ref (cs 9)) (by rfl) (KS.g 9 (by decide)) rfl) pa_nil))) (pa_cons (pe_callB (call_isP List.mem_cons_self (KS.c i hi) hz hf) (by rfl) T.b_isinstance (by decide +kernel) (pa_cons (pv 0) (pa_cons (pe_glob (v := .ref (cs 10)) (by rfl) (KS.g 10 (by decide)) rfl) pa_nil))) pa_nil)))))))
  (pss_cons (ps_set (i := 1) nd rfl (by first | exact Or.inl rfl | exact Or.inr rfl) (pe_op op_cat (pv 1) (pe_lst (pa_cons (pe_callB (call_isP List.mem_cons_self (KS.c i hi) hz hf) (by rfl) T.b_isinstance (by decide +kernel) (pa_cons (pv 0) (pa_cons (pe_glob (v := .ref (cs 11)) (by rfl) (KS.g 11 (by decide)) rfl) pa_nil))) (pa_cons (pe_callB (call_isP List.mem_cons_self (KS.c i hi) hz hf) (by rfl) T.b_isinstance (by decide +kernel) (pa_cons (pv 0) (pa_cons (pe_glob (v := .ref (cs 12)) (by rfl) (KS.g 12 (by decide)) rfl) pa_nil))) pa_nil)))))
  (pss_cons (ps_set (i := 2) nd rfl (by first | exact Or.inl rfl | exact Or.inr rfl) (pe_lst (pa_cons pe_str (pa_cons pe_str (pa_cons pe_str (pa_cons pe_str (pa_cons pe_str (pa_cons pe_str (pa_cons pe_str (pa_cons pe_str pa_nil))))))))))
  (pss_cons (ps_set (i := 2) nd rfl (by first | exact Or.inl rfl | exact Or.inr rfl) (pe_op op_cat (pv 2) (pe_lst (pa_cons pe_str (pa_cons pe_str (pa_cons pe_str (pa_cons pe_str (pa_cons pe_str pa_nil))))))))
  (pss_one (ps_ret (pe_ifExp (PW.pt (pw_and (pt_cmpR op_eq (pe_bm PySem.F.plainAttrs_list PySem.F.slot_list_count PySem.F.type_list_count mt_lcountV (pv 1) (pa_cons pe_bl pa_nil)) pe_int (nomark _)) (pw_and1 (pt_val (pe_callB (call_isP List.mem_cons_self (KS.c i hi) hz hf) (by rfl) T.b_isinstance (by decide +kernel) (pa_cons (pv 0) (pa_cons (pe_bltn (v := .ty "ValueError") (by rfl) TE.b_ValueError (by decide +kernel) rfl) pa_nil))))))) (pe_ix ix_list (pv 2) (pe_bm PySem.F.plainAttrs_list PySem.F.slot_list_index PySem.F.type_list_index mt_index (pv 1) (pa_cons pe_bl pa_nil)) (fun _ _ => rfl)) pe_str))))))))), ?_⟩
    refine ⟨_, rfl, .ref (cs 0), .ref (cs 0), _, rfl, (fun _ r => r), KS.k i 0 hi (by decide), keep (Same.refl H), _, rfl, .ref (cs 1), .ref (cs 1), _, rfl, (fun _ r => r), KS.k i 1 hi (by decide), keep (Same.refl H), _, rfl, .ref (cs 2), .ref (cs 2), _, rfl, (fun _ r => r), KS.k i 2 hi (by decide), keep (Same.refl H), _, rfl, .ref (cs 3), .ref (cs 3), _, rfl, (fun _ r => r), KS.k i 3 hi (by decide), keep (Same.refl H), (by show 4 ≤ sizeLine; decide), fun l1 n1 => ?_⟩
    suffices hh : ∀ H1, Same H H1 → H1 l1 = some (.lst (kb i 4)) → _ from hh _ (Same.upd n1) upd_same
    intro H1 s1 h1
    refine ⟨_, rfl, _, rfl, .ref (cs 4), .ref (cs 4), _, rfl, (fun _ r => r), KS.k i 4 hi (by decide), keep s1, _, rfl, .ref (cs 5), .ref (cs 5), _, rfl, (fun _ r => r), KS.k i 5 hi (by decide), keep s1, _, rfl, .ref (cs 6), .ref (cs 6), _, rfl, (fun _ r => r), KS.k i 6 hi (by decide), keep s1, (by show 3 ≤ sizeLine; decide), fun l2 n2 => ?_⟩
    refine ⟨l1, l2, _, _, rfl, rfl, Same.upd n2 _ _ h1, upd_same, (by show 4 + 3 ≤ sizeLine; decide), fun r2 nr2 => ?_⟩
    suffices hh : ∀ H2, Same H H2 → H2 r2 = some (.lst (kb i 7)) → _ from hh _ ((s1.upd' n2).upd' nr2) upd_same
    intro H2 s2 h2
    refine ⟨_, rfl, _, rfl, .ref (cs 7), .ref (cs 7), _, rfl, (fun _ r => r), KS.k i 7 hi (by decide), keep s2, _, rfl, .ref (cs 8), .ref (cs 8), _, rfl, (fun _ r => r), KS.k i 8 hi (by decide), keep s2, _, rfl, .ref (cs 9), .ref (cs 9), _, rfl, (fun _ r => r), KS.k i 9 hi (by decide), keep s2, _, rfl, .ref (cs 10), .ref (cs 10), _, rfl, (fun _ r => r), KS.k i 10 hi (by decide), keep s2, (by show 4 ≤ sizeLine; decide), fun l3 n3 => ?_⟩
    refine ⟨r2, l3, _, _, rfl, rfl, Same.upd n3 _ _ h2, upd_same, (by show 7 + 4 ≤ sizeLine; decide), fun r3 nr3 => ?_⟩
    suffices hh : ∀ H3, Same H H3 → H3 r3 = some (.lst (kb i 11)) → _ from hh _ ((s2.upd' n3).upd' nr3) upd_same
    intro H3 s3 h3
    refine ⟨_, rfl, _, rfl, .ref (cs 11), .ref (cs 11), _, rfl, (fun _ r => r), KS.k i 11 hi (by decide), keep s3, _, rfl, .ref (cs 12), .ref (cs 12), _, rfl, (fun _ r => r), KS.k i 12 hi (by decide), keep s3, (by show 2 ≤ sizeLine; decide), fun l4 n4 => ?_⟩
    refine ⟨r3, l4, _, _, rfl, rfl, Same.upd n4 _ _ h3, upd_same, (by show 11 + 2 ≤ sizeLine; decide), fun r4 nr4 => ?_⟩
    suffices hh : ∀ H4, Same H H4 → H4 r4 = some (.lst (kb i 13)) → _ from hh _ ((s3.upd' n4).upd' nr4) upd_same
    intro H4 s4 h4
    refine ⟨(by show 8 ≤ sizeLine; decide), fun w1 nw1 => ?_⟩
    refine ⟨_, rfl, (by show 5 ≤ sizeLine; decide), fun w2 nw2 => ?_⟩
    refine ⟨w1, w2, _, _, rfl, rfl, Same.upd nw2 _ _ upd_same, upd_same, (by show 8 + 5 ≤ sizeLine; decide), fun w3 nw3 => ?_⟩
    suffices hh : ∀ H5, Same H H5 → H5 r4 = some (.lst (kb i 13)) → H5 w3 = some (.lst (cnms.map V.str)) → _ from hh _ (((s4.upd' nw1).upd' nw2).upd' nw3) (Same.upd nw3 _ _ (Same.upd nw2 _ _ (Same.upd nw1 _ _ h4))) upd_same
    intro H5 s5 h5 hw5
    refine ⟨_, rfl, .inl ⟨rfl, _, SqL.of h5⟩, r4, _, _, rfl, rfl, SqL.of h5, rfl, kb_flat i 13, ?_⟩
    rw [kb_count i hi]
    refine ⟨rfl, _, rfl, ?_⟩
    refine ite2 (fun _ => ?_) (fun c => absurd rfl c)
    refine ⟨_, rfl, .ty "ValueError", .type "ValueError", _, rfl, (fun _ r => r), KS.v i hi, keep s5, _, rfl, ?_⟩
    refine ite2 (fun _ => ?_) (fun c => absurd rfl c)
    refine ⟨_, rfl, _, rfl, .inl ⟨rfl, _, SqL.of h5⟩, r4, kb i 13, .bl true, i, .bl true, rfl, rfl, SqL.of h5, rfl, kb_flat i 13, ?_, rfl, fun m z hm hz => ?_, ?_⟩
    · rw [kb_at hi, decide_eq_true rfl]
    · rw [kb_at (by omega)] at hz
      obtain rfl := Option.some.inj hz
      rw [decide_eq_false (by omega)]
      rfl
    · exact ⟨w3, _, _, _, rfl, rfl, SqL.of hw5, atI_nat (cnm_at hi), k _ s5⟩
end
end K3

set_option Elab.async false
set_option linter.all false
set_option maxRecDepth 100000
set_option maxHeartbeats 4000000
/-! KZ: what a lambda tells, or its refusal -/
namespace K3
open PySem PySem.Spec PyProof.Rows L2
theorem _root_.L2.PE.imp {X : Cx} {e : Expr} {t t' : TE} (h : PE X e t) (m : ∀ σ H Q, t' σ H Q → t σ H Q) : PE X e t' := ⟨fun pins s σ H Q I q => h.run pins s σ H Q I (m _ _ _ q)⟩
theorem op_in_seqK {X : Cx} {K : PySem.W.Frag} (e : X.K = K) : OpR X (compareOp .In) (rIn K false) := by
  subst e
  exact op_in_seq
def tClass (cs : Nat → Addr) (a : Addr) (cls : Value) (d : Option Addr) : TE := fun σ H Q => ∃ i, σ[1]? = some (some (.ref a)) ∧ i < 13 ∧ cls = .ref (cs i) ∧ (∀ dd, d = some dd → ∃ fs, H dd = some (.xd fs)) ∧ ∀ H', Same H H' → Q (.str (cnm i)) H'
/-- a refusal as the law tells it: its class's name, its place or 0 -/
def Told (cs : Nat → Addr) (cls : Value) (d : Option Addr) (H' : Hp) (Q : VK) : Prop := ∃ (i : Nat) (pl : Int), i < 13 ∧ cls = .ref (cs i) ∧
  ((i ≠ 1 ∧ i ≠ 5 ∧ i ≠ 12 ∧ d = none ∧ pl = 0) ∨ ((i = 1 ∨ i = 5 ∨ i = 12) ∧ ∃ dd fs, d = some dd ∧ H' dd = some (.xd fs) ∧ fs.lookup ("place" : Str) = some (V.int pl))) ∧
  ∀ (H'' : Hp) (t : Addr), Same H' H'' → H' t = none → H'' t = some (.tup [.str (cnm i), .int pl]) → Q (.ref t) H''
def TTd (cs : Nat → Addr) : (XK → Hp → VK → Prop) → Hp → VK → Prop := fun tl H Q => ∀ E : XK, (∀ cls d H', Told cs cls d H' Q → E cls d H') → tl E H Q
theorem place_in : ∀ {i : Nat}, i < 13 → inV (.str (cnm i)) [V.str "BadValues", V.str "BadRows", V.str "BadText"] = decide (i = 1 ∨ i = 5 ∨ i = 12) := by decide
abbrev s__law_told : Stmt := top 29
abbrev N__law_told : List Str := ["_law_work", "_law_e", "_law_word"]
abbrev P__law_told : List Str := ["_law_work"]
theorem sc__law_told : FnScope N__law_told P__law_told (defScope s__law_told) := ⟨rfl, rfl, rfl, by decide +kernel, rfl, by decide +kernel, by decide +kernel⟩
theorem told_gives {X : Cx} {k : Nat} {cs : Nat → Addr} {CE : Addr} {g : Addr} {cdg : Value} {q : Str} (KS : Kinds X.K X.mg cs CE) (G_class : Fnp X.prog X.w X.K X.mg X.base CX0 1 "_law_class" P__law_class (spClass X.K cs)) :
    GivesR X N__law_told "_law_told" (defScope s__law_told) g cdg (defBody s__law_told) "_law_work" q (k + 1) (TTd cs) := by
  intro f c' s H Q tl hr act hc h
  have nd := sc__law_told.nd
  have hrS : ∀ a, L2H.RoomH 1 (((cxOf C8.CX0 X.prog X.w X.K X.mg X.base N__law_told "_law_told" (defScope s__law_told) g cdg X.A X.stack s H C8.E0).nox).suite a []).A := fun a => ⟨(hr.mono (by omega : 1 ≤ k + 1)).dp, (hr.mono (by omega : 1 ≤ k + 1)).un⟩
  refine ⟨_, (pss_one (ps_try_as (i := 1) (c := .ref CE) (n := "_law_e") (Wout := fun _ _ _ _ => False) rfl rfl nd rfl rfl ⟨rfl, by decide, .inl KS.ge⟩ takes0 (fun W pn xe tk _ => pss_one (ps_ret (act W pn xe _ _ tk))) (fun a oe cls d pn hz hf => pss_cons (ps_set (i := 2) nd rfl (Or.inl rfl) (PE.imp (t' := tClass cs a cls d) (pe_cP (E := fun _ => C8.E0) G_class (hrS a) List.mem_cons_self (fun _ _ _ _ _ _ _ h => h.elim) (pa_cons (pv 1) pa_nil)) (fun σ H Q ⟨i, hs, hi, hc, hd, k⟩ => ⟨.ref a, hs, i, d, hi, rfl, by rw [← hc]; exact hz, hf, hd, k⟩))) (pss_one (ps_ret (pe_tup (pa_cons (pv 2) (pa_cons (pe_ifExp (pt_cmpR (op_in_seqK (K := X.K) rfl) (pv 2) (pe_tup (pa_cons pe_str (pa_cons pe_str (pa_cons pe_str pa_nil)))) (by rfl)) (pe_xfA hz hf (pv 1)) pe_int) pa_nil)))))))), ?_⟩
  refine ⟨rfl, hc, h _ fun cls d H' ⟨i, pl, hi, ec, hd, k⟩ => ?_⟩
  subst ec
  refine ⟨true, KS.m i hi, fun _ a na => ?_, fun z => Bool.noConfusion z⟩
  have keep : ∀ dd, d = some dd → ∃ fs, H' dd = some (.xd fs) := fun dd e => by
    rcases hd with ⟨_, _, _, e0, _⟩ | ⟨_, dd', fs, e1, h1, _⟩
    · rw [e0] at e
      cases e
    · rw [e1] at e
      cases e
      exact ⟨fs, h1⟩
  refine ⟨i, rfl, hi, rfl, keep, fun H2 s2 => ?_⟩
  refine ⟨_, rfl, _, rfl, (by show 3 ≤ sizeLine; decide), fun t3 n3 => ?_⟩
  have s3 := s2.trans (Same.upd (o := .tup [.str "BadValues", .str "BadRows", .str "BadText"]) n3)
  refine ⟨t3, _, rfl, .inr (SqT.of upd_same), rfl, rfl, _, rfl, ?_⟩
  have e := place_in hi
  show if inV (.str (cnm i)) [V.str "BadValues", V.str "BadRows", V.str "BadText"] = true then _ else _
  rw [e]
  rcases hd with ⟨h1, h5, h12, ed, ep⟩ | ⟨hp, dd, fs, ed, hdd, hf⟩
  · rw [decide_eq_false (by omega)]
    refine ite2 (fun z => Bool.noConfusion (show false = true from z)) (fun _ => ?_)
    refine ⟨(by show 2 ≤ sizeLine; decide), fun t nt => ?_⟩
    subst ep
    exact k _ t (s3.upd' nt) (s3.free nt) upd_same
  · rw [decide_eq_true hp]
    refine ite2 (fun _ => ?_) (fun z => absurd rfl z)
    obtain ⟨x1, x2⟩ := KS.xf i hp
    refine ⟨_, rfl, rfl, cs i, dd, fs, .int pl, x1, x2, rfl, ed, s3 _ _ hdd, hf, (by show 2 ≤ sizeLine; decide), fun t nt => ?_⟩
    exact k _ t (s3.upd' nt) (s3.free nt) upd_same
/-! ### what is looked at in the head -/
def excCB (K : PySem.W.Frag) (D : Addr) : Bool :=
  decide (PySem.W.findIn K (.ref D) "__getattribute__" = some (some (.builtin "BaseException.__getattribute__"))) && (decide (PySem.W.findIn K (.ref D) "__getattr__" = some none) && (decide (PySem.W.subIn K (.ref D) (.type "BaseException") = some true) && (PySem.W.hasDictIn K D &&
  (decide (PySem.W.findIn K (.ref D) "__class__" = some (some (.builtin "object.__class__"))) && (decide (PySem.W.specialIn K (.builtin "object.__class__") "__get__" = some (some (.builtin "getset_descriptor.__get__"))) && (decide (PySem.W.takesIn K (.builtin "object.__class__") = some true) && decide (PySem.W.mroIn K D (.type "object") = some true)))))))
theorem excCB_ok {K : PySem.W.Frag} {D : Addr} (h : excCB K D = true) : L2.ExcC K D := by
  obtain ⟨h1, h⟩ := Bool.and_eq_true_iff.mp h
  obtain ⟨h2, h⟩ := Bool.and_eq_true_iff.mp h
  obtain ⟨h3, h⟩ := Bool.and_eq_true_iff.mp h
  obtain ⟨h4, h⟩ := Bool.and_eq_true_iff.mp h
  obtain ⟨h5, h⟩ := Bool.and_eq_true_iff.mp h
  obtain ⟨h6, h⟩ := Bool.and_eq_true_iff.mp h
  obtain ⟨h7, h8⟩ := Bool.and_eq_true_iff.mp h
  exact ⟨of_decide_eq_true h1, of_decide_eq_true h2, of_decide_eq_true h3, h4, of_decide_eq_true h5, of_decide_eq_true h6, of_decide_eq_true h7, of_decide_eq_true h8⟩
def kindB (K : PySem.W.Frag) (cs : Nat → Addr) (CE : Addr) (i : Nat) : Bool :=
  excCB K (cs i) && ((List.range 13).all (fun j => decide (PySem.W.kitOne K (.ref (cs i)) (.ref (cs j)) = some (decide (i = j)))) && (decide (PySem.W.kitOne K (.ref (cs i)) (.type "ValueError") = some true) && (decide (PySem.W.exmOne K (.ref (cs i)) (.ref CE) = some true) &&
  (if i = 1 ∨ i = 5 ∨ i = 12 then xfB K (cs i) && decide (PySem.W.findIn K (.ref (cs i)) "place" = some none) else true))))
def kindsB (K : PySem.W.Frag) (cs : Nat → Addr) (CE : Addr) : Bool := (List.range 13).all (kindB K cs CE)
theorem kinds_of {K : PySem.W.Frag} {mg : Str → Option Value} {cs : Nat → Addr} {CE : Addr} (h : kindsB K cs CE = true) (g : ∀ i, i < 13 → mg (cnm i) = some (.ref (cs i))) (ge : mg "ColumnError" = some (.ref CE)) : Kinds K mg cs CE := by
  have key : ∀ i, i < 13 → kindB K cs CE i = true := fun i hi => List.all_eq_true.mp h i (List.mem_range.mpr hi)
  have part : ∀ i, i < 13 → L2.ExcC K (cs i) ∧ (∀ j, j < 13 → PySem.W.kitOne K (.ref (cs i)) (.ref (cs j)) = some (decide (i = j))) ∧ PySem.W.kitOne K (.ref (cs i)) (.type "ValueError") = some true ∧ PySem.W.exmOne K (.ref (cs i)) (.ref CE) = some true ∧ (i = 1 ∨ i = 5 ∨ i = 12 → XfC K (cs i) ∧ PySem.W.findIn K (.ref (cs i)) "place" = some none) := fun i hi => by
    obtain ⟨h1, h⟩ := Bool.and_eq_true_iff.mp (key i hi)
    obtain ⟨h2, h⟩ := Bool.and_eq_true_iff.mp h
    obtain ⟨h3, h⟩ := Bool.and_eq_true_iff.mp h
    obtain ⟨h4, h5⟩ := Bool.and_eq_true_iff.mp h
    refine ⟨excCB_ok h1, fun j hj => of_decide_eq_true (List.all_eq_true.mp h2 j (List.mem_range.mpr hj)), of_decide_eq_true h3, of_decide_eq_true h4, fun hp => ?_⟩
    rw [if_pos hp] at h5
    obtain ⟨h6, h7⟩ := Bool.and_eq_true_iff.mp h5
    exact ⟨xfB_ok h6, of_decide_eq_true h7⟩
  exact ⟨g, fun i hi => (part i hi).1, fun i j hi hj => (part i hi).2.1 j hj, fun i hi => (part i hi).2.2.1, fun i hi => (part i hi).2.2.2.1, ge, fun i hp => (part i (by omega)).2.2.2.2 hp⟩
end K3

set_option Elab.async false
set_option linter.all false
set_option maxRecDepth 100000
set_option maxHeartbeats 4000000
/-! KI: refusals with a place: their own __init__ -/
namespace K3
open PySem PySem.Spec PyProof.Rows L2
/-- the refusals' common class, whose __init__ is ValueError's -/
structure ExcB (K : PySem.W.Frag) (mg : Str → Option Value) (CE : Addr) : Prop where
  g : mg "ColumnError" = some (.ref CE)
  s : PySem.W.specialIn K (.ref CE) "__getattribute__" = some (some (.builtin "type.__getattribute__"))
  r : PySem.W.readsIn K CE (.type "type") = true
  f : PySem.W.findCls K (.ref CE) (.type "type") "__init__" = some (.val (.builtin "ValueError.__init__"))
/-- a class of refusals with a place -/
structure ExcP (K : PySem.W.Frag) (mg : Str → Option Value) (x : Str) (st : Stmt) (C : Addr) : Prop where
  g : mg x = some (.ref C)
  o : OexC K C
  nf : PySem.W.findIn K (.ref C) "place" = some none
  ex : ∃ (fI : Addr) (fd : FuncData), FunD K "__init__" (x ++ ".__init__") (defArgs st) (defBody st) (defScope st) [] [] fI fd ∧ Binds K fd ["self", "place"] [] ∧ PySem.W.findIn K (.ref C) "__init__" = some (some (.ref fI)) ∧ PySem.W.typeIn K (.ref fI) = some (.type "function")
section
variable {X : Cx} {e : Expr} {es : List Expr} {ta : TA} {x : Str} {p1 p2 pos : Pos} {CE : Addr}
/-- ColumnError.__init__(self, ..) -/
theorem pe_ceinit {pl : Sem Bool} (B : ExcB X.K X.mg CE) (hg : Gl X "ColumnError") (ha : PA X (e :: es) ta)
    (hc : eval (.Call (.Attribute (.Name "ColumnError" p1) "__init__" p2) (e :: es) [] pos) X.env = (do
      let ov ← eval (.Name "ColumnError" p1) X.env
      standAt p2.atName
      let (f, first) ← holding [ov] (getMethod ov "__init__" pl)
      callWith pos f first (backTo pos (starEach (e :: es) X.env)) (backToKw pos (keywordEach [] X.env))) := by rfl)
    (he : starEach (e :: es) X.env = (false, eval e X.env) :: starEach es X.env := by rfl) (hpl : (backTo pos (starEach es X.env)).any (·.1) = false := by rfl) :
    PE X (.Call (.Attribute (.Name "ColumnError" p1) "__init__" p2) (e :: es) [] pos) (tVeI X.K ta) := by
  refine ⟨fun pins s σ H Q I h => ?_⟩
  refine PySem.W.methodCall_KW (ld_glob I hg B.g ?_ (by decide)) hc
  refine PySem.W.method_cls I.kIn B.s (PySem.W.cls_value I.kIn B.r B.f (by decide +kernel) ?_)
  show wpAny _ _ (callWith pos (Value.builtin "ValueError.__init__") [] (backTo pos (starEach (e :: es) X.env)) []) _ _ _
  refine PyProof.Rows.callWith_method1 (thn (ha.run pos pins _ σ H _ (I.tok _) h) fun us s1 ⟨vs, H1, I1, r1, a, C, ws, ev, hl, T, ea, q⟩ => ?_) he hpl
  subst ev
  cases r1 with
  | @cons _ u0 _ ur ra rw' =>
    obtain rfl : u0 = Value.ref a := ra
    have hlen : ur.length ≤ sizeLine := by
      rw [← Paired.length rw', sizeLine_eq]
      omega
    exact oinit_ok T I1 ea hlen fun s' J => ⟨.non, H1, J, rfl, q⟩
end
section
variable {P : Program} {w : World} {K : PySem.W.Frag} {mg : Str → Option Value} {base : Heap}
def spInit (K : PySem.W.Frag) : Sp := fun vs H Q _ => ∃ (a C : Addr) (k : Int), vs = [.ref a, .int k] ∧ OexC K C ∧ PySem.W.findIn K (.ref C) "place" = some none ∧ H a = some (exo a C none) ∧ k.natAbs < 2 ^ 64 ∧
  ∀ d, H d = none → d ≠ a → Q .non (upd (upd H d (exd d [("place", .int k)])) a (exo a C (some d)))
abbrev s_BadValues : Stmt := inClass (top 3) 0
theorem sc_BadValues : FnScope ["self", "place"] ["self", "place"] (defScope s_BadValues) := ⟨rfl, rfl, rfl, by decide +kernel, rfl, by decide +kernel, by decide +kernel⟩
theorem ok_initV {CE C : Addr} (B : ExcB K mg CE) (D : ExcP K mg "BadValues" s_BadValues C) : ∃ (fI : Addr) (fd : FuncData), FnOk P w K mg base CX0 1 fI fd ["self", "place"] (spInit K) ∧ Binds K fd ["self", "place"] [] ∧ PySem.W.findIn K (.ref C) "__init__" = some (some (.ref fI)) ∧ PySem.W.typeIn K (.ref fI) = some (.type "function") := by
  obtain ⟨fI, fd, F, hb, h1, h2⟩ := D.ex
  refine ⟨fI, fd, F.ok sc_BadValues (fun vs H Q E h => ?_) fun cdv A outer s H vs Q E hr h => ?_, hb, h1, h2⟩
  · obtain ⟨a, C, k, rfl, _⟩ := h
    rfl
  · obtain ⟨a, C, k, rfl, T, hno, ha, hk, q⟩ := h
    have nd := sc_BadValues.nd
    refine ⟨_, pss_cons (ps_expr (pe_ceinit B rfl (pa_cons (pv 0) (pa_cons (pe_joined (.cons pe_str (.cons (pe_fmt (pv 1)) (.cons pe_str .nil)))) pa_nil)))) (pss_one (ps_ost (pv 0) (pv 1))), ?_⟩
    refine ⟨_, rfl, _, rfl, str_fits (str_add (show Str.empty.length ≤ 0 from Nat.le_refl 0) (show (Str.ofString "what stands at place ").length ≤ 21 by decide)) (by decide), _, rfl, .inr ⟨_, rfl, int_log hk, _, rfl, str_fits (str_add (str_add (show Str.empty.length ≤ 0 from Nat.le_refl 0) (show (Str.ofString "what stands at place ").length ≤ 21 by decide)) (int_len hk)) (by decide), _, rfl, str_fits (str_add (str_add (str_add (show Str.empty.length ≤ 0 from Nat.le_refl 0) (show (Str.ofString "what stands at place ").length ≤ 21 by decide)) (int_len hk)) (show (Str.ofString " is no value here").length ≤ 17 by decide)) (by decide), a, C, _, rfl, (by show 1 ≤ 1000; decide), T, ha, ?_⟩⟩
    exact ⟨_, rfl, _, rfl, a, C, rfl, T, hno, .inl ⟨ha, fun dx n ne => q dx n ne⟩⟩
/-- x(k) of such a class, made to be raised -/
theorem mk_pl {C : Addr} {H1 : Hp} {Q : XK} {k : Int} (o : OexC K C) (nf : PySem.W.findIn K (.ref C) "place" = some none) (hk : k.natAbs < 2 ^ 64) (h : ∀ d H2, Same H1 H2 → H1 d = none → H2 d = some (.xd [("place", .int k)]) → Q (.ref C) (some d) H2) :
    ([V.int k] : List V).length ≤ 1000 ∧ ∀ a, H1 a = none → spInit K (.ref a :: ([V.int k] ++ [])) (upd H1 a (exo a C none)) (fun v H2 => v = .non ∧ ∃ (d : Addr) (fs : List (Str × V)), H2 a = some (exo a C (some d)) ∧ H2 d = some (exd d fs) ∧ H1 d = none ∧ Q (.ref C) (some d) (upd (L2.del H2 a) d (.xd fs))) (fun _ _ _ => False) := by
  refine ⟨by show 1 ≤ 1000; decide, fun a na => ⟨a, C, k, rfl, o, nf, upd_same, hk, fun d nd hda => ?_⟩⟩
  have nd1 : H1 d = none := by rw [upd_ne hda] at nd; exact nd
  refine ⟨rfl, d, _, upd_same, (upd_ne hda).trans upd_same, nd1, h d _ (fun b u e => ?_) nd1 upd_same⟩
  rw [upd_ne (ne_of_none e nd1), del_ne (ne_of_none e na), upd_ne (ne_of_none e na), upd_ne (ne_of_none e nd1), upd_ne (ne_of_none e na)]
  exact e
end
section
variable {X : Cx} {x : Str} {C : Addr} {st : Stmt} {e : Expr} {ta : TE} {p pos : Pos}
theorem pmk_pl (D : ExcP X.K X.mg x st C) (F : ∃ (fI : Addr) (fd : FuncData), FnOk X.prog X.w X.K X.mg X.base CX0 1 fI fd ["self", "place"] (spInit X.K) ∧ Binds X.K fd ["self", "place"] [] ∧ PySem.W.findIn X.K (.ref C) "__init__" = some (some (.ref fI)) ∧ PySem.W.typeIn X.K (.ref fI) = some (.type "function"))
    (hr : Room 2 X.A) (he : PE X e ta) (hg : Gl X x := by rfl) (hdb : (x == ("__debug__" : Str)) = false := by decide) (hst : starEach [e] X.env = (false, eval e X.env) :: starEach [] X.env := by rfl) (hpl : (backTo pos (starEach [] X.env)).any (·.1) = false := by rfl) :
    PMk X (.Call (.Name x p) [e] [] pos) (tMkO C (spInit X.K) [] (tCons ta tNil)) := by
  obtain ⟨fI, fd, F1, hb, h1, h2⟩ := F
  exact pmk_oex D.o h1 h2 F1 hr hb .nil pass0 hg D.g (pa_cons he pa_nil hst) hdb hst hpl
end
end K3

set_option Elab.async false
set_option linter.all false
set_option maxRecDepth 100000
set_option maxHeartbeats 4000000
/-! KT: enumerate of a tuple, or of either -/
namespace PySem
open Sem (wp)
set_option maxHeartbeats 4000000 in
theorem k3_enum_new {v : Value} {o : Obj} {H : Heap → Prop} (B : Begins v o H) :
    Meets (Builtin.«enumerate.__new__» ⟨[.type "enumerate", v], []⟩) (fun _ R s => H s.heap ∧
      R (.ok (.ret (.ref (s.heap.push o).objs.size))) { s with heap := (s.heap.push o).push { cls := .type "enumerate", data := .fields #[.none, .bool false, .ref s.heap.objs.size, rawInt 0, .none, .none] } }) :=
  .of_wp fun prog w A R s h => by
    obtain ⟨hp, g, d, tk, os⟩ := s
    obtain ⟨h1, h⟩ := h
    have hsub := sub_enumerate
    have q1 : ∀ {A' : Around} {E : Value → Shared → Prop} {Q : Value → Shared → Prop}, Q (.ref hp.objs.size) ⟨hp.push o, g, d, tk, os⟩ → wpAny (model prog w) A' (pyIter v) Q E ⟨hp, g, d, tk, os⟩ := fun q => B.iter prog w _ _ ⟨hp, g, d, tk, os⟩ _ h1 q
    wp_walk using q1
    refine wpAny_stack_any fun st => wpAny_pure ?_
    split
    · rename_i c _ _ _ _ _
      cases (c == Value.type "enumerate")
      · wp_walk using q1
        exact ⟨_, rfl, h⟩
      · wp_walk using q1
        exact ⟨_, rfl, h⟩
    · wp_walk using q1
      exact ⟨_, rfl, h⟩
theorem k3_call_enum {prog : Program} {w : World} {A : Around} {E : Value → Shared → Prop} {s : Shared} {v : Value} {o : Obj} {H : Heap → Prop} {Q : Value → Shared → Prop} (B : Begins v o H) (h1 : H s.heap)
    (h : ∀ h', IsEnum h' (s.heap.objs.size + 1) s.heap.objs.size 0 .none → h'.get? s.heap.objs.size = some o → (∀ b o, s.heap.get? b = some o → h'.get? b = some o) → Q (.ref (s.heap.objs.size + 1)) { s with heap := h' }) :
    wpAny (model prog w) A (call (.type "enumerate") [v]) Q E s := by
  refine callType_new F.called_enumerate (by decide) (F.typeCall_enumerate_1 _) (F.newCall_enumerate_1 _) (fun obj => F.args_object_init_2 obj _) F.entry_enumerate_new (k3_enum_new B) ⟨h1, ?_⟩
  have hz : (s.heap.push o).objs.size = s.heap.objs.size + 1 := Heap.size_push ..
  show _ ∧ _
  rw [hz]
  have he : IsEnum ((s.heap.push o).push { cls := .type "enumerate", data := .fields #[.none, .bool false, .ref s.heap.objs.size, rawInt 0, .none, .none] }) (s.heap.objs.size + 1) s.heap.objs.size 0 .none := by
    have := Heap.get?_push_size (s.heap.push o) (o := { cls := .type "enumerate", data := .fields #[.none, .bool false, .ref s.heap.objs.size, rawInt 0, .none, .none] }) rfl
    rw [hz] at this
    exact this
  exact ⟨⟨_, he, rfl⟩, h _ he (Heap.get?_push_of_some _ (Heap.get?_push_size _ B.free)) fun b o x => Heap.get?_push_of_some _ (Heap.get?_push_of_some _ x)⟩
end PySem
namespace K3
open PySem PySem.Spec PyProof.Rows L2
/-- the tuple at a, each item in a new pair -/
def IteT (K : PySem.W.Frag) (a : Addr) : It :=
  ⟨fun i H => ∃ (xs : List V) (x : V), SqT K H a xs ∧ xs[i]? = some x, fun i H v H' => ∃ T x, v = .ref T ∧ H T = none ∧ H' = L2.upd H T (.tup [.int (i : Nat), x]) ∧ ∀ xs, SqT K H a xs → xs[i]? = some x, fun i H => ∃ xs : List V, SqT K H a xs ∧ xs.length ≤ i⟩
theorem turn_enumT {P : Program} {w : World} {K : PySem.W.Frag} {elts : List Expr} {kk : Nat} {tpos : Pos} (a e it : Addr) :
    Turn P w K (.Tuple elts kk tpos) (IteT K a) [e, it] e (fun i h => (∃ old, IsEnum h e it ((i : Nat) : Int) old) ∧ h.IsTupleIter it a i ∧ e ≠ it) where
  mem := by simp
  obj := fun i h st b hb => by
    obtain ⟨⟨old, he⟩, ⟨o, ho, hc, hd⟩, _⟩ := st
    have e' : b = e ∨ b = it := by simpa using hb
    rcases e' with z | z
    · rw [z]
      exact ⟨_, he, fun v q => nomatch q⟩
    · rw [z]
      exact ⟨o, ho, fun v q => by rw [hd] at q; cases q⟩
  keep := fun i h h' st k => let ⟨⟨old, he⟩, hi, hne⟩ := st; ⟨⟨old, k e (by simp) _ he⟩, hi.at fun o q => k it (by simp) o q, hne⟩
  item := by
    intro X hP hw hK hc i pins s σ H E I hf st hg
    subst hP hw hK
    obtain ⟨⟨old, he⟩, hit, hne⟩ := st
    obtain ⟨xs, x, hq, hx⟩ := hg
    obtain ⟨its, rv, p, hz⟩ := I.tuple hq
    obtain ⟨u, hu, ru⟩ := rv.get hx
    have p' : s.heap.IsTuple a its.toArray := p
    have hel : e < s.heap.objs.size := Heap.lt_size he
    have hil : it < s.heap.objs.size := by obtain ⟨_, q, _⟩ := hit; exact Heap.lt_size q
    have hai : a ≠ it := fun z => by
      obtain ⟨o1, e1, c1, _⟩ := p'
      obtain ⟨o2, e2, c2, _⟩ := hit
      rw [z, e2] at e1
      cases e1
      rw [c2] at c1
      exact absurd (Value.type.inj c1) (by decide)
    have hae : a ≠ e := fun z => by
      obtain ⟨o1, e1, c1, _⟩ := p'
      rw [z, show s.heap.get? e = _ from he] at e1
      cases e1
      exact absurd (Value.type.inj c1) (by decide)
    have hlt : i < its.toArray.size := by
      have := (List.getElem?_eq_some_iff.mp hu).1
      simpa using this
    refine wpAny_pyNext_enum_itemD (Draws.tuple (show X.A.in1.handled = none from I.ok.hd hc) it a hai its.toArray) he ⟨hit, p'⟩ hlt hne (by simp [hne, Ne.symm hae]) fun y h' tk hy ho hit' hT hsz hk => ?_
    obtain rfl : u = y := by
      have h2 : its[i]? = some y := by simpa using hy
      rw [hu] at h2
      exact Option.some.inj h2
    refine ⟨_, rfl, wpAny_letOwnedTupleGo_enum (s := { s with heap := h', toks := tk + 1 }) ho fun h'' he' sb => ?_⟩
    have hT2 : h''.get? s.heap.objs.size = some { cls := .type "tuple", data := .seq #[.int i tk, u] } := (sb.2 _ (Nat.ne_of_gt hel)).trans hT
    have new : ObjOk X.prog X.w (L2.upd H s.heap.objs.size (.tup [.int (i : Nat), x])) h'' s.heap.objs.size (.tup [.int (i : Nat), x]) :=
      ⟨by show 2 ≤ sizeLine; decide, [.int i tk, u], .cons ⟨_, rfl⟩ (.cons ru .nil), ⟨_, hT2, rfl, _, rfl⟩⟩
    have I1 : Inv X pins σ (L2.upd H s.heap.objs.size (.tup [.int (i : Nat), x])) { s with heap := h'', toks := tk + 1 } :=
      I.turnedNew (ch := [e, it]) (fun b ob hb q => (sb.2 b (fun z => hb (by simp [z]))).trans (hk b ob (fun z => hb (by simp [z])) (fun z => hb (by simp [z])) q)) hf (Nat.le_refl _) new
    refine ⟨.ref s.heap.objs.size, _, I1, rfl, ⟨_, x, rfl, I.hok.fresh (Nat.le_refl _), rfl, fun ys hy => by rw [I.tuple_inj hy hq]; exact hx⟩, ⟨⟨u, ?_⟩, hit'.1.at fun o q => (sb.2 it (Ne.symm hne)).trans q, hne⟩, fun b hb => ?_⟩
    · have e1 : ((i + 1 : Nat) : Int) = (i : Int) + 1 := by omega
      rw [e1]
      exact he'
    · have hb' : b < s.heap.objs.size := by
        have e' : b = e ∨ b = it := by simpa using hb
        rcases e' with z | z
        · rw [z]; exact hel
        · rw [z]; exact hil
      rw [upd_ne (Nat.ne_of_lt hb')]
      exact (hf b hb).1
  done := by
    intro X hP hw hK hc i pins s σ H E I hf st hg
    subst hP hw hK
    obtain ⟨⟨old, he⟩, hit, hne⟩ := st
    obtain ⟨xs, hq, hx⟩ := hg
    obtain ⟨its, rv, p, hz⟩ := I.tuple hq
    obtain ⟨f0, f1, f2, f3, f4, f5⟩ := hf it (by simp)
    have hl := rv.length
    have p' : s.heap.IsTuple a its.toArray := p
    have D : Draws X.prog X.w X.A.in1 it [it, a] i (fun _ _ => True) (fun j h => j = i ∧ h.IsTupleIter it a i ∧ h.IsTuple a its.toArray) :=
      ⟨fun _ _ st => let ⟨o, ho, _⟩ := st.2.1; ⟨o, ho⟩, fun _ _ _ st hk => ⟨st.1, st.2.1.at fun o e => hk it (by simp) o e, st.2.2.at fun o e => hk a (by simp) o e⟩, fun j s Q E hj st _ => absurd st.1 (Nat.ne_of_lt hj), fun s Q E st hE => wpAny_nextOf_tuple_end (show X.A.in1.handled = none from I.ok.hd hc) st.2.1 st.2.2 (by simp; omega) hE⟩
    exact wpAny_pyNext_enum_endD D he ⟨rfl, hit, p'⟩ fun h' eb => ⟨rfl, I.turned (t' := s.toks) (fun b o hb q => eb b o hb q) f0 f1 f3 f4 f5⟩
  self := fun A i s Q E st h => let ⟨⟨_, he⟩, _⟩ := st; wpAny_pyIter_enum he h
theorem walk_enumT {K : PySem.W.Frag} {a : Addr} {xs : List V} : Walk (IteT K a) xs.length (fun H => SqT K H a xs) (YPair (fun i => some (.int (i : Nat))) (fun i => xs[i]?)) := by
  refine ⟨fun i _ hi q => ⟨xs, xs[i], q, by simp [hi]⟩, fun _ q => ⟨xs, q, Nat.le_refl _⟩, fun i H v H' _ q y => ?_⟩
  obtain ⟨T, x, h1, h2, h3, h4⟩ := y
  exact ⟨T, .int (i : Nat), x, h1, h2, h3, rfl, h4 xs q⟩
/-- a list or a tuple -/
def SqS (K : PySem.W.Frag) (H : Hp) (a : Addr) (xs : List V) : Prop := SqL K H a xs ∨ SqT K H a xs
theorem SqS.same {K : PySem.W.Frag} {H H' : Hp} {a : Addr} {xs : List V} (h : SqS K H a xs) (s : Same H H') : SqS K H' a xs := h.elim (fun h => .inl (s.seq h)) fun h => .inr (s.seqT h)
def iEnumS (K : PySem.W.Frag) (ta : TA) : TI := fun σ H R => ta σ H fun vs H1 => ∃ a, vs = [.ref a] ∧ ((∃ xs, SqL K H1 a xs ∧ R (Ite K a) H1) ∨ (∃ xs, SqT K H1 a xs ∧ R (IteT K a) H1))
theorem pi_enumS {X : Cx} {e : Expr} {ta : TA} {p pos tpos : Pos} {elts : List Expr} {kk : Nat} (hg : Gl X "enumerate") (hm : X.mg "enumerate" = none) (ha : PA X [e] ta) (hs : starEach [e] X.env = [(false, eval e X.env)] := by rfl) :
    PI X (.Tuple elts kk tpos) (.Call (.Name "enumerate" p) [e] [] pos) (iEnumS X.K ta) := by
  refine ⟨fun pins s σ H R I h => ?_⟩
  refine Call_ (ld_blt I hg hm boot_enumerate (PyProof.Rows.callWith_type1 (thn (ha.run pos pins s σ H _ I h) fun us s1 ⟨vs, H1, I1, r1, q1⟩ => ?_) hs rfl))
  obtain ⟨a, ex, q⟩ := q1
  subst ex
  have fpK : ∀ b ∈ [s1.heap.objs.size + 1, s1.heap.objs.size], FpOk X pins H1 b := fun b hb => by
    have e' : b = s1.heap.objs.size + 1 ∨ b = s1.heap.objs.size := by simpa using hb
    have hle : s1.heap.objs.size ≤ b := by
      rcases e' with z | z
      · rw [z]; exact Nat.le_add_right _ _
      · rw [z]; exact Nat.le_refl _
    exact I1.fpOk hle (I1.hok.fresh hle)
  cases r1 with
  | cons r rr =>
    cases rr
    cases r
    rcases q with ⟨xs, hq, q⟩ | ⟨xs, hq, q⟩
    · obtain ⟨its, rv, p', hz⟩ := I1.list hq
      refine call_enumerate_list p'.isList fun h' he hit hsz hk => wpAny_pyIter_enum he ?_
      have I2 : Inv X pins σ H1 { s1 with heap := h' } := I1.kept (t' := s1.toks) hk
      exact ⟨s1.heap.objs.size + 1, [s1.heap.objs.size + 1, s1.heap.objs.size], _, _, H1, rfl, I2, turn_enum a (s1.heap.objs.size + 1) s1.heap.objs.size, ⟨⟨.none, he⟩, hit, Nat.succ_ne_self _⟩, fpK, q⟩
    · obtain ⟨its, rv, p', hz⟩ := I1.tuple hq
      refine k3_call_enum (begins_tuple a its.toArray) (show s1.heap.IsTuple a its.toArray from p') fun h' he hit hk => wpAny_pyIter_enum he ?_
      have I2 : Inv X pins σ H1 { s1 with heap := h' } := I1.kept (t' := s1.toks) hk
      exact ⟨s1.heap.objs.size + 1, [s1.heap.objs.size + 1, s1.heap.objs.size], _, _, H1, rfl, I2, turn_enumT a (s1.heap.objs.size + 1) s1.heap.objs.size, ⟨⟨.none, he⟩, ⟨_, hit, rfl, rfl⟩, Nat.succ_ne_self _⟩, fpK, q⟩
end K3

set_option Elab.async false
set_option linter.all false
set_option maxRecDepth 100000
set_option maxHeartbeats 4000000
/-! KN: lambdas in a list, each told -/
namespace K3
open PySem PySem.Spec PyProof.Rows L2
section
variable {Z : Cx} {W : WX} {k i : Nat} {f : Addr} {a : Str} {tl : XK → Hp → VK → Prop} {p1 p2 : Pos}
/-- x(), x a lambda whose maker's cells stand in the base -/
theorem pe_actB (C : CallB Z.prog Z.w Z.K Z.mg Z.base k f tl) (tk : Takes Z W) (hr : Room k Z.A) (hN : Z.N[i]? = some a) (hv : Vis Z.env.scope a) (hd : (a == ("__debug__" : Str)) = false := by decide) (hcd : (a == ("__classdict__" : Str)) = false := by decide) :
    PE Z (.Call (.Name a p1) [] [] p2) (fun σZ HZ Q => σZ[i]? = some (some (.ref f)) ∧ tl (WE W σZ) HZ Q) := by
  refine ⟨fun pinsZ sZ σZ HZ Q IZ h => ?_⟩
  obtain ⟨hs, ht⟩ := h
  refine wpAny_Call_Name_kw (thn ((pe_var (pos := p1) (i := i) hN hv hd hcd).run pinsZ sZ σZ HZ (fun v H1 => v = .ref f ∧ H1 = HZ) IZ ⟨.ref f, hs, rfl, rfl⟩) fun u s1 ⟨v, H1, I1, r1, q1⟩ => ?_)
  obtain ⟨ev, eH⟩ := q1
  subst ev
  rw [eH] at I1
  obtain rfl : u = Value.ref f := r1
  obtain ⟨hfn, rc⟩ := C Z.A Z.stack s1 HZ Q (WE W σZ) hr I1.env0 ht
  refine PySem.W.callWith_F0 hfn ?_
  have hx : PassesAt (L2.CX Z.prog Z.w) Z σZ (WE W σZ) := passAt tk σZ
  refine wpAny_call (codeAny_mono rc fun r s' hq => ?_)
  cases r with
  | error e => exact hx pinsZ HZ s1 e s' I1 hq
  | ok fl =>
    cases fl with
    | ret u => exact I1.after hq
    | next => exact False.elim hq
    | brk => exact False.elim hq
    | cont => exact False.elim hq
end
section
variable {X : Cx} {k : Nat} {ps : List Str} {sp : Heap → Sp} {x : Str} {q pos : Pos} {e : Expr} {es : List Expr} {t : TA}
/-- a call of a def that gets lambdas of the caller: it promises over any base -/
theorem pe_callL (F : ∀ b, Fn X.prog X.w X.K X.mg b CX0 k x ps (sp b)) (hr : Room k X.A) (hfn : ∀ x, X.fn x = true) (ha : PA X (e :: es) t) (hg : Gl X x := by rfl)
    (hdb : (x == ("__debug__" : Str)) = false := by decide) (he : starEach (e :: es) X.env = (false, eval e X.env) :: starEach es X.env := by rfl) (hpl : (backTo pos (starEach es X.env)).any (·.1) = false := by rfl) :
    PE X (.Call (.Name x q) (e :: es) [] pos) (fun σ H Q => t σ H fun vs H1 => ∀ b, LamsOk X σ b → sp b vs H1 Q C8.E0) := by
  obtain ⟨f0, fd0, G0, hm, hk, _⟩ := (F X.base).ex
  refine ⟨fun pins s σ H Q I h => ?_⟩
  refine wpAny_Call_Name_kw (ld_glob I hg hm ?_ hdb)
  refine PySem.W.callWith_K (h₀ := X.base) I.ok.mod.kin hk (thn (ha.run pos pins s σ H _ I h) fun us s1 ⟨vs, H1, I1, r, hq⟩ => ⟨I1.kIn, ?_⟩) he hpl
  have hq := hq _ (lams_ok I1 hfn)
  obtain ⟨f, fd, G, hm', hk', hb⟩ := (F (bigB X H1 s1.heap)).ex
  rw [hm] at hm'
  cases hm'
  have hl : us.length = ps.length := by rw [← r.length]; exact G.len _ _ _ _ hq
  have b := hb s1 us I1.kIn (by rw [List.append_nil]; exact hl)
  rw [List.append_nil] at b
  refine wpAny_call (codeAny_mono (G.run X.A X.stack s1 H1 ⟨us, []⟩ us vs Q C8.E0 hr (bigB_env0 I1).2 b r hq) fun r s' hq => ?_)
  cases r with
  | error e => exact (show False from hq).elim
  | ok fl =>
    cases fl with
    | ret u => exact I1.after hq
    | next => exact False.elim hq
    | brk => exact False.elim hq
    | cont => exact False.elim hq
end
/-- a comprehension of one name with an if -/
theorem lc_ifL {J : It} {n : Nat} {G : Hp → Prop} {Y : Nat → Hp → V → Hp → Prop} (w : Walk J n G Y) {j : Nat} {tt : TT} {te : TE} {σ : L2.St} {H1 : Hp} {D : Addr} {Qd : Hp → Prop} (Pv : Nat → Hp → Prop) (h0 : Pv 0 (L2.upd H1 D (.lst []))) (hG : ∀ i H, i ≤ n → Pv i H → G H)
    (hs : ∀ i x H H', i < n → Pv i H → Y i H x H' → tt (σ.set j (some x)) H' fun b H3 => if b = true then te (σ.set j (some x)) H3 fun y H4 => ∃ acc, H4 D = some (.lst acc) ∧ acc.length < sizeLine ∧ Pv (i + 1) (L2.upd H4 D (.lst (acc ++ [y]))) else Pv (i + 1) H3) (hd : ∀ H, Pv n H → Qd H) :
    ∃ W : Nat → Nat → Hp → Prop, (∃ m, W 0 m (L2.upd H1 D (.lst []))) ∧ ∀ i m H, W i m H →
      (J.stop i H ∧ Qd H) ∨ (J.go i H ∧ ∃ Nx : Hp → Prop, (∀ H', Nx H' → ∃ m', m' < m ∧ W (i + 1) m' H') ∧ ∀ x H', J.yld i H x H' → gName j x (wipe σ [j]) H' fun σ2 H2 => wipe σ2 [j] = wipe σ [j] ∧ tt σ2 H2 fun b H3 =>
        if b = true then te σ2 H3 fun y H4 => ∃ acc, H4 D = some (.lst acc) ∧ acc.length < sizeLine ∧ Nx (L2.upd H4 D (.lst (acc ++ [y]))) else Nx H3) := by
  refine lc_it w Pv h0 hG (fun i x H H' hi p y => ?_) hd
  have q := hs i x H H' hi p y
  have e : (wipe σ [j]).set j (some x) = σ.set j (some x) := by
    show (σ.set j none).set j (some x) = σ.set j (some x)
    rw [List.set_set]
  refine ⟨?_, ?_⟩
  · show ((σ.set j none).set j (some x)).set j none = σ.set j none
    rw [List.set_set, List.set_set]
  · show tt ((wipe σ [j]).set j (some x)) H' (fun b H3 => if b = true then te ((wipe σ [j]).set j (some x)) H3 (fun y H4 => ∃ acc, H4 D = some (.lst acc) ∧ acc.length < sizeLine ∧ Pv (i + 1) (L2.upd H4 D (.lst (acc ++ [y])))) else Pv (i + 1) H3)
    rw [e]
    exact q
/-- a lambda that may be called: it tells T by the law's way -/
structure WorkOk (P : Program) (w : World) (K : PySem.W.Frag) (mg : Str → Option Value) (base : Heap) (k : Nat) (cs : Nat → Addr) (f : Addr) (H : Hp) (T : Hp → VK → Prop) : Prop where
  ex : ∃ (c' : Addr) (q : Str) (tl : XK → Hp → VK → Prop), H c' = some (LamX.CodeO c' q) ∧ CallB P w K mg base k f tl ∧ ∀ H' Q, Same H H' → T H' Q → TTd cs tl H' Q
theorem work_of {X : Cx} {σ : L2.St} {b' : Heap} {cs : Nat → Addr} {params : Arguments} {body : Expr} {scope : Scope} {ps : List Str} {dvs : List V} {k : Nat} {t : XK → TE} {f c' : Addr} {H : Hp} {T : Hp → VK → Prop} (LB : LamsOk X σ b') (L : LamAt X H f c' params body scope dvs) (hL : LamP X.N X.env.scope scope ps) (hB : LamB params body scope ps dvs)
    (hbody : ∀ (A : Around) (outer : List Env) (s : Shared) (H : Hp) (E : XK), Room k (A.deeper (LamX.lamEnv X scope s.heap.objs.size f c')) → PE (LamX.lamCx X A outer s H E scope f c') body (t E))
    (hT : ∀ (H' : Hp) (Q : VK) (E : XK), Same H H' → T H' Q → (∀ cls d H'', Told cs cls d H'' Q → E cls d H'') → t E σ H' Q) : WorkOk X.prog X.w X.K X.mg b' (k + 1) cs f H T := by
  obtain ⟨dV, h1, h2, h3⟩ := id L
  exact ⟨c', _, _, h2, LB.2 hL hB hbody, fun H' Q s' Tt E hE => ⟨L.same s', hT H' Q E s' Tt hE⟩⟩
section
variable {P : Program} {w : World} {K : PySem.W.Frag} {mg : Str → Option Value} {base : Heap}
def spTold (P : Program) (w : World) (K : PySem.W.Frag) (mg : Str → Option Value) (k : Nat) (cs : Nat → Addr) (base : Heap) : Sp := fun vs H Q _ => ∃ (f : Addr) (T : Hp → VK → Prop) (H0 : Hp), vs = [.ref f] ∧ WorkOk P w K mg base (k + 1) cs f H0 T ∧ Same H0 H ∧ T H Q
theorem ok_toldB {k : Nat} {cs : Nat → Addr} {CE : Addr} (KS : Kinds K mg cs CE) (G_class : Fnp P w K mg base CX0 1 "_law_class" P__law_class (spClass K cs)) (D : Df K mg "_law_told" s__law_told P__law_told) :
    Fn P w K mg base CX0 (k + 2) "_law_told" P__law_told (spTold P w K mg k cs base) := by
  refine D.ok sc__law_told (fun vs H Q E h => ?_) (fun f cdv A outer s H vs Q E hr h => ?_)
  · obtain ⟨f, T, H0, rfl, _⟩ := h
    rfl
  · obtain ⟨f', T, H0, rfl, ⟨c', q, tl, hc, C, hT⟩, s0, h⟩ := h
    exact told_gives (X := { cxOf CX0 P w K mg base N__law_told "_law_told" (defScope s__law_told) f cdv A outer s H E with A := A, stack := outer }) (q := q) KS G_class f' c' s H Q tl hr
      (fun W pn xe p1 p2 tk => (pe_actB (i := 0) C tk hr rfl (.inl rfl)).imp fun σ H Q ⟨h1, _, h3⟩ => ⟨h1, h3⟩) (s0 _ _ hc) (hT _ _ s0 h)
abbrev s__law_all : Stmt := top 30
abbrev N__law_all : List Str := ["_law_works", "_law_due", "_law_work"]
abbrev P__law_all : List Str := ["_law_works", "_law_due"]
theorem sc__law_all : FnScope N__law_all P__law_all (defScope s__law_all) := ⟨rfl, rfl, rfl, by decide +kernel, rfl, by decide +kernel, by decide +kernel⟩
def spAll (P : Program) (w : World) (K : PySem.W.Frag) (mg : Str → Option Value) (k n : Nat) (cs : Nat → Addr) (base : Heap) : Sp := fun vs H Q _ => ∃ (p q : Addr) (fs : List Addr), vs = [.ref p, .ref q] ∧ SqL K H p (fs.map V.ref) ∧ fs.length ≤ 1000 ∧
  (∀ f ∈ fs, WorkOk P w K mg base (k + 1) cs f H fun H' Q' => ∀ (v : V) (H'' : Hp), Same H' H'' → (∃ m, m < n ∧ Alk K H'' m v (.ref q)) → Q' v H'') ∧ ∀ H', Same H H' → Q (.bl true) H'
theorem ok_allB {k n : Nat} {cs : Nat → Addr} (hk : 1 + n ≤ k + 2) (T : Txt mg) (G_told : Fn P w K mg base CX0 (k + 2) "_law_told" P__law_told (spTold P w K mg k cs base)) (G_alike : Fn P w K mg base CX0 (1 + n) "_law_alike" P__law_alike (spAlike K n))
    (D : Df K mg "_law_all" s__law_all P__law_all) : Fn P w K mg base CX0 (k + 3) "_law_all" P__law_all (spAll P w K mg k n cs base) := by
  refine D.ok sc__law_all (fun vs H Q E h => ?_) (fun f cdv A outer s H vs Q E hr h => ?_)
  · obtain ⟨p, q, fs, rfl, _⟩ := h
    rfl
  · obtain ⟨p, q, fs, rfl, hS, hl, hW, k⟩ := h
    have nd := sc__law_all.nd
    have hr1 := hr
    have hr2 := hr.mono hk
    refine ⟨_, (pss_one (ps_ret (pe_cmpR (op_eqIs hr.units) (pe_lc (own := [("_law_work", 2)]) (g := gName 2) (by rfl) nd  (pi_list (pv 0)) (blkOk_by (own := [("_law_work", 2)]) (N := N__law_all) (sc := defScope s__law_all) (by decide +kernel)) (fun _ _ _ _ _ => pg_name (i := 2) nd rfl (Or.inl rfl)) (fun _ _ _ _ _ => pts_one (pt_not (pt_val (pe_c G_alike hr2 pass0 (pa_cons (pe_c G_told hr1 pass0 (pa_cons (pv 2) pa_nil)) (pa_cons (pv 1) pa_nil)))))) (fun _ _ _ _ _ => (pv 2))) (pe_lst pa_nil) (nomark _)))), ?_⟩
    refine ⟨_, rfl, p, rfl, ⟨_, hS⟩, fun D0 nD => ?_⟩
    refine lc_ifL (walk_list (xs := fs.map V.ref)) (fun m H' => Same H H' ∧ H' D0 = some (.lst [])) ⟨Same.upd nD, upd_same⟩ (fun _ _ _ h => h.1.seq hS) ?_ ?_
    · rintro m x H3 H3' hm ⟨s3, hD⟩ ⟨rfl, e⟩
      obtain ⟨f, hf, rfl⟩ := map_at e
      refine ⟨_, rfl, f, _, H, rfl, hW f (List.mem_of_getElem? hf), s3, fun v H4 s4 ⟨m', hm', hA⟩ => ?_⟩
      refine ⟨_, rfl, v, .ref q, rfl, m', hm', hA, _, rfl, ?_⟩
      exact ⟨s3.trans s4, s4 _ _ hD⟩
    · rintro H3 ⟨s3, hD⟩
      refine ⟨Nat.zero_le _, fun l nl => ?_⟩
      refine ⟨D0, l, [], [], rfl, rfl, SqL.of (Same.upd nl _ _ hD), SqL.of upd_same, ?_⟩
      exact k _ (s3.upd' nl)
end
end K3

set_option Elab.async false
set_option linter.all false
set_option maxRecDepth 100000
set_option maxHeartbeats 4000000
/-! KJ: what is looked at in the head for refusals with a place -/
namespace K3
open PySem PySem.Spec PyProof.Rows L2
def oexClsB (K : PySem.W.Frag) (C : Addr) : Bool := match K.lookup C with
  | some ⟨.type "type", _, .cls cd, sl⟩ => (match cd.mro, sl.toList with
    | .ref C' :: bm, [_, _, _, _, some (.builtin n), _] => C' == C && n == "ValueError.__new__" && !cd.hasDel && cd.hasDict && PySem.HandSPX.refsVE bm
    | _, _ => false)
  | _ => false
theorem oexCls_ok {K : PySem.W.Frag} {C : Addr} (q : oexClsB K C = true) : ∃ nm q N bs bm sn sub ab col dd k0 k1 k2 k3 k5, K.lookup C = some (excClassObj nm q C N bs bm true sn sub ab col dd k0 k1 k2 k3 k5 "ValueError.__new__") ∧ PySem.HandSPX.refsVE bm = true := by
  unfold oexClsB at q
  split at q
  · rename_i dd cd sl ho
    split at q
    · rename_i C' bm k0 k1 k2 k3 n k5 hm hs
      simp only [Bool.and_eq_true, beq_iff_eq, Bool.not_eq_true'] at q
      obtain ⟨⟨⟨⟨e1, e2⟩, hdel⟩, hdict⟩, ht⟩ := q
      subst e1 e2
      obtain ⟨nm, bs, mro, ns, qn, hd, sn, sub, ab, col, del⟩ := cd
      dsimp only at hm hdel hdict
      subst hm hdel hdict
      have hsl : sl = #[k0, k1, k2, k3, some (.builtin "ValueError.__new__"), k5] := by
        obtain ⟨l⟩ := sl
        simp only at hs
        rw [hs]
      subst hsl
      exact ⟨nm, qn, ns, bs, bm, sn, sub, ab, col, dd, k0, k1, k2, k3, k5, ho, ht⟩
    · cases q
  · cases q
def excPB (K : PySem.W.Frag) (C : Addr) : Bool := oexClsB K C && (decide (PySem.W.findIn K (.ref C) "__setattr__" = some (some (.builtin "object.__setattr__"))) && (decide (PySem.W.subIn K (.ref C) (.type "BaseException") = some true) && (decide (PySem.W.typeIn K (.ref C) = some (.type "type")) &&
  (PySem.W.keepIn K (.ref C) && decide (PySem.W.findIn K (.ref C) "place" = some none)))))
theorem excPB_ok {K : PySem.W.Frag} {C : Addr} (h : excPB K C = true) : OexC K C ∧ PySem.W.findIn K (.ref C) "place" = some none := by
  obtain ⟨h1, h⟩ := Bool.and_eq_true_iff.mp h
  obtain ⟨h2, h⟩ := Bool.and_eq_true_iff.mp h
  obtain ⟨h3, h⟩ := Bool.and_eq_true_iff.mp h
  obtain ⟨h4, h⟩ := Bool.and_eq_true_iff.mp h
  obtain ⟨h5, h6⟩ := Bool.and_eq_true_iff.mp h
  exact ⟨⟨oexCls_ok h1, of_decide_eq_true h2, of_decide_eq_true h3, of_decide_eq_true h4, h5⟩, of_decide_eq_true h6⟩
def isVeInit : Option PySem.W.CFound → Bool
  | some (.val (.builtin s)) => s == "ValueError.__init__"
  | _ => false
theorem isVeInit_ok : ∀ {r : Option PySem.W.CFound}, isVeInit r = true → r = some (.val (.builtin "ValueError.__init__")) := fun {r} h => by
  unfold isVeInit at h
  split at h
  · rw [beq_iff_eq.mp h]
  · cases h
def excBB (K : PySem.W.Frag) (CE : Addr) : Bool := decide (PySem.W.specialIn K (.ref CE) "__getattribute__" = some (some (.builtin "type.__getattribute__"))) && (PySem.W.readsIn K CE (.type "type") && isVeInit (PySem.W.findCls K (.ref CE) (.type "type") "__init__"))
theorem excBB_ok {K : PySem.W.Frag} {mg : Str → Option Value} {CE : Addr} (h : excBB K CE = true) (g : mg "ColumnError" = some (.ref CE)) : ExcB K mg CE := by
  obtain ⟨h1, h⟩ := Bool.and_eq_true_iff.mp h
  obtain ⟨h2, h3⟩ := Bool.and_eq_true_iff.mp h
  exact ⟨g, of_decide_eq_true h1, h2, isVeInit_ok h3⟩
end K3

set_option Elab.async false
set_option linter.all false
set_option maxRecDepth 100000
set_option maxHeartbeats 4000000
/-! KH: a head that also looks at the interpreter's statics (a class's attributes are read over them) -/
namespace K3
open PySem PySem.Spec PyProof.Rows L2
/-- what the names reach, and the statics -/
def asY (g : Addr → Option Obj) (n : Nat) : List Addr := He.asD g n ++ [cStatics]
abbrev frY (g : Addr → Option Obj) (n : Nat) : PySem.W.Frag := He.frT g (asY g n)
def obsY (n : Nat) (fa : List He.Fa) (fn : List He.DefD) (ts : List He.Tab) (tf : List He.Defn) (ex : PySem.W.Frag → Bool) (g : Addr → Option Obj) : He.AlX := (He.obsT fa fn ts (frY g n), ex (frY g n) && He.tabsB g tf (frY g n))
theorem saysY_of {n : Nat} {fa : List He.Fa} {fn : List He.DefD} {ts : List He.Tab} {tf : List He.Defn} {ex : PySem.W.Frag → Bool} {w : World} {h : Heap} (e : obsY n fa fn ts tf ex h.get? = He.valX fn ts w) : He.SaysX fa fn ts tf ex w h (frY h.get? n) := by
  have e1 : He.obsT fa fn ts (frY h.get? n) = He.valT fn ts w := congrArg Prod.fst e
  have e2 : (ex (frY h.get? n) && He.tabsB h.get? tf (frY h.get? n)) = true := congrArg Prod.snd e
  obtain ⟨h1, h2⟩ := Bool.and_eq_true_iff.mp e2
  have key : ∀ p ∈ tf, PySem.W.codeHdIn (frY h.get? n) (He.cT (frY h.get? n) p).1 (He.cT (frY h.get? n) p).2 = true ∧ ∃ o, h.get? (He.cT (frY h.get? n) p).2 = some o ∧ He.emptyTab o = true := fun p hp => by
    obtain ⟨h3, h4⟩ := Bool.and_eq_true_iff.mp (List.all_eq_true.mp h2 p hp)
    refine ⟨h3, ?_⟩
    cases q : h.get? (He.cT (frY h.get? n) p).2 with
    | none =>
      rw [q] at h4
      cases h4
    | some o =>
      rw [q] at h4
      exact ⟨o, rfl, h4⟩
  refine ⟨e1, h1, fun p hp => (key p hp).1, fun p hp => ?_, fun p hp => ?_⟩
  · obtain ⟨_, o, q, z⟩ := key p hp
    exact He.frT_none q z
  · obtain ⟨_, o, q, z⟩ := key p hp
    rw [q, He.emptyTab_eq z]
def hookY (n : Nat) (fa : List He.Fa) (fn : List He.DefD) (ts : List He.Tab) (tf : List He.Defn) (ex : PySem.W.Frag → Bool) : PySem.W.Hook where
  α := He.AlX
  obs := fun s => obsY n fa fn ts tf ex s.heap.get?
  val := fun w => He.valX fn ts w
  says := fun w h => ∃ K : PySem.W.Frag, K.In h ∧ He.SaysX fa fn ts tf ex w h K
  of := fun _ _ e => ⟨_, He.frT_in, saysY_of e⟩
  keeps := fun _ _ _ ⟨K, hK, c⟩ k => ⟨K, PySem.W.Frag.In.keeps hK k, ⟨c.t, c.more, c.hd, c.out, fun p hp => k _ _ (c.empty p hp)⟩⟩
theorem obsY_eq {n : Nat} {fa : List He.Fa} {fn : List He.DefD} {ts : List He.Tab} {tf : List He.Defn} {ex : PySem.W.Frag → Bool} {g : Addr → Option Obj} {s : Shared} (h : ∀ a, g a = s.heap.get? a) : obsY n fa fn ts tf ex g = (hookY n fa fn ts tf ex).obs s := by
  have e : g = s.heap.get? := funext h
  rw [e] <;> rfl
end K3

set_option Elab.async false
set_option linter.all false
set_option maxRecDepth 100000
set_option maxHeartbeats 4000000
/-! K1: packing that may refuse -/
namespace K3
open PySem PySem.Spec PyProof.Rows L2
/-- what stands at names of the module -/
structure Exc1 (K : PySem.W.Frag) (mg : Str → Option Value) (x : Str) (C : Addr) : Prop where
  g : mg x = some (.ref C)
  x : PySem.W.excIn K C [.type "ValueError", .type "Exception", .type "BaseException", .type "object"] "ValueError.__new__" = true
  k : PySem.W.keepIn K (.ref C) = true
  b : PySem.W.subIn K (.ref C) (.type "BaseException") = some true
  t : PySem.W.typeIn K (.ref C) = some (.type "type")
theorem pe_cS {X : Cx} {CX : CXT} {k : Nat} {ps : List Str} {sp : Sp} {E : L2.St → XK} {x : Str} {p pos : Pos} {e : Expr} {es : List Expr} {t : TA} (F : Fn X.prog X.w X.K X.mg X.base CX k x ps sp) (hr : Room k X.A) (hx : ∀ σ, PassesAt CX X σ (E σ)) (ha : PA X (e :: es) t) (hg : Gl X x := by rfl) (hdb : (x == ("__debug__" : Str)) = false := by decide)
    (he : starEach (e :: es) X.env = (false, eval e X.env) :: starEach es X.env := by rfl) (hpl : (backTo pos (starEach es X.env)).any (·.1) = false := by rfl) : PE X (.Call (.Name x p) (e :: es) [] pos) (tCallS sp E t) := by
  obtain ⟨f, fd, G, hm, hk, hb⟩ := F.ex
  exact pe_callS G hr hg hm hk hb hx ha hdb he hpl
theorem getD_at {l : List Int} {i : Nat} (h : i < l.length) : (l.map V.int)[i]? = some (V.int (l.getD i 0)) := by
  rw [List.getElem?_map, List.getD_eq_getElem?_getD, List.getElem?_eq_getElem h]
  rfl
/-- all numbers are from 0 on, below b -/
def Below (b : Int) (ns : List Int) : Prop := ∀ n ∈ ns, 0 ≤ n ∧ n < b
/-- the first that isn't stands at i -/
def FirstBad (b : Int) (ns : List Int) (i : Nat) : Prop := (∃ n, ns[i]? = some n ∧ ¬ (0 ≤ n ∧ n < b)) ∧ ∀ j m, j < i → ns[j]? = some m → 0 ≤ m ∧ m < b
theorem FirstBad.not {b : Int} {ns : List Int} {i : Nat} (h : FirstBad b ns i) : ¬ Below b ns := fun z => by
  obtain ⟨⟨n, h1, h2⟩, _⟩ := h
  exact h2 (z n (List.mem_of_getElem? h1))
theorem FirstBad.eq {b : Int} {ns : List Int} {i j : Nat} (h : FirstBad b ns i) (g : FirstBad b ns j) : i = j := by
  obtain ⟨⟨n, h1, h2⟩, h3⟩ := h
  obtain ⟨⟨m, g1, g2⟩, g3⟩ := g
  rcases Nat.lt_trichotomy i j with z | z | z
  · exact absurd (g3 i n z h1) h2
  · exact z
  · exact absurd (h3 j m z g1) g2
section
variable {P : Program} {w : World} {K : PySem.W.Frag} {mg : Str → Option Value} {base : Heap}
def spPerX (CN : Addr) : Sp := fun vs H Q E => ∃ b : Int, vs = [.int b] ∧ b.natAbs < 2 ^ 64 ∧ (2 ≤ b → b ≤ 10000 → Q (.int (perC b)) H) ∧ (¬ (2 ≤ b ∧ b ≤ 10000) → E (.ref CN) none H)
theorem ok_per_cellX {CN : Addr} (T : Txt mg) (XN : Exc1 K mg "BadNumber" CN) (D : Df K mg "per_cell" s_per_cell P_per_cell) : Fn P w K mg base (L2.CX P w) 1 "per_cell" P_per_cell (spPerX CN) := by
  refine D.okX sc_per_cell (fun vs H Q E h => ?_) (fun f cdv A outer s H vs Q E hr h => ?_)
  · obtain ⟨b, rfl, _⟩ := h
    rfl
  · obtain ⟨b, rfl, hb, k, kE⟩ := h
    have nd := sc_per_cell.nd
    refine ⟨_, (pss_cons (ps_if (PW.pt (pw_or (pt_cmpR op_lt (pv 0) (pe_gint T.c_LEAST_BASE) (nomark _)) (pw_or1 (pt_cmpR op_gt (pv 0) (pe_gint T.c_CELL_SIZE) (nomark _)))))
  (pss_one (ps_raise rfl (takes_of rfl rfl rfl rfl) (SkE.pmk_own1 PySem.F.excBase_ValueError XN.x XN.g XN.k (raises_own XN.b XN.t) rfl (pe_joined (.cons pe_str (.cons (pe_fmt (pe_gint T.c_LEAST_BASE)) (.cons pe_str (.cons (pe_fmt (pe_gint T.c_CELL_SIZE)) (.cons pe_str (.cons (pe_fmt (pv 0)) .nil))))))))))
  pss_nil)
  (pss_cons (ps_set (i := 1) nd rfl (by first | exact Or.inl rfl | exact Or.inr rfl) pe_int)
  (pss_cons (ps_set (i := 2) nd rfl (by first | exact Or.inl rfl | exact Or.inr rfl) (pv 0))
  (pss_cons (ps_while (passes_of rfl) (pt_cmpR op_le (pv 2) (pe_gint T.c_CELL_SIZE) (nomark _))
  (pss_cons (ps_aug (i := 1) nd rfl (by first | exact Or.inl rfl | exact Or.inr rfl) pe_int ip_add)
  (pss_one (ps_aug (i := 2) nd rfl (by first | exact Or.inl rfl | exact Or.inr rfl) (pv 0) iop_mul))))
  (pss_one (ps_ret (pv 1))))))), ?_⟩
    refine ⟨_, rfl, _, _, rfl, rfl, _, rfl, ?_⟩
    refine ite2 (fun c => ?_) (fun c1 => ?_)
    · exact ⟨_, rfl, str_fits (str_add (show Str.empty.length ≤ 0 from Nat.le_refl 0) (show (Str.ofString "a base is from ").length ≤ 15 by decide)) (by decide), .inr ⟨_, rfl, int_log (show (2 : Int).natAbs < 2 ^ 64 by decide), _, rfl, str_fits (str_add (str_add (show Str.empty.length ≤ 0 from Nat.le_refl 0) (show (Str.ofString "a base is from ").length ≤ 15 by decide)) (int_len (show (2 : Int).natAbs < 2 ^ 64 by decide))) (by decide), _, rfl, str_fits (str_add (str_add (str_add (show Str.empty.length ≤ 0 from Nat.le_refl 0) (show (Str.ofString "a base is from ").length ≤ 15 by decide)) (int_len (show (2 : Int).natAbs < 2 ^ 64 by decide))) (show (Str.ofString " to ").length ≤ 4 by decide)) (by decide), .inr ⟨_, rfl, int_log (show (10000 : Int).natAbs < 2 ^ 64 by decide), _, rfl, str_fits (str_add (str_add (str_add (str_add (show Str.empty.length ≤ 0 from Nat.le_refl 0) (show (Str.ofString "a base is from ").length ≤ 15 by decide)) (int_len (show (2 : Int).natAbs < 2 ^ 64 by decide))) (show (Str.ofString " to ").length ≤ 4 by decide)) (int_len (show (10000 : Int).natAbs < 2 ^ 64 by decide))) (by decide), _, rfl, str_fits (str_add (str_add (str_add (str_add (str_add (show Str.empty.length ≤ 0 from Nat.le_refl 0) (show (Str.ofString "a base is from ").length ≤ 15 by decide)) (int_len (show (2 : Int).natAbs < 2 ^ 64 by decide))) (show (Str.ofString " to ").length ≤ 4 by decide)) (int_len (show (10000 : Int).natAbs < 2 ^ 64 by decide))) (show (Str.ofString ", not ").length ≤ 6 by decide)) (by decide), _, rfl, .inr ⟨_, rfl, int_log hb, _, rfl, str_fits (str_add (str_add (str_add (str_add (str_add (str_add (show Str.empty.length ≤ 0 from Nat.le_refl 0) (show (Str.ofString "a base is from ").length ≤ 15 by decide)) (int_len (show (2 : Int).natAbs < 2 ^ 64 by decide))) (show (Str.ofString " to ").length ≤ 4 by decide)) (int_len (show (10000 : Int).natAbs < 2 ^ 64 by decide))) (show (Str.ofString ", not ").length ≤ 6 by decide)) (int_len hb)) (by decide), kE (fun z => absurd (of_decide_eq_true c) (by omega))⟩⟩⟩⟩
    refine ⟨_, rfl, _, _, rfl, rfl, _, rfl, ?_⟩
    refine ite2 (fun c => ?_) (fun c2 => ?_)
    · exact ⟨_, rfl, str_fits (str_add (show Str.empty.length ≤ 0 from Nat.le_refl 0) (show (Str.ofString "a base is from ").length ≤ 15 by decide)) (by decide), .inr ⟨_, rfl, int_log (show (2 : Int).natAbs < 2 ^ 64 by decide), _, rfl, str_fits (str_add (str_add (show Str.empty.length ≤ 0 from Nat.le_refl 0) (show (Str.ofString "a base is from ").length ≤ 15 by decide)) (int_len (show (2 : Int).natAbs < 2 ^ 64 by decide))) (by decide), _, rfl, str_fits (str_add (str_add (str_add (show Str.empty.length ≤ 0 from Nat.le_refl 0) (show (Str.ofString "a base is from ").length ≤ 15 by decide)) (int_len (show (2 : Int).natAbs < 2 ^ 64 by decide))) (show (Str.ofString " to ").length ≤ 4 by decide)) (by decide), .inr ⟨_, rfl, int_log (show (10000 : Int).natAbs < 2 ^ 64 by decide), _, rfl, str_fits (str_add (str_add (str_add (str_add (show Str.empty.length ≤ 0 from Nat.le_refl 0) (show (Str.ofString "a base is from ").length ≤ 15 by decide)) (int_len (show (2 : Int).natAbs < 2 ^ 64 by decide))) (show (Str.ofString " to ").length ≤ 4 by decide)) (int_len (show (10000 : Int).natAbs < 2 ^ 64 by decide))) (by decide), _, rfl, str_fits (str_add (str_add (str_add (str_add (str_add (show Str.empty.length ≤ 0 from Nat.le_refl 0) (show (Str.ofString "a base is from ").length ≤ 15 by decide)) (int_len (show (2 : Int).natAbs < 2 ^ 64 by decide))) (show (Str.ofString " to ").length ≤ 4 by decide)) (int_len (show (10000 : Int).natAbs < 2 ^ 64 by decide))) (show (Str.ofString ", not ").length ≤ 6 by decide)) (by decide), _, rfl, .inr ⟨_, rfl, int_log hb, _, rfl, str_fits (str_add (str_add (str_add (str_add (str_add (str_add (show Str.empty.length ≤ 0 from Nat.le_refl 0) (show (Str.ofString "a base is from ").length ≤ 15 by decide)) (int_len (show (2 : Int).natAbs < 2 ^ 64 by decide))) (show (Str.ofString " to ").length ≤ 4 by decide)) (int_len (show (10000 : Int).natAbs < 2 ^ 64 by decide))) (show (Str.ofString ", not ").length ≤ 6 by decide)) (int_len hb)) (by decide), kE (fun z => absurd (of_decide_eq_true c) (by omega))⟩⟩⟩⟩
    have h2 : 2 ≤ b := by
      have : ¬ b < 2 := fun z => c1 (decide_eq_true z)
      omega
    have h1 : b ≤ 10000 := by
      have : ¬ 10000 < b := fun z => c2 (decide_eq_true z)
      omega
    have k := k h2 h1
    refine ⟨_, rfl, ?_⟩
    refine while_by (fun σ H' => ∃ (m : Nat) (r : Int) (f : Nat), σ = [some (.int b), some (.int m), some (.int r)] ∧ PerAt b m r f ∧ H' = H) (fun σ _ => reach σ) ⟨0, b, 14, rfl, .start h2, rfl⟩ ?_ (fun σ H Q Q' im h => ?_)
    · rintro σ H' ⟨m, r, f, rfl, A, rfl⟩
      refine ⟨_, rfl, _, _, rfl, rfl, _, rfl, ?_⟩
      refine ite2 (fun c => ?_) (fun c => ?_)
      · have c' : r ≤ 10000 := of_decide_eq_true c
        obtain ⟨f', A'⟩ := A.turn h2 c'
        refine ⟨_, rfl, _, _, rfl, rfl, _, rfl, _, rfl, _, _, rfl, rfl, .inr (by constructor <;> omega), ?_⟩
        have p1 := A.pos
        have p2 := A'.pos
        have p3 : r * 2 ≤ r * b := Int.mul_le_mul_of_nonneg_left h2 (by omega)
        refine ⟨⟨m + 1, r * b, f', rfl, A', rfl⟩, ?_⟩
        show (10001 - r * b).toNat < (10001 - r).toNat
        omega
      · have c' : ¬ r ≤ 10000 := fun z => c (decide_eq_true z)
        refine ⟨_, rfl, ?_⟩
        rw [A.done c'] at k
        exact k
    · obtain ⟨v, e, i, j, e1, e2, kk, e3, q⟩ := h
      exact ⟨v, e, i, j, e1, e2, kk, e3, im _ _ q⟩
def spChkX (K : PySem.W.Frag) (CV : Addr) : Sp := fun vs H Q E => ∃ (b : Int) (a : Addr) (ns : List Int), vs = [.int b, .ref a] ∧ SqS K H a (ns.map V.int) ∧ ns.length ≤ 1000 ∧ (Below b ns → ∀ H', Same H H' → Q .non H') ∧
  (∀ i, FirstBad b ns i → ∀ d H', Same H H' → H d = none → H' d = some (.xd [("place", .int i)]) → E (.ref CV) (some d) H')
theorem ok_check_belowX {CV CE : Addr} (T : Txt mg) (XB : ExcB K mg CE) (XV : ExcP K mg "BadValues" s_BadValues CV) (D : Df K mg "check_below" s_check_below P_check_below) : Fn P w K mg base (L2.CX P w) 3 "check_below" P_check_below (spChkX K CV) := by
  refine D.okX sc_check_below (fun vs H Q E h => ?_) (fun f cdv A outer s H vs Q E hr h => ?_)
  · obtain ⟨b, a, ns, rfl, _⟩ := h
    rfl
  · obtain ⟨b, a, ns, rfl, hS, hl, k, kE⟩ := h
    have nd := sc_check_below.nd
    refine ⟨_, (pss_one (ps_for (passes_of rfl) rfl (pi_enumS (by rfl) T.b_enumerate (pa_cons (pv 1) pa_nil)) (pg_tup (by rfl) (pgs_cons (pg_name (i := 2) nd rfl (by first | exact Or.inl rfl | exact Or.inr rfl)) (pgs_cons (pg_name (i := 3) nd rfl (by first | exact Or.inl rfl | exact Or.inr rfl)) pgs_nil)))
  (pss_one (ps_if (PW.pt (pw_or (pt_cmpR op_lt (pv 3) pe_int (nomark _)) (pw_or1 (pt_cmpR op_ge (pv 3) (pv 0) (nomark _)))))
  (pss_one (ps_raise rfl (takes_of rfl rfl rfl rfl) (pmk_pl XV (ok_initV XB XV) hr (pv 2))))
  pss_nil)))), ?_⟩
    rcases hS with hS | hS
    · refine ⟨_, rfl, a, rfl, .inl ⟨_, hS, for_it walk_enum (fun i σ H' => (∃ v1 v2, σ = [some (.int b), some (.ref a), v1, v2]) ∧ Same H H' ∧ ∀ j m, j < i → ns[j]? = some m → 0 ≤ m ∧ m < b) ⟨⟨none, none, rfl⟩, Same.refl H, fun _ _ h => absurd h (Nat.not_lt_zero _)⟩ (fun i σ H' _ ⟨_, s5, _⟩ => s5.seq hS) ?_ ?_⟩⟩
      · rintro i x σ H1 H2 hi ⟨⟨v1, v2, rfl⟩, s5, gd⟩ ⟨T0, x0, y0, rfl, nT, rfl, e1, e2⟩
        obtain ⟨z, hz, rfl⟩ := map_at e2
        obtain rfl := Option.some.inj e1
        have sT := s5.upd' (o := .tup [.int (i : Nat), .int z]) nT
        refine ⟨T0, _, rfl, SqT.of upd_same, rfl, _, _, rfl, _, _, rfl, rfl, ?_⟩
        have hi' : i < ns.length := by rw [List.length_map] at hi; exact hi
        have hik : (i : Int).natAbs < 2 ^ 64 := by omega
        have bad : ¬ (0 ≤ z ∧ z < b) → FirstBad b ns i := fun nz => ⟨⟨z, hz, nz⟩, gd⟩
        refine ⟨_, rfl, _, _, rfl, rfl, _, rfl, ?_⟩
        refine ite2 (fun c => ?_) (fun c1 => ?_)
        · exact ⟨_, rfl, mk_pl XV.o XV.nf hik fun d H2 s2 n2 h2 => kE i (bad fun q => absurd (of_decide_eq_true c) (by omega)) d H2 (sT.trans s2) (sT.free n2) h2⟩
        refine ⟨_, rfl, _, rfl, _, _, rfl, rfl, _, rfl, ?_⟩
        refine ite2 (fun c => ?_) (fun c2 => ?_)
        · exact ⟨_, rfl, mk_pl XV.o XV.nf hik fun d H2 s2 n2 h2 => kE i (bad fun q => absurd (of_decide_eq_true c) (by omega)) d H2 (sT.trans s2) (sT.free n2) h2⟩
        refine ⟨⟨_, _, rfl⟩, sT, fun j m hj hm => ?_⟩
        by_cases e : j = i
        · subst e
          rw [hz] at hm
          obtain rfl := Option.some.inj hm
          have a1 : ¬ z < 0 := fun q => c1 (decide_eq_true q)
          have a2 : ¬ b ≤ z := fun q => c2 (decide_eq_true q)
          omega
        · exact gd j m (by omega) hm
      · rintro σ H' ⟨⟨v1, v2, rfl⟩, s5, gd⟩
        refine k (fun n hn => ?_) _ s5
        obtain ⟨j, hj⟩ := List.getElem?_of_mem hn
        exact gd j n (by rw [List.length_map]; exact (List.getElem?_eq_some_iff.mp hj).1) hj
    · refine ⟨_, rfl, a, rfl, .inr ⟨_, hS, for_it walk_enumT (fun i σ H' => (∃ v1 v2, σ = [some (.int b), some (.ref a), v1, v2]) ∧ Same H H' ∧ ∀ j m, j < i → ns[j]? = some m → 0 ≤ m ∧ m < b) ⟨⟨none, none, rfl⟩, Same.refl H, fun _ _ h => absurd h (Nat.not_lt_zero _)⟩ (fun i σ H' _ ⟨_, s5, _⟩ => s5.seqT hS) ?_ ?_⟩⟩
      · rintro i x σ H1 H2 hi ⟨⟨v1, v2, rfl⟩, s5, gd⟩ ⟨T0, x0, y0, rfl, nT, rfl, e1, e2⟩
        obtain ⟨z, hz, rfl⟩ := map_at e2
        obtain rfl := Option.some.inj e1
        have sT := s5.upd' (o := .tup [.int (i : Nat), .int z]) nT
        refine ⟨T0, _, rfl, SqT.of upd_same, rfl, _, _, rfl, _, _, rfl, rfl, ?_⟩
        have hi' : i < ns.length := by rw [List.length_map] at hi; exact hi
        have hik : (i : Int).natAbs < 2 ^ 64 := by omega
        have bad : ¬ (0 ≤ z ∧ z < b) → FirstBad b ns i := fun nz => ⟨⟨z, hz, nz⟩, gd⟩
        refine ⟨_, rfl, _, _, rfl, rfl, _, rfl, ?_⟩
        refine ite2 (fun c => ?_) (fun c1 => ?_)
        · exact ⟨_, rfl, mk_pl XV.o XV.nf hik fun d H2 s2 n2 h2 => kE i (bad fun q => absurd (of_decide_eq_true c) (by omega)) d H2 (sT.trans s2) (sT.free n2) h2⟩
        refine ⟨_, rfl, _, rfl, _, _, rfl, rfl, _, rfl, ?_⟩
        refine ite2 (fun c => ?_) (fun c2 => ?_)
        · exact ⟨_, rfl, mk_pl XV.o XV.nf hik fun d H2 s2 n2 h2 => kE i (bad fun q => absurd (of_decide_eq_true c) (by omega)) d H2 (sT.trans s2) (sT.free n2) h2⟩
        refine ⟨⟨_, _, rfl⟩, sT, fun j m hj hm => ?_⟩
        by_cases e : j = i
        · subst e
          rw [hz] at hm
          obtain rfl := Option.some.inj hm
          have a1 : ¬ z < 0 := fun q => c1 (decide_eq_true q)
          have a2 : ¬ b ≤ z := fun q => c2 (decide_eq_true q)
          omega
        · exact gd j m (by omega) hm
      · rintro σ H' ⟨⟨v1, v2, rfl⟩, s5, gd⟩
        refine k (fun n hn => ?_) _ s5
        obtain ⟨j, hj⟩ := List.getElem?_of_mem hn
        exact gd j n (by rw [List.length_map]; exact (List.getElem?_eq_some_iff.mp hj).1) hj
def spPckX (K : PySem.W.Frag) (CN CV : Addr) : Sp := fun vs H Q E => ∃ (b : Int) (a : Addr) (ns : List Int), vs = [.int b, .ref a] ∧ b.natAbs < 2 ^ 64 ∧ SqL K H a (ns.map V.int) ∧ ns.length ≤ 1000 ∧
  (2 ≤ b → b ≤ 10000 → Below b ns → ∀ (H' : Hp) (p : Addr), Same H H' → H p = none → H' p = some (.tup ((K3.packed b ns).map V.int)) → Q (.ref p) H') ∧ (¬ (2 ≤ b ∧ b ≤ 10000) → E (.ref CN) none H) ∧
  (2 ≤ b → b ≤ 10000 → ∀ i, FirstBad b ns i → ∀ d H', Same H H' → H d = none → H' d = some (.xd [("place", .int i)]) → E (.ref CV) (some d) H')
theorem ok_packedX {CN CV : Addr} (T : Txt mg) (G_per_cell : Fn P w K mg base (L2.CX P w) 1 "per_cell" P_per_cell (spPerX CN)) (G_check_below : Fn P w K mg base (L2.CX P w) 3 "check_below" P_check_below (spChkX K CV))
    (G_cell_of : Fn P w K mg base CX0 1 "cell_of" P_cell_of (spCell K)) (D : Df K mg "packed" s_packed P_packed) : Fn P w K mg base (L2.CX P w) 4 "packed" P_packed (spPckX K CN CV) := by
  refine D.okX sc_packed (fun vs H Q E h => ?_) (fun f cdv A outer s H vs Q E hr h => ?_)
  · obtain ⟨b, a, ns, rfl, _⟩ := h
    rfl
  · obtain ⟨b, a, ns, rfl, hb64, hS, hl, k, kN, kV⟩ := h
    have nd := sc_packed.nd
    refine ⟨_, (pss_cons (ps_set (i := 2) nd rfl (by first | exact Or.inl rfl | exact Or.inr rfl) (pe_cS (E := fun _ => E) G_per_cell (hr.mono (by decide)) (fun σ => passAt (takes_of rfl rfl rfl rfl) σ) (pa_cons (pv 0) pa_nil)))
  (pss_cons (ps_expr (pe_cS (E := fun _ => E) G_check_below (hr.mono (by decide)) (fun σ => passAt (takes_of rfl rfl rfl rfl) σ) (pa_cons (pv 0) (pa_cons (pv 1) pa_nil))))
  (pss_one (ps_ret (pe_callTy call_tuple_of (by rfl) T.b_tuple (by decide +kernel) (pa_cons (pe_lc (own := [("at", 3)]) (g := gName 3) (by rfl) nd  (pi_range3 (by rfl) T.b_range (pa_cons pe_int (pa_cons (pe_callB call_len_seq (by rfl) T.b_len (by decide +kernel) (pa_cons (pv 1) pa_nil)) (pa_cons (pv 2) pa_nil)))) (blkOk_by (own := [("at", 3)]) (N := N_packed) (sc := defScope s_packed) (by decide +kernel)) (fun _ _ _ _ _ => pg_name (i := 3) nd rfl (Or.inl rfl)) (fun _ _ _ _ _ => pts_nil) (fun _ _ _ _ _ => (pe_c G_cell_of (hr.mono (by decide)) pass0 (pa_cons (pv 0) (pa_cons (pe_slice (sl_listK (K := K) rfl) (pv 1) (po_some (pv 3)) (po_some (pe_op op_add (pv 3) (pv 2)))) pa_nil))))) pa_nil)))))), ?_⟩
    refine ⟨_, rfl, b, rfl, hb64, fun h2 h1 => ?_, kN⟩
    have hk := perC_pos h1
    have hkl := perC_le b
    refine ⟨_, rfl, _, rfl, b, a, ns, rfl, .inl hS, hl, fun hB H1 s1 => ?_, kV h2 h1⟩
    have k := k h2 h1 hB
    refine ⟨_, rfl, a, _, rfl, .inl (s1.seq hS), _, rfl, _, _, _, cells (perC b) ns.length, rfl, ?_, ?_⟩
    · rw [List.length_map]
      exact rgC_up hk (by omega) (by omega)
    intro D nD
    have sD : Same H (upd H1 D (.lst [])) := s1.upd' nD
    have nDH : H D = none := s1.free nD
    refine lc_all walk_rangeC (fun i H' => Same H H' ∧ H' D = some (.lst (((List.range i).map (fun i => val b ((ns.drop (i * perC b)).take (perC b)))).map V.int))) ⟨sD, upd_same⟩ (fun _ _ _ _ => True.intro) ?_ ?_
    · rintro i x H2 H3 hi ⟨s2, hD⟩ ⟨rfl, rfl⟩
      have hc := (cells_lt hk).mp hi
      have e0 : (0 : Int) + (i : Int) * (perC b : Int) = ((i * perC b : Nat) : Int) := by rw [Int.natCast_mul]; omega
      refine ⟨_, rfl, _, rfl, _, rfl, _, rfl, _, rfl, _, rfl, _, _, rfl, rfl, _, rfl, a, _, rfl, s2.seq hS, fun p np => ?_⟩
      refine ⟨b, p, (ns.drop (i * perC b)).take (perC b), rfl, SqL.of ?_, h2, h1, ?_⟩
      · rw [upd_same, e0, cutV_part, List.map_take, List.map_drop]
      refine ⟨_, (upd_ne (ne_of_none hD np)).trans hD, ?_, Same.put (s2.upd' np) nDH, ?_⟩
      · rw [List.length_map, List.length_map, List.length_range, sizeLine_eq]
        have := cells_le (n := ns.length) hk
        omega
      · rw [upd_same, List.range_succ, List.map_append, List.map_append]
        rfl
    · rintro H2 ⟨s2, hD⟩
      refine ⟨_, _, rfl, .inl ⟨SqL.of hD, fun l nl => ?_⟩⟩
      rw [packed_eq h1]
      exact k _ _ (s2.upd' nl) (s2.free nl) upd_same
abbrev s_read_packed : Stmt := top 20
abbrev N_read_packed : List Str := ["base", "cells", "place", "many"]
abbrev P_read_packed : List Str := ["base", "cells", "place"]
theorem sc_read_packed : FnScope N_read_packed P_read_packed (defScope s_read_packed) := ⟨rfl, rfl, rfl, by decide +kernel, rfl, by decide +kernel, by decide +kernel⟩
/-- what stands at a place of cells -/
def atCells (b : Int) (cs : List Int) (i : Nat) : Int := (digits b (perC b) (cs.getD (i / perC b) 0)).getD (i % perC b) 0
def spRdX (K : PySem.W.Frag) (CN CV : Addr) : Sp := fun vs H Q E => ∃ (b pl : Int) (a : Addr) (cs : List Int), vs = [.int b, .ref a, .int pl] ∧ b.natAbs < 2 ^ 64 ∧ pl.natAbs < 2 ^ 64 ∧ SqT K H a (cs.map V.int) ∧ cs.length ≤ 1000 ∧
  (2 ≤ b → b ≤ 10000 → Below 10000 cs → ∀ i : Nat, pl = i → i < perC b * cs.length → ∀ H', Same H H' → Q (.int (atCells b cs i)) H') ∧ (¬ (2 ≤ b ∧ b ≤ 10000) → E (.ref CN) none H) ∧
  (2 ≤ b → b ≤ 10000 → ∀ i, FirstBad 10000 cs i → ∀ d H', Same H H' → H d = none → H' d = some (.xd [("place", .int i)]) → E (.ref CV) (some d) H') ∧
  (2 ≤ b → b ≤ 10000 → Below 10000 cs → ¬ (0 ≤ pl ∧ pl < ((perC b * cs.length : Nat) : Int)) → ∀ H', Same H H' → E (.ref CN) none H')
theorem ok_read_packedX {CN CV : Addr} (T : Txt mg) (XN : Exc1 K mg "BadNumber" CN) (G_per_cell : Fn P w K mg base (L2.CX P w) 1 "per_cell" P_per_cell (spPerX CN)) (G_check_below : Fn P w K mg base (L2.CX P w) 3 "check_below" P_check_below (spChkX K CV))
    (G_numbers_in : Fn P w K mg base CX0 2 "numbers_in" P_numbers_in spNum) (D : Df K mg "read_packed" s_read_packed P_read_packed) : Fn P w K mg base (L2.CX P w) 4 "read_packed" P_read_packed (spRdX K CN CV) := by
  refine D.okX sc_read_packed (fun vs H Q E h => ?_) (fun f cdv A outer s H vs Q E hr h => ?_)
  · obtain ⟨b, pl, a, cs, rfl, _⟩ := h
    rfl
  · obtain ⟨b, pl, a, cs, rfl, hb64, hp64, hS, hl, k, kN, kV, kP⟩ := h
    have nd := sc_read_packed.nd
    refine ⟨_, (pss_cons (ps_set (i := 3) nd rfl (by first | exact Or.inl rfl | exact Or.inr rfl) (pe_cS (E := fun _ => E) G_per_cell (hr.mono (by decide)) (fun σ => passAt (takes_of rfl rfl rfl rfl) σ) (pa_cons (pv 0) pa_nil)))
  (pss_cons (ps_expr (pe_cS (E := fun _ => E) G_check_below (hr.mono (by decide)) (fun σ => passAt (takes_of rfl rfl rfl rfl) σ) (pa_cons (pe_gint T.c_CELL_SIZE) (pa_cons (pv 1) pa_nil))))
  (pss_cons (ps_if (PW.pt (pw_or (pt_cmpR op_lt (pv 2) pe_int (nomark _)) (pw_or1 (pt_cmpR op_ge (pv 2) (pe_op op_mul (pv 3) (pe_callB call_len_seq (by rfl) T.b_len (by decide +kernel) (pa_cons (pv 1) pa_nil))) (nomark _)))))
  (pss_one (ps_raise rfl (takes_of rfl rfl rfl rfl) (SkE.pmk_own1 PySem.F.excBase_ValueError XN.x XN.g XN.k (raises_own XN.b XN.t) rfl (pe_joined (.cons (pe_fmt (pe_callB call_len_seq (by rfl) T.b_len (by decide +kernel) (pa_cons (pv 1) pa_nil))) (.cons pe_str (.cons (pe_fmt (pv 2)) .nil)))))))
  pss_nil)
  (pss_one (ps_ret (pe_ix ix_list (pe_c G_numbers_in (hr.mono (by decide)) pass0 (pa_cons (pv 0) (pa_cons (pe_ix ix_tup (pv 1) (pe_op op_fdiv (pv 2) (pv 3)) (fun _ _ => rfl)) pa_nil))) (pe_op op_mod (pv 2) (pv 3)) (fun _ _ => rfl))))))), ?_⟩
    refine ⟨_, rfl, b, rfl, hb64, fun h2 h1 => ?_, kN⟩
    have hk := perC_pos h1
    have hkl := perC_le b
    refine ⟨_, rfl, 10000, a, cs, rfl, .inr hS, hl, fun hB H1 s1 => ?_, kV h2 h1⟩
    have hlm : (cs.map V.int).length = cs.length := List.length_map ..
    have hlen : (((cs.map V.int).length : Nat) : Int).natAbs < 2 ^ 64 := by omega
    have kP := kP h2 h1 hB
    have hmul : ((perC b : Nat) : Int) * (((cs.map V.int).length : Nat) : Int) = ((perC b * cs.length : Nat) : Int) := by rw [hlm, Int.natCast_mul]
    refine ⟨_, rfl, _, _, rfl, rfl, _, rfl, ?_⟩
    refine ite2 (fun c => ?_) (fun c1 => ?_)
    · exact ⟨_, rfl, a, _, rfl, .inr (s1.seqT hS), .inr ⟨_, rfl, int_log hlen, _, rfl, str_fits (str_add (show Str.empty.length ≤ 0 from Nat.le_refl 0) (int_len hlen)) (by decide), _, rfl, str_fits (str_add (str_add (show Str.empty.length ≤ 0 from Nat.le_refl 0) (int_len hlen)) (show (Str.ofString " cells have no place ").length ≤ 21 by decide)) (by decide), _, rfl, .inr ⟨_, rfl, int_log hp64, _, rfl, str_fits (str_add (str_add (str_add (show Str.empty.length ≤ 0 from Nat.le_refl 0) (int_len hlen)) (show (Str.ofString " cells have no place ").length ≤ 21 by decide)) (int_len hp64)) (by decide), kP (fun z => absurd (of_decide_eq_true c) (by omega)) _ s1⟩⟩⟩
    refine ⟨_, rfl, _, rfl, _, rfl, a, _, rfl, .inr (s1.seqT hS), _, _, rfl, rfl, .inr (by constructor <;> omega), _, _, rfl, rfl, _, rfl, ?_⟩
    refine ite2 (fun c => ?_) (fun c2 => ?_)
    · exact ⟨_, rfl, a, _, rfl, .inr (s1.seqT hS), .inr ⟨_, rfl, int_log hlen, _, rfl, str_fits (str_add (show Str.empty.length ≤ 0 from Nat.le_refl 0) (int_len hlen)) (by decide), _, rfl, str_fits (str_add (str_add (show Str.empty.length ≤ 0 from Nat.le_refl 0) (int_len hlen)) (show (Str.ofString " cells have no place ").length ≤ 21 by decide)) (by decide), _, rfl, .inr ⟨_, rfl, int_log hp64, _, rfl, str_fits (str_add (str_add (str_add (show Str.empty.length ≤ 0 from Nat.le_refl 0) (int_len hlen)) (show (Str.ofString " cells have no place ").length ≤ 21 by decide)) (int_len hp64)) (by decide), kP (fun z => by have := of_decide_eq_true c; rw [hmul] at this; omega) _ s1⟩⟩⟩
    have p0 : 0 ≤ pl := by
      have : ¬ pl < 0 := fun z => c1 (decide_eq_true z)
      omega
    obtain ⟨i, rfl⟩ := Int.eq_ofNat_of_zero_le p0
    have hi : i < perC b * cs.length := by
      have : ¬ ((perC b : Nat) : Int) * (((cs.map V.int).length : Nat) : Int) ≤ (i : Int) := fun z => c2 (decide_eq_true z)
      rw [hmul] at this
      omega
    have hq : i / perC b < cs.length := Nat.div_lt_of_lt_mul hi
    have hr2 : i % perC b < perC b := Nat.mod_lt _ hk
    have ed : (i : Int) / (perC b : Int) = ((i / perC b : Nat) : Int) := (Int.natCast_ediv ..).symm
    have em : (i : Int) % (perC b : Int) = ((i % perC b : Nat) : Int) := (Int.natCast_emod ..).symm
    have g1 := getD_at hq
    refine ⟨_, rfl, _, rfl, _, rfl, _, rfl, _, _, rfl, rfl, ⟨by omega, by omega⟩, a, _, _, _, rfl, rfl, s1.seqT hS, (by rw [ed]; exact atI_nat g1), b, _, rfl, h2, h1, fun H2 p s2 np hp => ?_⟩
    have g2 : ((digits b (perC b) (cs.getD (i / perC b) 0)).map V.int)[i % perC b]? = some (V.int (atCells b cs i)) := getD_at (by rw [digits_length]; exact hr2)
    refine ⟨_, rfl, _, rfl, _, _, rfl, rfl, by omega, p, _, _, _, rfl, rfl, SqL.of hp, (by rw [em]; exact atI_nat g2), ?_⟩
    exact k h2 h1 hB i rfl hi _ (s1.trans s2)
end
end K3

set_option linter.all false
/-! K1M: what the law knows of packed numbers, in plain Lean -/
namespace K3
theorem perGo_pow {b : Int} (hb : 0 ≤ b) : ∀ (f : Nat) (r : Int), perGo b f r = 0 ∨ r * b ^ (perGo b f r - 1) ≤ 10000
  | 0, r => .inl rfl
  | f + 1, r => by
    show (if r ≤ 10000 then 1 + perGo b f (r * b) else 0) = 0 ∨ r * b ^ ((if r ≤ 10000 then 1 + perGo b f (r * b) else 0) - 1) ≤ 10000
    by_cases c : r ≤ 10000
    · rw [if_pos c]
      refine .inr ?_
      rw [Nat.add_sub_cancel_left]
      rcases perGo_pow hb f (r * b) with z | z
      · rw [z, Int.pow_zero, Int.mul_one]
        exact c
      · by_cases e : perGo b f (r * b) = 0
        · rw [e, Int.pow_zero, Int.mul_one]
          exact c
        · obtain ⟨m, hm⟩ : ∃ m, perGo b f (r * b) = m + 1 := ⟨_, (Nat.succ_pred_eq_of_ne_zero e).symm⟩
          rw [hm] at z ⊢
          rw [Nat.add_sub_cancel] at z
          rw [Int.pow_succ, Int.mul_comm (b ^ m) b, ← Int.mul_assoc]
          exact z
    · rw [if_neg c]
      exact .inl rfl
theorem perC_pow {b : Int} (h2 : 2 ≤ b) (h1 : b ≤ 10000) : b ^ perC b ≤ 10000 := by
  have hk := perC_pos h1
  rcases perGo_pow (by omega : 0 ≤ b) 14 b with z | z
  · have : perC b = 0 := z
    omega
  · obtain ⟨m, hm⟩ : ∃ m, perC b = m + 1 := ⟨perC b - 1, by omega⟩
    have z' : b * b ^ (perC b - 1) ≤ 10000 := z
    rw [hm] at z' ⊢
    rw [Nat.add_sub_cancel] at z'
    rw [Int.pow_succ, Int.mul_comm]
    exact z'
theorem val_below {b : Int} (hb : 1 ≤ b) : ∀ (ns : List Int) (k : Nat), Below b ns → ns.length ≤ k → 0 ≤ val b ns ∧ val b ns < b ^ k
  | [], k, _, _ => ⟨Int.le_refl 0, Int.pow_pos (by omega)⟩
  | n :: r, 0, _, h => absurd h (by simp)
  | n :: r, k + 1, hB, hl => by
    obtain ⟨h0, h1⟩ := val_below hb r k (fun m hm => hB m (List.mem_cons_of_mem _ hm)) (by simpa using hl)
    obtain ⟨n0, n1⟩ := hB n List.mem_cons_self
    show 0 ≤ val b r * b + n ∧ val b r * b + n < b ^ (k + 1)
    have p0 : 0 ≤ val b r * b := Int.mul_nonneg h0 (by omega)
    refine ⟨by omega, ?_⟩
    have p1 : (val b r + 1) * b ≤ b ^ k * b := Int.mul_le_mul_of_nonneg_right h1 (by omega)
    rw [Int.add_mul, Int.one_mul] at p1
    rw [Int.pow_succ]
    omega
theorem packed_get {b : Int} (h1 : b ≤ 10000) (ns : List Int) (i : Nat) : (packed b ns)[i]? = if i * perC b < ns.length then some (val b ((ns.drop (i * perC b)).take (perC b))) else none := pack_get b (perC_pos h1) ns.length ns i (Nat.le_refl _)
theorem below_part {b : Int} {ns : List Int} (hB : Below b ns) (i k : Nat) : Below b ((ns.drop i).take k) := fun n hn => hB n (List.mem_of_mem_drop (List.mem_of_mem_take hn))
theorem packed_below {b : Int} (h2 : 2 ≤ b) (h1 : b ≤ 10000) {ns : List Int} (hB : Below b ns) : Below 10000 (packed b ns) := fun n hn => by
  obtain ⟨i, hi⟩ := List.getElem?_of_mem hn
  rw [packed_get h1] at hi
  split at hi
  · obtain rfl := Option.some.inj hi
    obtain ⟨v0, v1⟩ := val_below (by omega : 1 ≤ b) _ (perC b) (below_part hB (i * perC b) (perC b)) (List.length_take_le _ _)
    have := perC_pow h2 h1
    omega
  · cases hi
theorem packed_len_eq {b : Int} (h1 : b ≤ 10000) (ns : List Int) : (packed b ns).length = cells (perC b) ns.length := by
  rw [← packed_eq h1, List.length_map, List.length_range]
theorem packed_most {b : Int} (h1 : b ≤ 10000) (ns : List Int) : ns.length ≤ perC b * (packed b ns).length := by
  rw [packed_len_eq h1]
  have hk := perC_pos h1
  have : ¬ cells (perC b) ns.length < cells (perC b) ns.length := Nat.lt_irrefl _
  rw [cells_lt hk, Nat.mul_comm] at this
  omega
theorem at_packed {b : Int} (h1 : b ≤ 10000) {ns : List Int} (hB : Below b ns) {i : Nat} (hi : i < perC b * (packed b ns).length) : atCells b (packed b ns) i = ns.getD i 0 := by
  have hk := perC_pos h1
  have hq : i / perC b < (packed b ns).length := Nat.div_lt_of_lt_mul hi
  have hr := Nat.mod_lt i hk
  have dm := Nat.div_add_mod i (perC b)
  have g := packed_get h1 ns (i / perC b)
  rw [List.getElem?_eq_getElem hq] at g
  split at g
  · rename_i hlt
    have e := Option.some.inj g
    have e2 : (packed b ns).getD (i / perC b) 0 = val b ((ns.drop (i / perC b * perC b)).take (perC b)) := by
      rw [List.getD_eq_getElem?_getD, List.getElem?_eq_getElem hq]
      exact e
    unfold atCells
    rw [e2, digits_val _ _ (below_part hB _ _) (List.length_take_le _ _), List.getD_eq_getElem?_getD, List.getD_eq_getElem?_getD]
    have e3 : i / perC b * perC b + i % perC b = i := by rw [Nat.mul_comm]; exact dm
    by_cases c : i % perC b < ((ns.drop (i / perC b * perC b)).take (perC b)).length
    · rw [List.getElem?_append_left c, List.getElem?_take_of_lt hr, List.getElem?_drop, e3]
    · rw [List.getElem?_append_right (by omega)]
      have hl : ns.length ≤ i := by
        rw [List.length_take, List.length_drop] at c
        omega
      rw [List.getElem?_eq_none hl, List.getElem?_replicate]
      split <;> rfl
  · cases g
theorem full_at {ns : List Int} {m i : Nat} (h : ns.length ≤ m) (hi : i < m) : (ns ++ List.replicate (m - ns.length) (0 : Int))[i]? = some (ns.getD i 0) := by
  rw [List.getD_eq_getElem?_getD]
  by_cases c : i < ns.length
  · rw [List.getElem?_append_left c, List.getElem?_eq_getElem c]
    rfl
  · rw [List.getElem?_append_right (by omega), List.getElem?_replicate, if_pos (by omega), List.getElem?_eq_none (by omega)]
    rfl
/-- one that isn't stands behind some that are -/
theorem first_bad {b x : Int} {ns ms : List Int} (hB : Below b ns) (hx : ¬ (0 ≤ x ∧ x < b)) {i : Nat} (hi : i ≤ ns.length) : FirstBad b (ns.take i ++ x :: ms) i := by
  have hl : (ns.take i).length = i := by rw [List.length_take, Nat.min_eq_left hi]
  refine ⟨⟨x, ?_, hx⟩, fun j m hj hm => ?_⟩
  · rw [List.getElem?_append_right (by omega), hl, Nat.sub_self]
    rfl
  · rw [List.getElem?_append_left (by omega)] at hm
    exact hB m (List.mem_of_mem_take (List.mem_of_getElem? hm))
end K3

set_option Elab.async false
set_option linter.all false
set_option maxRecDepth 100000
set_option maxHeartbeats 4000000
/-! K1B: the law's bases -/
namespace K3
open PySem PySem.Spec PyProof.Rows L2
section
variable {P : Program} {w : World} {K : PySem.W.Frag} {mg : Str → Option Value} {base : Heap}
abbrev s__law_base : Stmt := top 33
abbrev N__law_base : List Str := ["_law_box", "_law_some"]
abbrev P__law_base : List Str := ["_law_box"]
theorem sc__law_base : FnScope N__law_base P__law_base (defScope s__law_base) := ⟨rfl, rfl, rfl, by decide +kernel, rfl, by decide +kernel, by decide +kernel⟩
def spBase : Sp := fun vs H Q _ => ∃ (b l : Addr), vs = [.ref b] ∧ Bx H b l ∧ ∀ (H' : Hp) (v : Int), Bx H' b l → Out b l H H' → 2 ≤ v → v ≤ 10000 → Q (.int v) H'
theorem ok_base (T : Txt mg) (D : Df K mg "_law_base" s__law_base P__law_base) (G__law_take : Fn P w K mg base CX0 1 "_law_take" P__law_take spTake) : Fn P w K mg base CX0 2 "_law_base" P__law_base spBase := by
  refine D.ok sc__law_base (fun vs H Q E h => ?_) (fun f cdv A outer s H vs Q E hr h => ?_)
  · obtain ⟨b, l, rfl, _⟩ := h
    rfl
  · obtain ⟨b, l, rfl, B, k⟩ := h
    have nd := sc__law_base.nd
    refine ⟨_, (pss_cons (ps_set (i := 1) nd rfl (by first | exact Or.inl rfl | exact Or.inr rfl) (pe_lst (pa_cons (pe_op op_add pe_int (pe_c G__law_take (hr.mono (by decide)) pass0 (pa_cons (pv 0) (pa_cons pe_int pa_nil)))) (pa_cons (pe_op op_add pe_int (pe_c G__law_take (hr.mono (by decide)) pass0 (pa_cons (pv 0) (pa_cons pe_int pa_nil)))) (pa_cons (pe_op op_add pe_int (pe_c G__law_take (hr.mono (by decide)) pass0 (pa_cons (pv 0) (pa_cons pe_int pa_nil)))) pa_nil)))))
  (pss_one (ps_ret (pe_ix ix_list (pe_op op_cat (pv 1) (pe_lst (pa_cons (pe_ix ix_list (pe_lst (pa_cons pe_int (pa_cons pe_int (pa_cons pe_int (pa_cons pe_int (pa_cons pe_int (pa_cons pe_int (pa_cons pe_int (pa_cons pe_int pa_nil))))))))) (pe_c G__law_take (hr.mono (by decide)) pass0 (pa_cons (pv 0) (pa_cons pe_int pa_nil))) (fun _ _ => rfl)) pa_nil))) (pe_c G__law_take (hr.mono (by decide)) pass0 (pa_cons (pv 0) (pa_cons pe_int pa_nil))) (fun _ _ => rfl))))), ?_⟩
    refine ⟨_, rfl, b, l, 9, rfl, B, by decide, by decide, fun H1 v1 B1 O1 l1 u1 => ?_⟩
    refine ⟨_, _, rfl, rfl, _, rfl, b, l, 99, rfl, B1, by decide, by decide, fun H2 v2 B2 O2 l2 u2 => ?_⟩
    refine ⟨_, _, rfl, rfl, _, rfl, b, l, 9999, rfl, B2, by decide, by decide, fun H3 v3 B3 O3 l3 u3 => ?_⟩
    refine ⟨_, _, rfl, rfl, (by show 3 ≤ sizeLine; decide), fun p np => ?_⟩
    obtain ⟨pb, pl⟩ := B3.free np
    have B4 := B3.same (Same.upd (o := .lst ([2 + v1, 2 + v2, 2 + v3].map V.int)) np)
    refine ⟨_, rfl, (by show 8 ≤ sizeLine; decide), fun q nq => ?_⟩
    have hp0 : (L2.upd (L2.upd H3 p (.lst ([2 + v1, 2 + v2, 2 + v3].map V.int))) q (.lst ([2, 3, 10, 21, 22, 100, 101, 10000].map V.int))) p = some (.lst ([2 + v1, 2 + v2, 2 + v3].map V.int)) := Same.upd nq _ _ upd_same
    have hq0 : (L2.upd (L2.upd H3 p (.lst ([2 + v1, 2 + v2, 2 + v3].map V.int))) q (.lst ([2, 3, 10, 21, 22, 100, 101, 10000].map V.int))) q = some (.lst ([2, 3, 10, 21, 22, 100, 101, 10000].map V.int)) := upd_same
    obtain ⟨qb, ql⟩ := B4.free nq
    have B5 := B4.same (Same.upd (o := .lst ([2, 3, 10, 21, 22, 100, 101, 10000].map V.int)) nq)
    refine ⟨_, rfl, b, l, 8, rfl, B5, by decide, by decide, fun H6 v4 B6 O6 l4 u4 => ?_⟩
    obtain ⟨y, hy, ya⟩ := pickI (zs := [2, 3, 10, 21, 22, 100, 101, 10000]) l4 u4
    refine ⟨q, _, v4, _, rfl, rfl, SqL.of (O6.at qb ql hq0), ya, (by show 1 ≤ sizeLine; decide), fun r nr => ?_⟩
    refine ⟨p, r, _, _, rfl, rfl, Same.upd nr _ _ (O6.at pb pl hp0), upd_same, (by show 3 + 1 ≤ sizeLine; decide), fun c nc => ?_⟩
    obtain ⟨cb, cl⟩ := (B6.same (Same.upd (o := .lst [.int y]) nr)).free nc
    have B7 := (B6.same (Same.upd (o := .lst [.int y]) nr)).same (Same.upd (o := .lst ([2 + v1, 2 + v2, 2 + v3, y].map V.int)) nc)
    refine ⟨_, rfl, b, l, 4, rfl, B7, by decide, by decide, fun H8 v5 B8 O8 l5 u5 => ?_⟩
    obtain ⟨z, hz, za⟩ := pickI (zs := [2 + v1, 2 + v2, 2 + v3, y]) l5 u5
    refine ⟨c, _, v5, _, rfl, rfl, SqL.of (O8.at cb cl upd_same), za, ?_⟩
    have yy : 2 ≤ y ∧ y ≤ 10000 := by
      simp only [List.mem_cons, List.not_mem_nil, or_false] at hy
      omega
    have zz : 2 ≤ z ∧ z ≤ 10000 := by
      simp only [List.mem_cons, List.not_mem_nil, or_false] at hz
      omega
    refine k _ z B8 ?_ zz.1 zz.2
    exact (((((((O1.trans O2).trans O3).trans (.of (Same.upd np))).trans (.of (Same.upd nq))).trans O6).trans (.of (Same.upd nr))).trans (.of (Same.upd nc))).trans O8
end
end K3

set_option Elab.async false
set_option linter.all false
set_option maxRecDepth 100000
set_option maxHeartbeats 4000000
/-! K1L: the law -/
namespace K3
open PySem PySem.Spec PyProof.Rows L2
/-- a promise that raises, where nothing may be raised -/
theorem Fn.calm {P : Program} {w : World} {K : PySem.W.Frag} {mg : Str → Option Value} {base : Heap} {k : Nat} {x : Str} {ps : List Str} {sp : Sp} (F : Fn P w K mg base (L2.CX P w) k x ps sp) : Fn P w K mg base CX0 k x ps (fun vs H Q _ => sp vs H Q fun _ _ _ => False) := by
  obtain ⟨f, fd, G, hm, hk, hb⟩ := F.ex
  refine ⟨f, fd, ⟨fun vs H Q E h => G.len vs H Q _ h, fun A outer s H args us vs Q E hr e0 hbt r h => codeAny_mono (G.run A outer s H args us vs Q (fun _ _ _ => False) hr e0 hbt r h) fun r s' hq => ?_⟩, hm, hk, hb⟩
  cases r with
  | error e =>
    obtain ⟨_, _, _, _, _, _, _, _, _, _, _, _, _, _, _, _, z⟩ := hq
  | ok fl =>
    cases fl with
    | ret u => exact hq
    | next => exact hq
    | brk => exact hq
    | cont => exact hq
/-! ### tuples joined, cut: whichever object it is -/
theorem ix_listK {X : Cx} {K : PySem.W.Frag} (e : X.K = K) : IxR X (rIxL K) := by
  subst e
  exact ix_list
def rCatU (K : PySem.W.Frag) : R2 := fun x y H Q => ∃ a b xs ys, x = .ref a ∧ y = .ref b ∧ SqT K H a xs ∧ SqT K H b ys ∧ xs.length + ys.length ≤ sizeLine ∧ ∀ p H', Same H H' → SqT K H' p (xs ++ ys) → Q (.ref p) H'
theorem op_catU {X : Cx} {K : PySem.W.Frag} (e : X.K = K) : OpR X (binaryOp .Add) (rCatU K) := by
  subst e
  intro pins s σ H x y v u Q I rx ry ⟨a, b, xs, ys, ex, ey, ha, hb, hz, q⟩
  refine op_catA pins s σ H x y v u Q I rx ry ⟨a, b, xs, ys, ex, ey, ha, hb, hz, fun e => q b H (.refl H) (by rw [e]; exact hb), fun _ e => q a H (.refl H) (by rw [e, List.append_nil]; exact ha), fun _ _ p np => q p _ (Same.upd np) (SqT.of upd_same)⟩
def rSlU (K : PySem.W.Frag) : V → Option Int → Option Int → Hp → VK → Prop := fun x lo hi H Q => ∃ a xs, x = .ref a ∧ SqT K H a xs ∧ ∀ p H', Same H H' → SqT K H' p (cutV xs lo hi) → Q (.ref p) H'
theorem sl_tupU {X : Cx} {K : PySem.W.Frag} (e : X.K = K) : SlR X (rSlU K) := by
  subst e
  intro pins s σ H x v vl vu lo hi sl Q I rx hs pl pu ⟨a, xs, ex, hx, q⟩
  refine sl_tupA pins s σ H x v vl vu lo hi sl Q I rx hs pl pu ⟨a, xs, ex, hx, fun hw => q a H (.refl H) ?_, fun _ p np => q p _ (Same.upd np) (SqT.of upd_same)⟩
  have e : cutV xs lo hi = xs := by
    unfold cutV
    rw [hw.1, hw.2, List.drop_zero, Nat.sub_zero, List.take_length]
  rw [e]
  exact hx
theorem _root_.LamX.ExtN.bx {H H' : Hp} (e : LamX.ExtN H H') {b l : Addr} (h : Bx H b l) : Bx H' b l := by
  obtain ⟨st, ns, h1, h2, h3⟩ := h
  exact ⟨st, ns, e.lst h1, e.lst h2, h3⟩
theorem _root_.LamX.ExtN.tup {H H' : Hp} (e : LamX.ExtN H H') {p : Addr} {xs : List V} (h : H p = some (.tup xs)) : H' p = some (.tup xs) := e _ _ h fun _ z => by cases z
theorem tabs_out {T : List (Addr × Str)} {H H' : Hp} {b l : Addr} (t : LamX.Tabs T H) (B : Bx H b l) (O : Out b l H H') : LamX.Tabs T H' := tabs_to t fun p o e k => by
  obtain ⟨st, ns, h1, h2, _⟩ := B
  refine O p o (fun z => ?_) (fun z => ?_) e
  · rw [z, h1] at e
    have e2 := Option.some.inj e
    rcases k with ⟨ps, z2⟩ | ⟨c, q, z2⟩
    · rw [z2] at e2
      cases e2
    · exact code_lst (z2.symm.trans e2.symm)
  · rw [z, h2] at e
    have e2 := Option.some.inj e
    rcases k with ⟨ps, z2⟩ | ⟨c, q, z2⟩
    · rw [z2] at e2
      cases e2
    · exact code_lst (z2.symm.trans e2.symm)
/-! ### what is told of refusals -/
theorem alk_due {K : PySem.W.Frag} {H : Hp} {t q : Addr} {z : Str} {i : Int} (h1 : H t = some (.tup [.str z, .int i])) (h2 : H q = some (.tup [.str z, .int i])) : Alk K H 1 (.ref t) (.ref q) :=
  .tup (SqT.of h1) (SqT.of h2) (by show 2 ≤ 10000; decide) rfl fun j x y hx hy => by
    match j, hx, hy with
    | 0, hx, hy =>
      cases hx
      cases hy
      exact .str z
    | 1, hx, hy =>
      cases hx
      cases hy
      exact .int i
    | _ + 2, hx, _ => cases hx
theorem told_due {K : PySem.W.Frag} {cs : Nat → Addr} {n i : Nat} {H H1 : Hp} {q : Addr} {Q : VK} {pl : Int} {d : Option Addr} (hn : 1 < n) (hi : i < 13) (hq : H q = some (.tup [.str (cnm i), .int pl]))
    (T : ∀ (v : V) (H'' : Hp), Same H H'' → (∃ m, m < n ∧ Alk K H'' m v (.ref q)) → Q v H'') (s : Same H H1)
    (hd : (i ≠ 1 ∧ i ≠ 5 ∧ i ≠ 12 ∧ d = none ∧ pl = 0) ∨ ((i = 1 ∨ i = 5 ∨ i = 12) ∧ ∃ dd fs, d = some dd ∧ H1 dd = some (.xd fs) ∧ fs.lookup ("place" : Str) = some (V.int pl))) : Told cs (.ref (cs i)) d H1 Q :=
  ⟨i, pl, hi, rfl, hd, fun H'' t s2 nt ht => T _ _ (s.trans s2) ⟨1, hn, alk_due ht ((s.trans s2) _ _ hq)⟩⟩
abbrev s_law : Stmt := top 34
abbrev N_law : List Str := ["_law_script", "_law_box", "_law_turn", "_law_base_here", "_law_values", "_law_k", "_law_cells", "_law_handed", "_law_found", "_law_most", "_law_full", "_law_far", "_law_odd", "_law_works", "_law_at", "_law_bad", "_law_rows", "_law_place"]
abbrev P_law : List Str := ["_law_script"]
theorem sc_law : FnScope N_law P_law (defScope s_law) := ⟨rfl, rfl, rfl, by decide +kernel, rfl, by decide +kernel, by decide +kernel⟩
/-- the tables that the law's lambdas go through -/
def TL (Pt : Addr) : List (Addr × Str) := [(Pt, (envOfC "law" (defScope s_law) 0 0 .none).qual ++ "<lambda>")]
/-- a list of numbers beside the box -/
structure W0 (H : Hp) (Pt b l vp : Addr) (ns : List Int) : Prop where
  bx : Bx H b l
  vb : vp ≠ b
  vl : vp ≠ l
  at_v : H vp = some (.lst (ns.map V.int))
  tabs : LamX.Tabs (TL Pt) H
theorem W0.same {H H' : Hp} {Pt b l vp : Addr} {ns : List Int} (h : W0 H Pt b l vp ns) (s : Same H H') : W0 H' Pt b l vp ns := ⟨h.bx.same s, h.vb, h.vl, s _ _ h.at_v, tabs_same h.tabs s⟩
theorem W0.out {H H' : Hp} {Pt b l vp : Addr} {ns : List Int} (h : W0 H Pt b l vp ns) (B : Bx H' b l) (O : Out b l H H') : W0 H' Pt b l vp ns := ⟨B, h.vb, h.vl, O.at h.vb h.vl h.at_v, tabs_out h.tabs h.bx O⟩
theorem W0.put {H : Hp} {Pt b l vp : Addr} {ns ms : List Int} (h : W0 H Pt b l vp ns) : W0 (L2.upd H vp (.lst (ms.map V.int))) Pt b l vp ms := by
  obtain ⟨st, zs, h1, h2, h3⟩ := h.bx
  exact ⟨⟨st, zs, (upd_ne h.vb.symm).trans h1, (upd_ne h.vl.symm).trans h2, h3⟩, h.vb, h.vl, upd_same, tabs_put h.tabs h.at_v (fun _ z => by cases z) fun _ _ => code_lst⟩
def cutW (ns : List Int) (lo hi : Option Int) : List Int := (ns.drop (HT.sIx ns.length 0 lo)).take (HT.sIx ns.length ns.length hi - HT.sIx ns.length 0 lo)
theorem cutW_ok (ns : List Int) (lo hi : Option Int) : cutV (ns.map V.int) lo hi = (cutW ns lo hi).map V.int := by
  unfold cutV cutW
  rw [List.length_map, ← List.map_drop, ← List.map_take]
theorem cutW_le (ns : List Int) (lo hi : Option Int) : (cutW ns lo hi).length ≤ ns.length := by
  unfold cutW
  rw [List.length_take, List.length_drop]
  omega
theorem cutW_take (ns : List Int) (m : Nat) : cutW ns none (some (m : Int)) = ns.take m := by
  unfold cutW
  rw [HT.sIx_none, HT.sIx_nat, Nat.sub_zero, List.drop_zero]
  by_cases c : m ≤ ns.length
  · rw [Nat.min_eq_left c]
  · rw [Nat.min_eq_right (by omega), List.take_length, List.take_of_length_le (by omega)]
/-- what the law holds in a turn -/
structure W1 (H : Hp) (Pt b l vp cp : Addr) (bs : Int) (ns : List Int) : Prop where
  bx : Bx H b l
  vb : vp ≠ b
  vl : vp ≠ l
  at_v : H vp = some (.lst (ns.map V.int))
  at_c : H cp = some (.tup ((K3.packed bs ns).map V.int))
  tabs : LamX.Tabs (TL Pt) H
theorem tup_apart {H : Hp} {b l cp : Addr} {xs : List V} (B : Bx H b l) (h : H cp = some (.tup xs)) : cp ≠ b ∧ cp ≠ l := by
  obtain ⟨st, ns, h1, h2, _⟩ := B
  refine ⟨fun z => ?_, fun z => ?_⟩
  · rw [z, h1] at h
    cases h
  · rw [z, h2] at h
    cases h
theorem seqT_out {K : PySem.W.Frag} {H H' : Hp} {b l a : Addr} {xs : List V} (B : Bx H b l) (O : Out b l H H') (h : SqT K H a xs) : SqT K H' a xs := by
  rcases h with (h | ⟨o, h⟩) | h
  · exact .inl (.inl (O.at (tup_apart B h).1 (tup_apart B h).2 h))
  · obtain ⟨st, ns, h1, h2, _⟩ := B
    refine .inl (.inr ⟨o, O.at (fun z => ?_) (fun z => ?_) h⟩)
    · rw [z, h1] at h
      cases h
    · rw [z, h2] at h
      cases h
  · exact .inr h
theorem W1.same {H H' : Hp} {Pt b l vp cp : Addr} {bs : Int} {ns : List Int} (h : W1 H Pt b l vp cp bs ns) (s : Same H H') : W1 H' Pt b l vp cp bs ns :=
  ⟨h.bx.same s, h.vb, h.vl, s _ _ h.at_v, s _ _ h.at_c, tabs_same h.tabs s⟩
theorem W1.out {H H' : Hp} {Pt b l vp cp : Addr} {bs : Int} {ns : List Int} (h : W1 H Pt b l vp cp bs ns) (B : Bx H' b l) (O : Out b l H H') : W1 H' Pt b l vp cp bs ns :=
  ⟨B, h.vb, h.vl, O.at h.vb h.vl h.at_v, O.at (tup_apart h.bx h.at_c).1 (tup_apart h.bx h.at_c).2 h.at_c, tabs_out h.tabs h.bx O⟩
theorem W1.ext {H H' : Hp} {Pt b l vp cp : Addr} {bs : Int} {ns : List Int} (h : W1 H Pt b l vp cp bs ns) (e : LamX.ExtN H H') (t : LamX.Tabs (TL Pt) H') : W1 H' Pt b l vp cp bs ns :=
  ⟨e.bx h.bx, h.vb, h.vl, e.lst h.at_v, e.tup h.at_c, t⟩
section
variable {P : Program} {w : World} {K : PySem.W.Frag} {mg : Str → Option Value} {base : Heap}
def spLawT (K : PySem.W.Frag) (Pt : Addr) : Sp := fun vs H Q _ => ∃ (a : Addr) (ns : List Int), vs = [.ref a] ∧ SqL K H a (ns.map V.int) ∧ ns.length ≤ 63 ∧ LamX.Tabs (TL Pt) H ∧ ∀ H', Q (.bl true) H'
theorem ok_law {cs : Nat → Addr} {Pt c : Addr} (T : Txt mg) {f : Addr} {fd : FuncData} (D : FunD K "law" "law" (defArgs s_law) (defBody s_law) (defScope s_law) [] [] f fd) (hcode : fd.code = .ref c) (TB : LamX.TabB base mg c Pt)
    (G_all : ∀ b, Fn P w K mg b CX0 7 "_law_all" P__law_all (spAll P w K mg 4 3 cs b))
    (G__law_begun : Fn P w K mg base CX0 1 "_law_begun" P__law_begun (spBegun K)) (G__law_take : Fn P w K mg base CX0 1 "_law_take" P__law_take spTake)
    (G__law_base : Fn P w K mg base CX0 2 "_law_base" P__law_base spBase) (G__law_per : Fn P w K mg base CX0 1 "_law_per" P__law_per spPer) (G__law_packed : Fn P w K mg base CX0 2 "_law_packed" P__law_packed (spLpk K))
    (G__law_alike : Fn P w K mg base CX0 4 "_law_alike" P__law_alike (spAlike K 3))
    (X_per_cell : ∀ b, Fn P w K mg b (L2.CX P w) 1 "per_cell" P_per_cell (spPerX (cs 0))) (X_packed : ∀ b, Fn P w K mg b (L2.CX P w) 4 "packed" P_packed (spPckX K (cs 0) (cs 1))) (X_read_packed : ∀ b, Fn P w K mg b (L2.CX P w) 4 "read_packed" P_read_packed (spRdX K (cs 0) (cs 1))) : FnOk P w K mg base CX0 8 f fd P_law (spLawT K Pt) := by
  have G_per_cell := (X_per_cell base).calm
  have G_packed := (X_packed base).calm
  have G_read_packed := (X_read_packed base).calm
  refine okT D hcode sc_law (fun vs H Q E h => ?_) (fun A outer s H vs Q E hr h => ?_)
  · obtain ⟨a, ns, rfl, _⟩ := h
    rfl
  · obtain ⟨a, ns0, rfl, hS, hl, hT, k⟩ := h
    have nd := sc_law.nd
    refine ⟨_, (pss_cons (ps_set (i := 1) nd rfl (by first | exact Or.inl rfl | exact Or.inr rfl) (pe_c G__law_begun (hr.mono (by decide)) pass0 (pa_cons (pv 0) pa_nil)))
  (pss_cons (ps_for PassesOwn.never rfl (pi_range1 (by rfl) T.b_range (pa_cons pe_int pa_nil)) (pg_name (i := 2) nd rfl (by first | exact Or.inl rfl | exact Or.inr rfl))
  (pss_cons (ps_set (i := 3) nd rfl (by first | exact Or.inl rfl | exact Or.inr rfl) (pe_c G__law_base (hr.mono (by decide)) pass0 (pa_cons (pv 1) pa_nil)))
  (pss_cons (ps_set (i := 4) nd rfl (by first | exact Or.inl rfl | exact Or.inr rfl) (pe_lst pa_nil))
  (pss_cons (ps_for PassesOwn.never rfl (pi_range1 (by rfl) T.b_range (pa_cons (pe_c G__law_take (hr.mono (by decide)) pass0 (pa_cons (pv 1) (pa_cons (pe_ix ix_list (pe_lst (pa_cons pe_int (pa_cons pe_int (pa_cons pe_int pa_nil)))) (pe_c G__law_take (hr.mono (by decide)) pass0 (pa_cons (pv 1) (pa_cons pe_int pa_nil))) (fun _ _ => rfl)) pa_nil))) pa_nil)) (pg_name (i := 5) nd rfl (by first | exact Or.inl rfl | exact Or.inr rfl))
  (pss_one (ps_expr (pe_bm PySem.F.plainAttrs_list PySem.F.slot_list_append PySem.F.type_list_append mt_append (pv 4) (pa_cons (pe_ix ix_list (pe_lst (pa_cons (pe_c G__law_take (hr.mono (by decide)) pass0 (pa_cons (pv 1) (pa_cons (pv 3) pa_nil))) (pa_cons (pe_op op_sub (pv 3) pe_int) (pa_cons pe_int pa_nil)))) (pe_c G__law_take (hr.mono (by decide)) pass0 (pa_cons (pv 1) (pa_cons pe_int pa_nil))) (fun _ _ => rfl)) pa_nil)))))
  (pss_cons (ps_set (i := 6) nd rfl (by first | exact Or.inl rfl | exact Or.inr rfl) (pe_c G__law_packed (hr.mono (by decide)) pass0 (pa_cons (pv 3) (pa_cons (pv 4) pa_nil))))
  (pss_cons (ps_set (i := 7) nd rfl (by first | exact Or.inl rfl | exact Or.inr rfl) (pe_callTy call_list_of (by rfl) T.b_list (by decide +kernel) (pa_cons (pv 4) pa_nil)))
  (pss_cons (ps_set (i := 8) nd rfl (by first | exact Or.inl rfl | exact Or.inr rfl) (pe_lst (pa_cons (pe_c G_per_cell (hr.mono (by decide)) pass0 (pa_cons (pv 3) pa_nil)) (pa_cons (pe_c G_packed (hr.mono (by decide)) pass0 (pa_cons (pv 3) (pa_cons (pv 7) pa_nil))) pa_nil))))
  (pss_cons (ps_if (PW.pt (pw_or (pt_not (pt_val (pe_c G__law_alike (hr.mono (by decide)) pass0 (pa_cons (pv 8) (pa_cons (pe_lst (pa_cons (pe_c G__law_per (hr.mono (by decide)) pass0 (pa_cons (pv 3) pa_nil)) (pa_cons (pv 6) pa_nil))) pa_nil))))) (pw_or1 (pt_cmpR (op_neIs hr.units) (pv 7) (pv 4) (nomark _)))))
  (pss_one (ps_ret pe_bl))
  pss_nil)
  (pss_cons (ps_set (i := 9) nd rfl (by first | exact Or.inl rfl | exact Or.inr rfl) (pe_op op_mul (pe_callB call_len_seq (by rfl) T.b_len (by decide +kernel) (pa_cons (pv 6) pa_nil)) (pe_c G__law_per (hr.mono (by decide)) pass0 (pa_cons (pv 3) pa_nil))))
  (pss_cons (ps_set (i := 10) nd rfl (by first | exact Or.inl rfl | exact Or.inr rfl) (pe_op op_cat (pv 4) (pe_op op_rep (pe_lst (pa_cons pe_int pa_nil)) (pe_op op_sub (pv 9) (pe_callB call_len_seq (by rfl) T.b_len (by decide +kernel) (pa_cons (pv 4) pa_nil))))))
  (pss_cons (ps_if (pt_cmpR (op_neIs hr.units) (pe_lc (own := [("_law_k", 5)]) (g := gName 5) (by rfl) nd  (pi_range1 (by rfl) T.b_range (pa_cons (pv 9) pa_nil)) (blkOk_by (own := [("_law_k", 5)]) (N := N_law) (sc := defScope s_law) (by decide +kernel)) (fun _ _ _ _ _ => pg_name (i := 5) nd rfl (Or.inl rfl)) (fun _ _ _ _ _ => pts_one (pt_not (pt_val (pe_c G__law_alike (hr.mono (by decide)) pass0 (pa_cons (pe_c G_read_packed (hr.mono (by decide)) pass0 (pa_cons (pv 3) (pa_cons (pv 6) (pa_cons (pv 5) pa_nil)))) (pa_cons (pe_ix (ix_listK (K := K) rfl) (pv 10) (pv 5) (fun _ _ => rfl)) pa_nil)))))) (fun _ _ _ _ _ => (pv 5))) (pe_lst pa_nil) (nomark _))
  (pss_one (ps_ret pe_bl))
  pss_nil)
  (pss_cons (ps_set (i := 11) nd rfl (by first | exact Or.inl rfl | exact Or.inr rfl) (pe_c G__law_take (hr.mono (by decide)) pass0 (pa_cons (pv 1) (pa_cons (pe_op op_pow pe_int pe_int) pa_nil))))
  (pss_cons (ps_set (i := 12) nd rfl (by first | exact Or.inl rfl | exact Or.inr rfl) (pe_ix ix_list (pe_lst (pa_cons pe_int (pa_cons pe_int (pa_cons (pe_op op_sub (pe_un un_neg pe_int) (pv 11)) (pa_cons (pe_op op_add pe_int (pv 11)) pa_nil))))) (pe_c G__law_take (hr.mono (by decide)) pass0 (pa_cons (pv 1) (pa_cons pe_int pa_nil))) (fun _ _ => rfl)))
  (pss_cons (ps_set (i := 13) nd rfl (by first | exact Or.inl rfl | exact Or.inr rfl) (pe_lst (pa_cons (pe_lam0 (c := c) (P := Pt) (T := TL Pt) TB rfl List.mem_cons_self (fun p hp _ => by rw [List.mem_singleton.mp hp]; rfl) (lamP_by (show lamPB N_law (defScope s_law) _ [] = true by decide +kernel)).free rfl) (pa_cons (pe_lam1 (c := c) (P := Pt) (T := TL Pt) (i := 0) TB rfl List.mem_cons_self (fun p hp _ => by rw [List.mem_singleton.mp hp]; rfl) (lamP_by (show lamPB N_law (defScope s_law) _ ["_law_a"] = true by decide +kernel)).free rfl rfl pe_int) (pa_cons (pe_lam1 (c := c) (P := Pt) (T := TL Pt) (i := 0) TB rfl List.mem_cons_self (fun p hp _ => by rw [List.mem_singleton.mp hp]; rfl) (lamP_by (show lamPB N_law (defScope s_law) _ ["_law_b"] = true by decide +kernel)).free rfl rfl pe_int) pa_nil)))))
  (pss_cons (ps_if (pt_not (pt_val (pe_callL (fun b => G_all b) hr (fun _ => rfl) (pa_cons (pv 13) (pa_cons (pe_tup (pa_cons pe_str (pa_cons pe_int pa_nil))) pa_nil)))))
  (pss_one (ps_ret pe_bl))
  pss_nil)
  (pss_cons (ps_set (i := 14) nd rfl (by first | exact Or.inl rfl | exact Or.inr rfl) (pe_c G__law_take (hr.mono (by decide)) pass0 (pa_cons (pv 1) (pa_cons (pe_op op_add (pe_callB call_len_seq (by rfl) T.b_len (by decide +kernel) (pa_cons (pv 4) pa_nil)) pe_int) pa_nil))))
  (pss_cons (ps_set (i := 15) nd rfl (by first | exact Or.inl rfl | exact Or.inr rfl) (pe_op op_cat (pe_op op_cat (pe_op op_cat (pe_slice sl_list (pv 4) po_none (po_some (pv 14))) (pe_lst (pa_cons (pe_ix ix_list (pe_lst (pa_cons (pv 3) (pa_cons (pe_op op_add (pv 3) (pv 11)) (pa_cons (pe_un un_neg pe_int) (pa_cons (pe_op op_sub (pe_un un_neg pe_int) (pv 11)) pa_nil))))) (pe_c G__law_take (hr.mono (by decide)) pass0 (pa_cons (pv 1) (pa_cons pe_int pa_nil))) (fun _ _ => rfl)) pa_nil))) (pe_slice sl_list (pv 4) (po_some (pv 14)) po_none)) (pe_lst (pa_cons (pe_un un_neg pe_int) pa_nil))))
  (pss_cons (ps_if (pt_not (pt_val (pe_callL (fun b => G_all b) hr (fun _ => rfl) (pa_cons (pe_lst (pa_cons (pe_lam0 (c := c) (P := Pt) (T := TL Pt) TB rfl List.mem_cons_self (fun p hp _ => by rw [List.mem_singleton.mp hp]; rfl) (lamP_by (show lamPB N_law (defScope s_law) _ [] = true by decide +kernel)).free rfl) pa_nil)) (pa_cons (pe_tup (pa_cons pe_str (pa_cons (pv 14) pa_nil))) pa_nil)))))
  (pss_one (ps_ret pe_bl))
  pss_nil)
  (pss_cons (ps_set (i := 14) nd rfl (by first | exact Or.inl rfl | exact Or.inr rfl) (pe_c G__law_take (hr.mono (by decide)) pass0 (pa_cons (pv 1) (pa_cons (pe_op op_add (pe_callB call_len_seq (by rfl) T.b_len (by decide +kernel) (pa_cons (pv 6) pa_nil)) pe_int) pa_nil))))
  (pss_cons (ps_set (i := 16) nd rfl (by first | exact Or.inl rfl | exact Or.inr rfl) (pe_op (op_catU (K := K) rfl) (pe_op (op_catU (K := K) rfl) (pe_op (op_catU (K := K) rfl) (pe_slice (sl_tupU (K := K) rfl) (pv 6) po_none (po_some (pv 14))) (pe_tup (pa_cons (pe_ix ix_list (pe_lst (pa_cons pe_int (pa_cons (pe_op op_add pe_int (pv 11)) (pa_cons (pe_un un_neg pe_int) pa_nil)))) (pe_c G__law_take (hr.mono (by decide)) pass0 (pa_cons (pv 1) (pa_cons pe_int pa_nil))) (fun _ _ => rfl)) pa_nil))) (pe_slice (sl_tupU (K := K) rfl) (pv 6) (po_some (pv 14)) po_none)) (pe_tup (pa_cons (pe_un un_neg pe_int) pa_nil))))
  (pss_cons (ps_if (pt_not (pt_val (pe_callL (fun b => G_all b) hr (fun _ => rfl) (pa_cons (pe_lst (pa_cons (pe_lam0 (c := c) (P := Pt) (T := TL Pt) TB rfl List.mem_cons_self (fun p hp _ => by rw [List.mem_singleton.mp hp]; rfl) (lamP_by (show lamPB N_law (defScope s_law) _ [] = true by decide +kernel)).free rfl) pa_nil)) (pa_cons (pe_tup (pa_cons pe_str (pa_cons (pv 14) pa_nil))) pa_nil)))))
  (pss_one (ps_ret pe_bl))
  pss_nil)
  (pss_cons (ps_set (i := 17) nd rfl (by first | exact Or.inl rfl | exact Or.inr rfl) (pe_ix ix_list (pe_lst (pa_cons (pe_op op_sub (pe_un un_neg pe_int) (pe_c G__law_take (hr.mono (by decide)) pass0 (pa_cons (pv 1) (pa_cons pe_int pa_nil)))) (pa_cons (pe_op op_sub (pe_un un_neg pe_int) (pv 11)) (pa_cons (pv 9) (pa_cons (pe_op op_add (pv 9) (pv 11)) pa_nil))))) (pe_c G__law_take (hr.mono (by decide)) pass0 (pa_cons (pv 1) (pa_cons pe_int pa_nil))) (fun _ _ => rfl)))
  (pss_one (ps_if (pt_not (pt_val (pe_callL (fun b => G_all b) hr (fun _ => rfl) (pa_cons (pe_lst (pa_cons (pe_lam0 (c := c) (P := Pt) (T := TL Pt) TB rfl List.mem_cons_self (fun p hp _ => by rw [List.mem_singleton.mp hp]; rfl) (lamP_by (show lamPB N_law (defScope s_law) _ [] = true by decide +kernel)).free rfl) pa_nil)) (pa_cons (pe_tup (pa_cons pe_str (pa_cons pe_int pa_nil))) pa_nil)))))
  (pss_one (ps_ret pe_bl))
  pss_nil))))))))))))))))))))))))
  (pss_one (ps_ret pe_bl)))), ?_⟩
    refine ⟨_, rfl, a, ns0, rfl, hS, hl, fun H1 b l s1 B1 => ?_⟩
    refine ⟨_, rfl, by decide, by decide, for_it (walk_range (lo := 0)) (fun i σ H' => (∃ v2 v3 v4 v5 v6 v7 v8 v9 v10 v11 v12 v13 v14 v15 v16 v17, σ = [some (.ref a), some (.ref b), v2, v3, v4, v5, v6, v7, v8, v9, v10, v11, v12, v13, v14, v15, v16, v17]) ∧ Bx H' b l ∧ LamX.Tabs (TL Pt) H') ⟨⟨none, none, none, none, none, none, none, none, none, none, none, none, none, none, none, none, rfl⟩, B1, tabs_same hT s1⟩ (fun _ _ _ _ _ => True.intro) ?_ ?_⟩
    · rintro i x σ H2 H2' hi ⟨⟨v2, v3, v4, v5, v6, v7, v8, v9, v10, v11, v12, v13, v14, v15, v16, v17, rfl⟩, B2, T2⟩ ⟨rfl, rfl⟩
      refine ⟨_, rfl, b, l, rfl, B2, fun H3 bs B3 O3 b2 b1 => ?_⟩
      have bs64 : bs.natAbs < 2 ^ 64 := by omega
      refine ⟨(by show 0 ≤ sizeLine; decide), fun vp nvp => ?_⟩
      have w4 : W0 (L2.upd H3 vp (.lst (([] : List Int).map V.int))) Pt b l vp [] := ⟨B3.same (Same.upd nvp), (B3.free nvp).1, (B3.free nvp).2, upd_same, tabs_same (tabs_out T2 B2 O3) (Same.upd nvp)⟩
      suffices hh : ∀ H4, W0 H4 Pt b l vp [] → _ from hh _ w4
      intro H4 w4
      refine ⟨_, rfl, (by show 3 ≤ sizeLine; decide), fun q nq => ?_⟩
      have wq := w4.same (Same.upd (o := .lst ([41, 41, 300].map V.int)) nq)
      obtain ⟨qb, ql⟩ := w4.bx.free nq
      refine ⟨_, rfl, b, l, 3, rfl, wq.bx, by decide, by decide, fun H5 t B5 O5 t0 t1 => ?_⟩
      obtain ⟨y, hy, ya⟩ := pickI (zs := [41, 41, 300]) t0 t1
      have yy : 0 < y ∧ y ≤ 300 := by
        simp only [List.mem_cons, List.not_mem_nil, or_false] at hy
        omega
      have w5 := wq.out B5 O5
      refine ⟨q, _, t, _, rfl, rfl, SqL.of (O5.at qb ql upd_same), ya, b, l, y, rfl, B5, yy.1, by omega, fun H6 n B6 O6 n0 n1 => ?_⟩
      have w6 := w5.out B6 O6
      refine ⟨n, rfl, by omega, by omega, for_it (walk_range (lo := 0)) (fun j σ H' => (∃ v5, σ = [some (.ref a), some (.ref b), some (.int (0 + (i : Int))), some (.int bs), some (.ref vp), v5, v6, v7, v8, v9, v10, v11, v12, v13, v14, v15, v16, v17]) ∧ ∃ ns : List Int, W0 H' Pt b l vp ns ∧ ns.length = j ∧ Below bs ns) ⟨⟨v5, rfl⟩, [], w6, rfl, fun _ h => absurd h (by simp)⟩ (fun _ _ _ _ _ => True.intro) ?_ ?_⟩
      · rintro j x σ H7 H7' hj ⟨⟨v5, rfl⟩, ns, w7, hlen, hB⟩ ⟨rfl, rfl⟩
        refine ⟨_, rfl, .inl ⟨rfl, _, SqL.of w7.at_v⟩, _, rfl, _, rfl, b, l, bs, rfl, w7.bx, by omega, by omega, fun H8 x1 B8 O8 l8 u8 => ?_⟩
        have w8 := w7.out B8 O8
        refine ⟨_, rfl, _, _, rfl, rfl, (by show 3 ≤ sizeLine; decide), fun q nq => ?_⟩
        have w9 := w8.same (Same.upd (o := .lst ([x1, bs - 1, 0].map V.int)) nq)
        obtain ⟨qb, ql⟩ := w8.bx.free nq
        refine ⟨_, rfl, b, l, 3, rfl, w9.bx, by decide, by decide, fun H10 t B10 O10 t0 t1 => ?_⟩
        obtain ⟨z, hz, za⟩ := pickI (zs := [x1, bs - 1, 0]) t0 t1
        have zz : 0 ≤ z ∧ z < bs := by
          simp only [List.mem_cons, List.not_mem_nil, or_false] at hz
          omega
        have w10 := w9.out B10 O10
        refine ⟨q, _, t, _, rfl, rfl, SqL.of (O10.at qb ql upd_same), za, _, _, _, rfl, rfl, w10.at_v, by rw [List.length_map, sizeLine_eq]; omega, ?_⟩
        refine ⟨⟨_, rfl⟩, ns ++ [z], ?_, by rw [List.length_append, hlen]; rfl, fun m hm => ?_⟩
        · have := w10.put (ms := ns ++ [z])
          rw [List.map_append] at this
          exact this
        · rcases List.mem_append.mp hm with hm | hm
          · exact hB m hm
          · rw [List.mem_singleton.mp hm]
            exact zz
      · rintro σ H7 ⟨⟨v5, rfl⟩, ns, w7, hlen, hB⟩
        have few : ns.length ≤ 300 := by omega
        have lns : (ns.map V.int).length = ns.length := List.length_map ..
        refine ⟨_, rfl, _, rfl, bs, vp, ns, rfl, SqL.of w7.at_v, b2, b1, by omega, fun H8 cp s8 ncp hcp => ?_⟩
        have w8 : W1 H8 Pt b l vp cp bs ns := ⟨w7.bx.same s8, w7.vb, w7.vl, s8 _ _ w7.at_v, hcp, tabs_same w7.tabs s8⟩
        have hk := perC_pos b1
        have hkl := perC_le bs
        have plen : (packed bs ns).length ≤ ns.length := pack_le bs hk _ _
        have clen : ((packed bs ns).map V.int).length = (packed bs ns).length := List.length_map ..
        refine ⟨_, rfl, vp, _, rfl, .inl (SqL.of w8.at_v), fun hd nhd => ?_⟩
        have w9 := w8.same (Same.upd (o := .lst (ns.map V.int)) nhd)
        suffices hh : ∀ H9, (W1 H9 Pt b l vp cp bs ns ∧ H9 hd = some (.lst (ns.map V.int))) → _ from hh _ ⟨w9, upd_same⟩
        rintro H9 ⟨w9, hhd⟩
        refine ⟨_, rfl, bs, rfl, bs64, fun _ _ => ?_, fun z => z ⟨b2, b1⟩⟩
        refine ⟨_, rfl, _, rfl, bs, hd, ns, rfl, bs64, SqL.of hhd, by omega, fun _ _ _ H10 pp s10 npp hpp => ?_, fun z => z ⟨b2, b1⟩, fun _ _ i fb => (fb.not hB).elim⟩
        refine ⟨(by show 2 ≤ sizeLine; decide), fun fp nfp => ?_⟩
        have sf := s10.upd' (o := .lst [.int (perC bs : Nat), .ref pp]) nfp
        have hpp1 := Same.upd (o := .lst [.int (perC bs : Nat), .ref pp]) nfp _ _ hpp
        suffices hh : ∀ H11, (W1 H11 Pt b l vp cp bs ns ∧ H11 hd = some (.lst (ns.map V.int)) ∧ H11 pp = some (.tup ((packed bs ns).map V.int)) ∧ H11 fp = some (.lst [.int (perC bs : Nat), .ref pp])) → _ from hh _ ⟨w9.same sf, sf _ _ hhd, hpp1, upd_same⟩
        rintro H11 ⟨w11, hhd, hpp, hfp⟩
        refine ⟨_, rfl, _, rfl, bs, rfl, b2, b1, _, rfl, (by show 2 ≤ sizeLine; decide), fun dp ndp => ?_⟩
        have sd := Same.upd (H := H11) (o := .lst [.int (perC bs : Nat), .ref cp]) ndp
        have w12 := w11.same sd
        refine ⟨_, _, rfl, 2, by decide, ?_, _, rfl, ?_⟩
        · refine .lst (SqL.of (sd _ _ hfp)) (SqL.of upd_same) (by show 2 ≤ 10000; decide) rfl fun j x y hx hy => ?_
          match j, hx, hy with
          | 0, hx, hy =>
            cases hx
            cases hy
            exact .int _
          | 1, hx, hy =>
            cases hx
            cases hy
            refine .tup (SqT.of (sd _ _ hpp)) (SqT.of w12.at_c) (by omega) rfl fun j x y hx hy => ?_
            rw [hx] at hy
            obtain rfl := Option.some.inj hy
            obtain ⟨z, _, rfl⟩ := map_at hx
            exact .int z
          | _ + 2, hx, _ => cases hx
        refine ite2 (fun c => Bool.noConfusion (show false = true from c)) (fun _ => ?_)
        refine ⟨_, rfl, _, rfl, hd, vp, ns, ns, rfl, rfl, SqL.of (sd _ _ hhd), SqL.of w12.at_v, _, rfl, ?_⟩
        refine ite2 (fun c => ?_) (fun _ => ?_)
        · have c' : (!decide (ns = ns)) = true := c
          rw [decide_eq_true rfl] at c'
          cases c'
        suffices hh : ∀ H12, W1 H12 Pt b l vp cp bs ns → _ from hh _ w12
        intro H12 w12
        -- the places
        have mle : perC bs * (packed bs ns).length ≤ 14 * 300 := Nat.mul_le_mul hkl (by omega)
        have most := packed_most b1 ns
        have em : ((((packed bs ns).map V.int).length : Nat) : Int) * ((perC bs : Nat) : Int) = ((perC bs * (packed bs ns).length : Nat) : Int) := by rw [clen, Int.natCast_mul, Int.mul_comm]
        refine ⟨_, rfl, cp, _, rfl, .inr (SqT.of w12.at_c), _, rfl, bs, rfl, b2, b1, _, _, rfl, rfl, .inr (by constructor <;> omega), ?_⟩
        try dsimp only
        rw [em]
        refine ⟨_, rfl, (by show 1 ≤ sizeLine; decide), fun zp nzp => ?_⟩
        have w13 := w12.same (Same.upd (o := .lst [.int 0]) nzp)
        have et : (((perC bs * (packed bs ns).length : Nat) : Int) - (((ns.map V.int).length : Nat) : Int)).toNat = perC bs * (packed bs ns).length - ns.length := by omega
        refine ⟨_, rfl, _, rfl, vp, _, rfl, .inl (SqL.of w13.at_v), _, _, rfl, rfl, _, _, _, rfl, rfl, upd_same, by omega, by omega, by rw [sizeLine_eq]; show 1 * _ ≤ _; omega, fun rp nrp => ?_⟩
        have erep : ∀ k : Nat, (List.replicate k [V.int 0]).flatten = (List.replicate k (0 : Int)).map V.int := fun k => by
          induction k with
          | zero => rfl
          | succ k ih =>
            rw [List.replicate_succ, List.flatten_cons, ih, List.replicate_succ]
            rfl
        try dsimp only
        rw [et, erep]
        have w14 := w13.same (Same.upd (o := .lst ((List.replicate (perC bs * (packed bs ns).length - ns.length) (0 : Int)).map V.int)) nrp)
        refine ⟨vp, rp, _, _, rfl, rfl, w14.at_v, upd_same, by rw [List.length_map, List.length_map, List.length_replicate, sizeLine_eq]; omega, fun fu nfu => ?_⟩
        try dsimp only
        rw [← List.map_append]
        have w15 := w14.same (Same.upd (o := .lst ((ns ++ List.replicate (perC bs * (packed bs ns).length - ns.length) (0 : Int)).map V.int)) nfu)
        generalize hW : L2.upd (L2.upd (L2.upd H12 zp (HO.lst [V.int 0])) rp (HO.lst ((List.replicate (perC bs * (packed bs ns).length - ns.length) (0 : Int)).map V.int))) fu (HO.lst ((ns ++ List.replicate (perC bs * (packed bs ns).length - ns.length) (0 : Int)).map V.int)) = H15 at w15 ⊢
        have hfu : H15 fu = some (.lst ((ns ++ List.replicate (perC bs * (packed bs ns).length - ns.length) (0 : Int)).map V.int)) := by
          rw [← hW]
          exact upd_same
        refine ⟨_, rfl, _, rfl, by omega, by omega, fun D0 nD => ?_⟩
        refine lc_ifL (walk_range (lo := 0)) (fun m H' => Same H15 H' ∧ H' D0 = some (.lst [])) ⟨Same.upd nD, upd_same⟩ (fun _ _ _ _ => True.intro) ?_ ?_
        · rintro m x H16 H16' hm ⟨s16, hD⟩ ⟨rfl, rfl⟩
          rw [Int.toNat_natCast] at hm
          have e0 : (0 : Int) + (m : Int) = (m : Int) := by omega
          refine ⟨_, rfl, _, rfl, _, rfl, bs, _, cp, _, rfl, bs64, by omega, SqT.of (s16 _ _ w15.at_c), by omega, fun _ _ _ m' em' hm' H17 s17 => ?_, fun z => z ⟨b2, b1⟩, fun _ _ i fb => (fb.not (packed_below b2 b1 hB)).elim, fun _ _ _ z => (z ⟨by omega, by omega⟩).elim⟩
          obtain rfl : m = m' := by omega
          refine ⟨_, rfl, _, rfl, fu, _, _, _, rfl, rfl, SqL.of (s17 _ _ (s16 _ _ hfu)), (by rw [e0]; exact atI_nat (by rw [List.getElem?_map, full_at most hm']; rfl)), _, _, rfl, 0, by decide, ?_, _, rfl, ?_⟩
          · rw [at_packed b1 hB hm']
            exact .int _
          · exact ⟨s16.trans s17, s17 _ _ hD⟩
        · rintro H16 ⟨s16, hD⟩
          refine ⟨Nat.zero_le _, fun l9 nl => ?_⟩
          have w17 := (w15.same s16).same (Same.upd (o := .lst ([] : List V)) nl)
          refine ⟨D0, l9, [], [], rfl, rfl, SqL.of (Same.upd nl _ _ hD), SqL.of upd_same, _, rfl, ?_⟩
          refine ite2 (fun c => Bool.noConfusion (show false = true from c)) (fun _ => ?_)
          suffices hh : ∀ H17, W1 H17 Pt b l vp cp bs ns → _ from hh _ w17
          intro H17 w17
          refine ⟨_, rfl, _, _, rfl, rfl, ⟨by decide, by decide, by decide⟩, b, l, _, rfl, w17.bx, by decide, by decide, fun H18 far B18 O18 f0 f1 => ?_⟩
          have f1' : far < 1000000000000000000 := by
            have e : (10 : Int) ^ ((18 : Int).toNat) = 1000000000000000000 := by decide
            rw [e] at f1
            exact f1
          have w18 := w17.out B18 O18
          refine ⟨_, rfl, _, rfl, _, _, rfl, rfl, _, rfl, _, _, rfl, rfl, (by show 4 ≤ sizeLine; decide), fun q nq => ?_⟩
          have w19 := w18.same (Same.upd (o := .lst ([1, 0, -1 - far, 10001 + far].map V.int)) nq)
          obtain ⟨qb, ql⟩ := w18.bx.free nq
          refine ⟨_, rfl, b, l, 4, rfl, w19.bx, by decide, by decide, fun H20 t B20 O20 t0 t1 => ?_⟩
          obtain ⟨odd, ho, oa⟩ := pickI (zs := [1, 0, -1 - far, 10001 + far]) t0 t1
          have hodd : ¬ (2 ≤ odd ∧ odd ≤ 10000) ∧ odd.natAbs < 2 ^ 64 := by
            simp only [List.mem_cons, List.not_mem_nil, or_false] at ho
            omega
          have w20 := w19.out B20 O20
          refine ⟨q, _, t, _, rfl, rfl, SqL.of (O20.at qb ql upd_same), oa, ?_⟩
          refine ⟨w20.tabs, fun f1 c1 Ha e1 t1 M1 => ⟨t1, fun f2 c2 Hb e2 t2 M2 => ⟨t2, fun f3 c3 Hc e3 t3 M3 => ⟨(by show 3 ≤ sizeLine; decide), fun wp nwp => ?_⟩⟩⟩⟩
          have wc := ((w20.ext e1 t1).ext e2 t2).ext e3 t3
          have sw := Same.upd (H := Hc) (o := .lst [.ref f1, .ref f2, .ref f3]) nwp
          refine ⟨_, rfl, (by show 2 ≤ sizeLine; decide), fun q nq => fun b' LB => ⟨wp, q, [f1, f2, f3], rfl, SqL.of (Same.upd nq _ _ upd_same), (by show 3 ≤ 1000; decide), fun f hf => ?_, fun H21 s21 => ⟨_, rfl, ?_⟩⟩⟩
          · have sq := sw.trans (Same.upd (o := .tup [.str (cnm 0), .int 0]) nq)
            have due : (L2.upd (L2.upd Hc wp (.lst [.ref f1, .ref f2, .ref f3])) q (.tup [.str (cnm 0), .int 0])) q = some (.tup [.str (cnm 0), .int 0]) := upd_same
            have no : ∀ {H1 H2 : Hp} {Q : VK}, Same (L2.upd (L2.upd Hc wp (.lst [.ref f1, .ref f2, .ref f3])) q (.tup [.str (cnm 0), .int 0])) H1 → (∀ (v : V) (H'' : Hp), Same H1 H'' → (∃ m, m < 3 ∧ Alk K H'' m v (.ref q)) → Q v H'') → Same H1 H2 → Told cs (.ref (cs 0)) none H2 Q := fun s1 Tt s2 => told_due (i := 0) (n := 3) (by decide) (by decide) (s1 _ _ due) Tt s2 (.inl ⟨by decide, by decide, by decide, rfl, rfl⟩)
            have hf' : f = f1 ∨ f = f2 ∨ f = f3 := by simpa using hf
            rcases hf' with rfl | rfl | rfl
            · have W := work_of (k := 4) (t := fun E => tCallS (spPerX (cs 0)) (fun _ => E) (tCons (tVar 12) tNil)) (ps := []) (T := fun H' Q' => ∀ (v : V) (H'' : Hp), Same H' H'' → (∃ m, m < 3 ∧ Alk K H'' m v (.ref q)) → Q' v H'') LB (((M1.extN e2).extN e3).same sq) (lamP_by (show lamPB N_law (defScope s_law) _ _ = true by decide +kernel)) (.inl ⟨rfl, fun _ _ _ _ _ _ => rfl⟩) (fun A outer s H E hr2 => pe_cS (E := fun _ => E) (X_per_cell _) (hr2.mono (by decide)) (fun σ => passAt (takes_of rfl rfl rfl rfl) σ) (pa_cons (pv 12) pa_nil))
                (fun H' Q E s' Tt hE => ⟨_, rfl, odd, rfl, hodd.2, fun h2 h1 => absurd ⟨h2, h1⟩ hodd.1, fun _ => hE _ _ _ (no s' Tt (.refl _))⟩)
              exact W
            · have W := work_of (k := 4) (t := fun E => tCallS (spPckX K (cs 0) (cs 1)) (fun _ => E) (tCons (tVar 12) (tCons (tLst (tCons (tUn (rU fun i => V.int (-i)) (tC (V.int 1))) tNil)) tNil))) (ps := ["_law_a"]) (T := fun H' Q' => ∀ (v : V) (H'' : Hp), Same H' H'' → (∃ m, m < 3 ∧ Alk K H'' m v (.ref q)) → Q' v H'') LB ((M2.extN e3).same sq) (lamP_by (show lamPB N_law (defScope s_law) _ _ = true by decide +kernel)) (.inr ⟨by simp, rfl, fun _ _ _ _ _ _ _ its hl => match its, hl with | [_], _ => ⟨_, rfl, rfl⟩⟩) (fun A outer s H E hr2 => pe_cS (E := fun _ => E) (X_packed _) (hr2.mono (by decide)) (fun σ => passAt (takes_of rfl rfl rfl rfl) σ) (pa_cons (pv 12) (pa_cons (pe_lst (pa_cons (pe_un un_neg pe_int) pa_nil)) pa_nil)))
                (fun H' Q E s' Tt hE => ⟨_, rfl, _, rfl, (by show 1 ≤ sizeLine; decide), fun lp nlp => ⟨odd, lp, [-1], rfl, hodd.2, SqL.of upd_same, (by show 1 ≤ 1000; decide), fun h2 h1 => absurd ⟨h2, h1⟩ hodd.1, fun _ => hE _ _ _ (no s' Tt (Same.upd nlp)), fun h2 h1 => absurd ⟨h2, h1⟩ hodd.1⟩⟩)
              exact W
            · have W := work_of (k := 4) (t := fun E => tCallS (spRdX K (cs 0) (cs 1)) (fun _ => E) (tCons (tVar 12) (tCons (tTup (tCons (tUn (rU fun i => V.int (-i)) (tC (V.int 1))) tNil)) (tCons (tUn (rU fun i => V.int (-i)) (tC (V.int 1))) tNil)))) (ps := ["_law_b"]) (T := fun H' Q' => ∀ (v : V) (H'' : Hp), Same H' H'' → (∃ m, m < 3 ∧ Alk K H'' m v (.ref q)) → Q' v H'') LB (M3.same sq) (lamP_by (show lamPB N_law (defScope s_law) _ _ = true by decide +kernel)) (.inr ⟨by simp, rfl, fun _ _ _ _ _ _ _ its hl => match its, hl with | [_], _ => ⟨_, rfl, rfl⟩⟩) (fun A outer s H E hr2 => pe_cS (E := fun _ => E) (X_read_packed _) (hr2.mono (by decide)) (fun σ => passAt (takes_of rfl rfl rfl rfl) σ) (pa_cons (pv 12) (pa_cons (pe_tup (pa_cons (pe_un un_neg pe_int) pa_nil)) (pa_cons (pe_un un_neg pe_int) pa_nil))))
                (fun H' Q E s' Tt hE => ⟨_, rfl, _, rfl, (by show 1 ≤ sizeLine; decide), fun lp nlp => ⟨_, rfl, odd, -1, lp, [-1], rfl, hodd.2, by decide, SqT.of upd_same, (by show 1 ≤ 1000; decide), fun h2 h1 => absurd ⟨h2, h1⟩ hodd.1, fun _ => hE _ _ _ (no s' Tt (Same.upd nlp)), fun h2 h1 => absurd ⟨h2, h1⟩ hodd.1, fun h2 h1 => absurd ⟨h2, h1⟩ hodd.1⟩⟩)
              exact W
          have w21 := ((wc.same sw).same (Same.upd nq)).same s21
          refine ite2 (fun c => Bool.noConfusion (show false = true from c)) (fun _ => ?_)
          suffices hh : ∀ H21, W1 H21 Pt b l vp cp bs ns → _ from hh _ w21
          clear w21 s21
          intro H21 w21
          -- values with one that is none
          refine ⟨_, rfl, _, rfl, vp, _, rfl, .inl (SqL.of w21.at_v), _, _, rfl, rfl, b, l, _, rfl, w21.bx, by omega, by omega, fun H22 at1 B22 O22 a0 a1 => ?_⟩
          have w22 := w21.out B22 O22
          obtain ⟨i1, rfl⟩ := Int.eq_ofNat_of_zero_le a0
          have hi1 : i1 ≤ ns.length := by omega
          refine ⟨_, rfl, _, rfl, _, rfl, vp, _, rfl, SqL.of w22.at_v, fun p1 np1 => ?_⟩
          obtain ⟨pb1, pl1⟩ := w22.bx.free np1
          have h23 : (L2.upd H22 p1 (.lst (cutV (ns.map V.int) none (some (i1 : Int))))) p1 = some (.lst ((ns.take i1).map V.int)) := by rw [upd_same, cutW_ok, cutW_take]
          have w23 := w22.same (Same.upd (o := .lst (cutV (ns.map V.int) none (some (i1 : Int)))) np1)
          generalize hW23 : L2.upd H22 p1 (HO.lst (cutV (ns.map V.int) none (some (i1 : Int)))) = H23 at w23 h23 ⊢
          have hp1 := h23
          refine ⟨_, rfl, _, rfl, _, rfl, _, _, rfl, rfl, _, rfl, _, rfl, _, rfl, _, _, rfl, rfl, (by show 4 ≤ sizeLine; decide), fun q nq => ?_⟩
          have w24 := w23.same (Same.upd (o := .lst ([bs, bs + far, -1, -1 - far].map V.int)) nq)
          have hp1' := Same.upd (o := .lst ([bs, bs + far, -1, -1 - far].map V.int)) nq _ _ hp1
          obtain ⟨qb, ql⟩ := w23.bx.free nq
          refine ⟨_, rfl, b, l, 4, rfl, w24.bx, by decide, by decide, fun H25 t B25 O25 t0 t1 => ?_⟩
          obtain ⟨x, hx, xa⟩ := pickI (zs := [bs, bs + far, -1, -1 - far]) t0 t1
          have xbad : ¬ (0 ≤ x ∧ x < bs) := by
            simp only [List.mem_cons, List.not_mem_nil, or_false] at hx
            omega
          have w25 := w24.out B25 O25
          have hp25 := O25.at pb1 pl1 hp1'
          have ltk : ((ns.take i1).map V.int).length ≤ 300 := by
            rw [List.length_map, List.length_take]
            omega
          refine ⟨q, _, t, _, rfl, rfl, SqL.of (O25.at qb ql upd_same), xa, (by show 1 ≤ sizeLine; decide), fun r nr => ?_⟩
          refine ⟨p1, r, _, _, rfl, rfl, Same.upd nr _ _ hp25, upd_same, by rw [sizeLine_eq]; show _ + 1 ≤ _; omega, fun c1 nc1 => ?_⟩
          have h27 : (L2.upd (L2.upd H25 r (.lst [.int x])) c1 (.lst ((ns.take i1).map V.int ++ [.int x]))) c1 = some (.lst ((ns.take i1 ++ [x]).map V.int)) := by
            rw [upd_same, List.map_append]
            rfl
          suffices hh : ∀ H27, (W1 H27 Pt b l vp cp bs ns ∧ H27 c1 = some (.lst ((ns.take i1 ++ [x]).map V.int))) → _ from hh _ ⟨(w25.same (Same.upd nr)).same (Same.upd nc1), h27⟩
          rintro H27 ⟨w27, hc1⟩
          refine ⟨_, rfl, _, rfl, _, rfl, vp, _, rfl, SqL.of w27.at_v, fun p2 np2 => ?_⟩
          have h28 : (L2.upd H27 p2 (.lst (cutV (ns.map V.int) (some (i1 : Int)) none))) p2 = some (.lst ((cutW ns (some (i1 : Int)) none).map V.int)) := by rw [upd_same, cutW_ok]
          have w28 := w27.same (Same.upd (o := .lst (cutV (ns.map V.int) (some (i1 : Int)) none)) np2)
          have hc1 := Same.upd (o := .lst (cutV (ns.map V.int) (some (i1 : Int)) none)) np2 _ _ hc1
          generalize hW28 : L2.upd H27 p2 (HO.lst (cutV (ns.map V.int) (some (i1 : Int)) none)) = H28 at w28 hc1 h28 ⊢
          have hp2 := h28
          have lcut := cutW_le ns (some (i1 : Int)) none
          refine ⟨c1, p2, _, _, rfl, rfl, hc1, hp2, by rw [List.length_map, List.length_map, List.length_append, List.length_take, sizeLine_eq]; show _ + 1 + _ ≤ _; omega, fun c2 nc2 => ?_⟩
          have h29 : (L2.upd H28 c2 (.lst ((ns.take i1 ++ [x]).map V.int ++ (cutW ns (some (i1 : Int)) none).map V.int))) c2 = some (.lst (((ns.take i1 ++ [x]) ++ cutW ns (some (i1 : Int)) none).map V.int)) := by rw [upd_same, ← List.map_append]
          suffices hh : ∀ H29, (W1 H29 Pt b l vp cp bs ns ∧ H29 c2 = some (.lst (((ns.take i1 ++ [x]) ++ cutW ns (some (i1 : Int)) none).map V.int))) → _ from hh _ ⟨w28.same (Same.upd nc2), h29⟩
          rintro H29 ⟨w29, hc2⟩
          refine ⟨_, rfl, (by show 1 ≤ sizeLine; decide), fun r2 nr2 => ?_⟩
          refine ⟨c2, r2, _, _, rfl, rfl, Same.upd nr2 _ _ hc2, upd_same, by rw [List.length_map, List.length_append, List.length_append, List.length_take, sizeLine_eq]; show _ + 1 + _ + 1 ≤ _; omega, fun bd nbd => ?_⟩
          obtain ⟨bads, hbads⟩ : ∃ bads, bads = ns.take i1 ++ x :: (cutW ns (some (i1 : Int)) none ++ [-1]) := ⟨_, rfl⟩
          have fbad : FirstBad bs bads i1 := by
            rw [hbads]
            exact first_bad hB xbad hi1
          have lbad : bads.length ≤ 1000 := by
            rw [hbads, List.length_append, List.length_take, List.length_cons, List.length_append]
            show _ + (_ + 1 + 1) ≤ _
            omega
          have h30 : (L2.upd (L2.upd H29 r2 (.lst [.int (-1)])) bd (.lst (((ns.take i1 ++ [x]) ++ cutW ns (some (i1 : Int)) none).map V.int ++ [.int (-1)]))) bd = some (.lst (bads.map V.int)) := by
            rw [upd_same, hbads]
            simp
          have w30 := (w29.same (Same.upd (o := .lst [.int (-1)]) nr2)).same (Same.upd (o := .lst (((ns.take i1 ++ [x]) ++ cutW ns (some (i1 : Int)) none).map V.int ++ [.int (-1)])) nbd)
          have hbd := h30
          refine ⟨w30.tabs, fun f1 d1 Ha e1 t1 M1 => ⟨(by show 1 ≤ sizeLine; decide), fun wp nwp => ?_⟩⟩
          have wa := w30.ext e1 t1
          have hbda := e1.lst hbd
          have sw := Same.upd (H := Ha) (o := .lst [.ref f1]) nwp
          refine ⟨_, rfl, (by show 2 ≤ sizeLine; decide), fun q nq => fun b' LB => ⟨wp, q, [f1], rfl, SqL.of (Same.upd nq _ _ upd_same), (by show 1 ≤ 1000; decide), fun f hf => ?_, fun H31 s31 => ⟨_, rfl, ?_⟩⟩⟩
          · have sq := sw.trans (Same.upd (o := .tup [.str (cnm 1), .int i1]) nq)
            have due : (L2.upd (L2.upd Ha wp (.lst [.ref f1])) q (.tup [.str (cnm 1), .int i1])) q = some (.tup [.str (cnm 1), .int i1]) := upd_same
            have hf' : f = f1 := by simpa using hf
            subst hf'
            have W := work_of (k := 4) (t := fun E => tCallS (spPckX K (cs 0) (cs 1)) (fun _ => E) (tCons (tVar 3) (tCons (tVar 15) tNil))) (ps := []) (T := fun H' Q' => ∀ (v : V) (H'' : Hp), Same H' H'' → (∃ m, m < 3 ∧ Alk K H'' m v (.ref q)) → Q' v H'') LB (M1.same sq) (lamP_by (show lamPB N_law (defScope s_law) _ _ = true by decide +kernel)) (.inl ⟨rfl, fun _ _ _ _ _ _ => rfl⟩) (fun A outer s H E hr2 => pe_cS (E := fun _ => E) (X_packed _) (hr2.mono (by decide)) (fun σ => passAt (takes_of rfl rfl rfl rfl) σ) (pa_cons (pv 3) (pa_cons (pv 15) pa_nil)))
              (fun H' Q E s' Tt hE => ⟨_, rfl, _, rfl, bs, bd, bads, rfl, bs64, SqL.of (s' _ _ (sq _ _ hbda)), lbad, fun _ _ hB' => absurd hB' fbad.not, fun z => absurd ⟨b2, b1⟩ z, fun _ _ i fb d H'' s'' nd' hd' => hE _ _ _ (told_due (i := 1) (n := 3) (by decide) (by decide) (s' _ _ due) Tt s'' (.inr ⟨.inl rfl, d, _, rfl, hd', by rw [fb.eq fbad]; rfl⟩))⟩)
            exact W
          have w31 := ((wa.same sw).same (Same.upd nq)).same s31
          refine ite2 (fun c => Bool.noConfusion (show false = true from c)) (fun _ => ?_)
          suffices hh : ∀ H31, W1 H31 Pt b l vp cp bs ns → _ from hh _ w31
          clear w31 s31
          intro H31 w31
          -- cells with one that is none
          refine ⟨_, rfl, _, rfl, cp, _, rfl, .inr (SqT.of w31.at_c), _, _, rfl, rfl, b, l, _, rfl, w31.bx, by omega, by omega, fun H32 at2 B32 O32 g0 g1 => ?_⟩
          have w32 := w31.out B32 O32
          obtain ⟨i2, rfl⟩ := Int.eq_ofNat_of_zero_le g0
          have hi2 : i2 ≤ (packed bs ns).length := by omega
          have hB2 := packed_below b2 b1 hB
          refine ⟨_, rfl, _, rfl, _, rfl, cp, _, rfl, SqT.of w32.at_c, fun p1 H33 s33 hp1 => ?_⟩
          rw [cutW_ok, cutW_take] at hp1
          have w33 := w32.same s33
          refine ⟨_, rfl, _, _, rfl, rfl, _, rfl, (by show 3 ≤ sizeLine; decide), fun q nq => ?_⟩
          have w34 := w33.same (Same.upd (o := .lst ([10000, 10000 + far, -1].map V.int)) nq)
          have hp1' := (Same.upd (o := .lst ([10000, 10000 + far, -1].map V.int)) nq).seqT hp1
          obtain ⟨qb, ql⟩ := w33.bx.free nq
          refine ⟨_, rfl, b, l, 3, rfl, w34.bx, by decide, by decide, fun H35 t B35 O35 t0 t1 => ?_⟩
          obtain ⟨x2, hx2, xa2⟩ := pickI (zs := [10000, 10000 + far, -1]) t0 t1
          have xbad2 : ¬ (0 ≤ x2 ∧ x2 < 10000) := by
            simp only [List.mem_cons, List.not_mem_nil, or_false] at hx2
            omega
          have w35 := w34.out B35 O35
          have hp35 := seqT_out w34.bx O35 hp1'
          refine ⟨q, _, t, _, rfl, rfl, SqL.of (O35.at qb ql upd_same), xa2, (by show 1 ≤ sizeLine; decide), fun r nr => ?_⟩
          refine ⟨p1, r, _, _, rfl, rfl, (Same.upd nr).seqT hp35, SqT.of upd_same, by rw [List.length_map, List.length_take, sizeLine_eq]; show _ + 1 ≤ _; omega, fun c1 H36 s36 hc1 => ?_⟩
          have w36 := (w35.same (Same.upd nr)).same s36
          refine ⟨_, rfl, _, rfl, _, rfl, cp, _, rfl, SqT.of w36.at_c, fun p2 H37 s37 hp2 => ?_⟩
          rw [cutW_ok] at hp2
          have lcut2 := cutW_le (packed bs ns) (some (i2 : Int)) none
          refine ⟨c1, p2, _, _, rfl, rfl, s37.seqT hc1, hp2, by rw [List.length_append, List.length_map, List.length_map, List.length_take, sizeLine_eq]; show _ + 1 + _ ≤ _; omega, fun c2 H38 s38 hc2 => ?_⟩
          refine ⟨_, rfl, (by show 1 ≤ sizeLine; decide), fun r2 nr2 => ?_⟩
          refine ⟨c2, r2, _, _, rfl, rfl, (Same.upd nr2).seqT hc2, SqT.of upd_same, by rw [List.length_append, List.length_append, List.length_map, List.length_map, List.length_take, sizeLine_eq]; show _ + 1 + _ + 1 ≤ _; omega, fun rw1 H39 s39 hrw => ?_⟩
          have w39 := (((w36.same s37).same s38).same (Same.upd nr2)).same s39
          obtain ⟨rows, hrows⟩ : ∃ rows, rows = (packed bs ns).take i2 ++ x2 :: (cutW (packed bs ns) (some (i2 : Int)) none ++ [-1]) := ⟨_, rfl⟩
          have fbad2 : FirstBad 10000 rows i2 := by
            rw [hrows]
            exact first_bad hB2 xbad2 hi2
          have lrows : rows.length ≤ 1000 := by
            rw [hrows, List.length_append, List.length_take, List.length_cons, List.length_append]
            show _ + (_ + 1 + 1) ≤ _
            omega
          have erows : rows.map V.int = (((packed bs ns).take i2).map V.int ++ [V.int x2] ++ (cutW (packed bs ns) (some (i2 : Int)) none).map V.int) ++ [V.int (-1)] := by
            rw [hrows]
            simp
          have hrw' : SqT K H39 rw1 (rows.map V.int) := by
            rw [erows]
            exact hrw
          refine ⟨w39.tabs, fun f1 d1 Ha e1 t1 M1 => ⟨(by show 1 ≤ sizeLine; decide), fun wp nwp => ?_⟩⟩
          have wa := w39.ext e1 t1
          have hrwa := e1.seqT hrw'
          have sw := Same.upd (H := Ha) (o := .lst [.ref f1]) nwp
          refine ⟨_, rfl, (by show 2 ≤ sizeLine; decide), fun q nq => fun b' LB => ⟨wp, q, [f1], rfl, SqL.of (Same.upd nq _ _ upd_same), (by show 1 ≤ 1000; decide), fun f hf => ?_, fun H40 s40 => ⟨_, rfl, ?_⟩⟩⟩
          · have sq := sw.trans (Same.upd (o := .tup [.str (cnm 1), .int i2]) nq)
            have due : (L2.upd (L2.upd Ha wp (.lst [.ref f1])) q (.tup [.str (cnm 1), .int i2])) q = some (.tup [.str (cnm 1), .int i2]) := upd_same
            have hf' : f = f1 := by simpa using hf
            subst hf'
            have W := work_of (k := 4) (t := fun E => tCallS (spRdX K (cs 0) (cs 1)) (fun _ => E) (tCons (tVar 3) (tCons (tVar 16) (tCons (tUn (rU fun i => V.int (-i)) (tC (V.int 1))) tNil)))) (ps := []) (T := fun H' Q' => ∀ (v : V) (H'' : Hp), Same H' H'' → (∃ m, m < 3 ∧ Alk K H'' m v (.ref q)) → Q' v H'') LB (M1.same sq) (lamP_by (show lamPB N_law (defScope s_law) _ _ = true by decide +kernel)) (.inl ⟨rfl, fun _ _ _ _ _ _ => rfl⟩) (fun A outer s H E hr2 => pe_cS (E := fun _ => E) (X_read_packed _) (hr2.mono (by decide)) (fun σ => passAt (takes_of rfl rfl rfl rfl) σ) (pa_cons (pv 3) (pa_cons (pv 16) (pa_cons (pe_un un_neg pe_int) pa_nil))))
              (fun H' Q E s' Tt hE => ⟨_, rfl, _, rfl, _, rfl, bs, -1, rw1, rows, rfl, bs64, by decide, s'.seqT (sq.seqT hrwa), lrows, fun _ _ hB' => absurd hB' fbad2.not, fun z => absurd ⟨b2, b1⟩ z, fun _ _ i fb d H'' s'' nd' hd' => hE _ _ _ (told_due (i := 1) (n := 3) (by decide) (by decide) (s' _ _ due) Tt s'' (.inr ⟨.inl rfl, d, _, rfl, hd', by rw [fb.eq fbad2]; rfl⟩)), fun _ _ hB' => absurd hB' fbad2.not⟩)
            exact W
          have w40 := ((wa.same sw).same (Same.upd nq)).same s40
          refine ite2 (fun c => Bool.noConfusion (show false = true from c)) (fun _ => ?_)
          suffices hh : ∀ H40, W1 H40 Pt b l vp cp bs ns → _ from hh _ w40
          clear w40 s40
          intro H40 w40
          -- places that can't be
          refine ⟨_, rfl, _, rfl, b, l, 400, rfl, w40.bx, by decide, by decide, fun H41 p4 B41 O41 p0 p1 => ?_⟩
          have w41 := w40.out B41 O41
          refine ⟨_, _, rfl, rfl, _, rfl, _, rfl, _, _, rfl, rfl, _, rfl, _, rfl, _, rfl, _, _, rfl, rfl, (by show 4 ≤ sizeLine; decide), fun q nq => ?_⟩
          have w42 := w41.same (Same.upd (o := .lst ([-1 - p4, -1 - far, ((perC bs * (packed bs ns).length : Nat) : Int), ((perC bs * (packed bs ns).length : Nat) : Int) + far].map V.int)) nq)
          obtain ⟨qb, ql⟩ := w41.bx.free nq
          refine ⟨_, rfl, b, l, 4, rfl, w42.bx, by decide, by decide, fun H43 t B43 O43 t0 t1 => ?_⟩
          obtain ⟨pl, hpl, pla⟩ := pickI (zs := [-1 - p4, -1 - far, ((perC bs * (packed bs ns).length : Nat) : Int), ((perC bs * (packed bs ns).length : Nat) : Int) + far]) t0 t1
          have plbad : ¬ (0 ≤ pl ∧ pl < ((perC bs * (packed bs ns).length : Nat) : Int)) ∧ pl.natAbs < 2 ^ 64 := by
            simp only [List.mem_cons, List.not_mem_nil, or_false] at hpl
            omega
          have w43 := w42.out B43 O43
          refine ⟨q, _, t, _, rfl, rfl, SqL.of (O43.at qb ql upd_same), pla, ?_⟩
          refine ⟨w43.tabs, fun f1 d1 Ha e1 t1 M1 => ⟨(by show 1 ≤ sizeLine; decide), fun wp nwp => ?_⟩⟩
          have wa := w43.ext e1 t1
          have sw := Same.upd (H := Ha) (o := .lst [.ref f1]) nwp
          refine ⟨(by show 2 ≤ sizeLine; decide), fun q nq => fun b' LB => ⟨wp, q, [f1], rfl, SqL.of (Same.upd nq _ _ upd_same), (by show 1 ≤ 1000; decide), fun f hf => ?_, fun H44 s44 => ⟨_, rfl, ?_⟩⟩⟩
          · have sq := sw.trans (Same.upd (o := .tup [.str (cnm 0), .int 0]) nq)
            have due : (L2.upd (L2.upd Ha wp (.lst [.ref f1])) q (.tup [.str (cnm 0), .int 0])) q = some (.tup [.str (cnm 0), .int 0]) := upd_same
            have hf' : f = f1 := by simpa using hf
            subst hf'
            have W := work_of (k := 4) (t := fun E => tCallS (spRdX K (cs 0) (cs 1)) (fun _ => E) (tCons (tVar 3) (tCons (tVar 6) (tCons (tVar 17) tNil)))) (ps := []) (T := fun H' Q' => ∀ (v : V) (H'' : Hp), Same H' H'' → (∃ m, m < 3 ∧ Alk K H'' m v (.ref q)) → Q' v H'') LB (M1.same sq) (lamP_by (show lamPB N_law (defScope s_law) _ _ = true by decide +kernel)) (.inl ⟨rfl, fun _ _ _ _ _ _ => rfl⟩) (fun A outer s H E hr2 => pe_cS (E := fun _ => E) (X_read_packed _) (hr2.mono (by decide)) (fun σ => passAt (takes_of rfl rfl rfl rfl) σ) (pa_cons (pv 3) (pa_cons (pv 6) (pa_cons (pv 17) pa_nil))))
              (fun H' Q E s' Tt hE => ⟨_, rfl, _, rfl, _, rfl, bs, pl, cp, _, rfl, bs64, plbad.2, s'.seqT (sq.seqT (SqT.of wa.at_c)), by omega, fun _ _ _ i e hi => absurd ⟨by omega, by omega⟩ plbad.1, fun z => absurd ⟨b2, b1⟩ z, fun _ _ i fb => absurd hB2 fb.not, fun _ _ _ _ H'' s'' => hE _ _ _ (told_due (i := 0) (n := 3) (by decide) (by decide) (s' _ _ due) Tt s'' (.inl ⟨by decide, by decide, by decide, rfl, rfl⟩))⟩)
            exact W
          have w44 := ((wa.same sw).same (Same.upd nq)).same s44
          refine ite2 (fun c => Bool.noConfusion (show false = true from c)) (fun _ => ?_)
          exact ⟨⟨_, _, _, _, _, _, _, _, _, _, _, _, _, _, _, _, rfl⟩, w44.bx, w44.tabs⟩
    · rintro σ H9 ⟨⟨v2, v3, v4, v5, v6, v7, v8, v9, v10, v11, v12, v13, v14, v15, v16, v17, rfl⟩, _⟩
      exact k _
end
end K3

set_option Elab.async false
set_option linter.all false
set_option maxRecDepth 100000
set_option maxHeartbeats 0
namespace K3
open PySem PySem.Spec PyProof.Rows L2
def mkD (x : Str) (st : Stmt) : He.DefD := ⟨(x, none), x, x, defArgs st, defBody st, defScope st, [], []⟩
def fnL : List He.DefD := [mkD "per_cell" s_per_cell, mkD "packed" s_packed, mkD "read_packed" s_read_packed, mkD "check_below" s_check_below, mkD "cell_of" s_cell_of, mkD "numbers_in" s_numbers_in, mkD "_law_begun" s__law_begun, mkD "_law_take" s__law_take, mkD "_law_alike" s__law_alike, mkD "_law_class" s__law_class, mkD "_law_told" s__law_told, mkD "_law_all" s__law_all, mkD "_law_per" s__law_per, mkD "_law_packed" s__law_packed, mkD "_law_base" s__law_base, mkD "law" s_law, ⟨("BadValues", some "__init__"), "__init__", "BadValues" ++ ".__init__", defArgs s_BadValues, defBody s_BadValues, defScope s_BadValues, [], []⟩]
def faL : List He.Fa := [.glo "per_cell", .glo "packed", .glo "read_packed", .glo "check_below", .glo "cell_of", .glo "numbers_in", .glo "_law_begun", .glo "_law_take", .glo "_law_alike", .glo "_law_class", .glo "_law_told", .glo "_law_all", .glo "_law_per", .glo "_law_packed", .glo "_law_base", .glo "law", .glo "BadNumber", .glo "BadValues", .glo "NoForm", .glo "BadPrices", .glo "BadKinds", .glo "BadRows", .glo "BadCondition", .glo "BadColumn", .glo "BadHeap", .glo "TooMany", .glo "BadBlock", .glo "Stopped", .glo "BadText", .glo "ColumnError", .int "LEAST_BASE" 2, .int "CELL_SIZE" 10000, .free "len", .free "tuple", .free "list", .free "int", .free "range", .free "enumerate", .free "reversed", .free "min", .free "max", .free "set", .free "sorted", .free "isinstance", .free "sum", .free "bool", .free "str", .free "ValueError", .exc "BadNumber", .meth "BadValues" "__init__"]
def tabL : List He.Tab := []
def tfL : List He.Defn := [("law", none)]
def exL (K : PySem.W.Frag) : Bool := excBB K (He.ga K "ColumnError") && (excPB K (He.ga K "BadValues") && (kindsB K (fun i => He.ga K (cnm i)) (He.ga K "ColumnError")))
abbrev R : PySem.W.OpenRow := PySem.W.OpenLaw.row PySem.Challenge.rw_codecolumns_k01_packed_numbers
abbrev hk : PySem.W.Hook := hookY 4 faL fnL tabL tfL exL
def ob (s : PySem.W.SharedT) : He.AlX := obsY 4 faL fnL tabL tfL exL (HandSHeadRun.getT s)
theorem ob_eq (s : PySem.W.SharedT) : ob s = hk.obs s.abs := obsY_eq (HandSHeadRun.getT_eq s)
def looseL : List Str := [("per_cell" : Str), ("packed" : Str), ("read_packed" : Str), ("check_below" : Str), ("cell_of" : Str), ("numbers_in" : Str), ("_law_begun" : Str), ("_law_take" : Str), ("_law_alike" : Str), ("_law_class" : Str), ("_law_told" : Str), ("_law_all" : Str), ("_law_per" : Str), ("_law_packed" : Str), ("_law_base" : Str), ("ColumnError" : Str), ("BadNumber" : Str), ("BadValues" : Str), ("NoForm" : Str), ("BadPrices" : Str), ("BadKinds" : Str), ("BadRows" : Str), ("BadCondition" : Str), ("BadColumn" : Str), ("BadHeap" : Str), ("TooMany" : Str), ("BadBlock" : Str), ("Stopped" : Str), ("BadText" : Str), ("LEAST_BASE" : Str), ("CELL_SIZE" : Str)]
theorem run_f (w : World) : HandSHeadRun.RunEq R (PySem.W.view R.prog [34]) hk ob 9000 looseL (w.withFollow "special-get-raises" false) := by
  intro os
  kernel_rfl
theorem run_t (w : World) : HandSHeadRun.RunEq R (PySem.W.view R.prog [34]) hk ob 9000 looseL (w.withFollow "special-get-raises" true) := by
  intro os
  kernel_rfl
theorem run (w : World) : HandSHeadRun.RunEq R (PySem.W.view R.prog [34]) hk ob 9000 looseL w := PySem.W.byRow2 "special-get-raises" (P := fun w => HandSHeadRun.RunEq R (PySem.W.view R.prog [34]) hk ob 9000 looseL w) run_f run_t w
end K3

set_option Elab.async false
set_option linter.all false
set_option maxRecDepth 100000
set_option maxHeartbeats 0
namespace K3
open PySem PySem.Spec PyProof.Rows L2
/-! ### what the hook tells -/
section
variable {P : Program} {w : World} {K : PySem.W.Frag} {h : Heap} {mg : Str → Option Value}
theorem df_of (X : K.In h) (G : h.Ns mainGlobals mg) (c : He.SaysD faL fnL K) (i j : Nat) {x : Str} {st : Stmt} {ps : List Str} (hd : fnL[i]? = some (mkD x st)) (hg : faL[j]? = some (.glo x))
    (hb : ∀ (kV doc pm : Value) (an : Option Addr) (cdv ct : Value) (us : List Value), us.length = ps.length → bindArgs (PySem.W.fnOf x x (defArgs st) (defBody st) (defScope st) .none kV doc pm an cdv ct) ⟨us, []⟩ = pure (ps.zip us)) : Df K mg x st ps := by
  obtain ⟨fd, F⟩ := c.def_ i hd
  exact ⟨_, fd, F, He.glo_ok X G (c.fact j hg), FunD.bindsN F hb⟩
theorem txt_of (X : K.In h) (G : h.Ns mainGlobals mg) (c : He.SaysD faL fnL K) : Txt mg where
  c_LEAST_BASE := He.int_ok X G (c.fact 30 rfl)
  c_CELL_SIZE := He.int_ok X G (c.fact 31 rfl)
  b_len := He.free_ok X G (c.fact 32 rfl)
  b_tuple := He.free_ok X G (c.fact 33 rfl)
  b_list := He.free_ok X G (c.fact 34 rfl)
  b_int := He.free_ok X G (c.fact 35 rfl)
  b_range := He.free_ok X G (c.fact 36 rfl)
  b_enumerate := He.free_ok X G (c.fact 37 rfl)
  b_reversed := He.free_ok X G (c.fact 38 rfl)
  b_min := He.free_ok X G (c.fact 39 rfl)
  b_max := He.free_ok X G (c.fact 40 rfl)
  b_set := He.free_ok X G (c.fact 41 rfl)
  b_sorted := He.free_ok X G (c.fact 42 rfl)
  b_isinstance := He.free_ok X G (c.fact 43 rfl)
theorem law_facts {f : Addr} (X : K.In h) (G : h.Ns mainGlobals mg) (hfa : mg ("law" : Str) = some (.ref f)) (cx : He.SaysX faL fnL tabL tfL exL w h K) :
    ∃ fd : FuncData, (∀ (s : Shared) (v : Value), BindsTo s fd ⟨[v], []⟩ [("_law_script", v)]) ∧ ∀ base : Heap, K.In base → base.Ns mainGlobals mg → LamX.TabB base mg (He.cT K ("law", none)).1 (He.cT K ("law", none)).2 → FnOk P w K mg base CX0 8 f fd ["_law_script"] (spLawT K (He.cT K ("law", none)).2) := by
  have c := cx.t.d
  obtain ⟨fd, F⟩ := c.def_ 15 (d := mkD "law" s_law) rfl
  have e := hfa.symm.trans (He.glo_ok X G (c.fact 15 (f := .glo "law") rfl))
  cases e
  have hcode_law : fd.code = .ref (He.cT K ("law", none)).1 := by
    obtain ⟨oc, od, dV, kV, doc, pm, an, cdv, ct, osl, rfl, lk, hcd, _, _⟩ := F.ex
    obtain ⟨cc, ec⟩ := He.codeIn_ref hcd
    have e2 := He.codeOf_eq (p := ("law", none)) lk ec
    show cdv = _
    rw [ec, ← e2]
    rfl
  have b := FunD.bindsA (ps := ["_law_script"]) F fun _ _ _ _ _ _ us hl => match us, hl with | [_], _ => rfl
  refine ⟨fd, fun s v => b s [v] rfl, fun base _ _ TB_law => ?_⟩
  have T := txt_of X G c
  have D_per_cell : Df K mg "per_cell" s_per_cell P_per_cell := df_of X G c 0 0 rfl rfl fun _ _ _ _ _ _ us hl => match us, hl with | [_], _ => rfl
  have D_packed : Df K mg "packed" s_packed P_packed := df_of X G c 1 1 rfl rfl fun _ _ _ _ _ _ us hl => match us, hl with | [_, _], _ => rfl
  have D_read_packed : Df K mg "read_packed" s_read_packed P_read_packed := df_of X G c 2 2 rfl rfl fun _ _ _ _ _ _ us hl => match us, hl with | [_, _, _], _ => rfl
  have D_check_below : Df K mg "check_below" s_check_below P_check_below := df_of X G c 3 3 rfl rfl fun _ _ _ _ _ _ us hl => match us, hl with | [_, _], _ => rfl
  have D_cell_of : Df K mg "cell_of" s_cell_of P_cell_of := df_of X G c 4 4 rfl rfl fun _ _ _ _ _ _ us hl => match us, hl with | [_, _], _ => rfl
  have D_numbers_in : Df K mg "numbers_in" s_numbers_in P_numbers_in := df_of X G c 5 5 rfl rfl fun _ _ _ _ _ _ us hl => match us, hl with | [_, _], _ => rfl
  have D__law_begun : Df K mg "_law_begun" s__law_begun P__law_begun := df_of X G c 6 6 rfl rfl fun _ _ _ _ _ _ us hl => match us, hl with | [_], _ => rfl
  have D__law_take : Df K mg "_law_take" s__law_take P__law_take := df_of X G c 7 7 rfl rfl fun _ _ _ _ _ _ us hl => match us, hl with | [_, _], _ => rfl
  have D__law_alike : Df K mg "_law_alike" s__law_alike P__law_alike := df_of X G c 8 8 rfl rfl fun _ _ _ _ _ _ us hl => match us, hl with | [_, _], _ => rfl
  have D__law_class : Df K mg "_law_class" s__law_class P__law_class := df_of X G c 9 9 rfl rfl fun _ _ _ _ _ _ us hl => match us, hl with | [_], _ => rfl
  have D__law_told : Df K mg "_law_told" s__law_told P__law_told := df_of X G c 10 10 rfl rfl fun _ _ _ _ _ _ us hl => match us, hl with | [_], _ => rfl
  have D__law_all : Df K mg "_law_all" s__law_all P__law_all := df_of X G c 11 11 rfl rfl fun _ _ _ _ _ _ us hl => match us, hl with | [_, _], _ => rfl
  have D__law_per : Df K mg "_law_per" s__law_per P__law_per := df_of X G c 12 12 rfl rfl fun _ _ _ _ _ _ us hl => match us, hl with | [_], _ => rfl
  have D__law_packed : Df K mg "_law_packed" s__law_packed P__law_packed := df_of X G c 13 13 rfl rfl fun _ _ _ _ _ _ us hl => match us, hl with | [_, _], _ => rfl
  have D__law_base : Df K mg "_law_base" s__law_base P__law_base := df_of X G c 14 14 rfl rfl fun _ _ _ _ _ _ us hl => match us, hl with | [_], _ => rfl
  have hex := cx.more
  obtain ⟨hexB, hex⟩ := Bool.and_eq_true_iff.mp hex
  obtain ⟨hexP_BadValues, hex⟩ := Bool.and_eq_true_iff.mp hex
  have KS : Kinds K mg (fun i => He.ga K (cnm i)) (He.ga K "ColumnError") := kinds_of hex (fun i hi => by
    match i, hi with
    | 0, _ => exact He.glo_ok X G (c.fact 16 (f := .glo "BadNumber") rfl)
    | 1, _ => exact He.glo_ok X G (c.fact 17 (f := .glo "BadValues") rfl)
    | 2, _ => exact He.glo_ok X G (c.fact 18 (f := .glo "NoForm") rfl)
    | 3, _ => exact He.glo_ok X G (c.fact 19 (f := .glo "BadPrices") rfl)
    | 4, _ => exact He.glo_ok X G (c.fact 20 (f := .glo "BadKinds") rfl)
    | 5, _ => exact He.glo_ok X G (c.fact 21 (f := .glo "BadRows") rfl)
    | 6, _ => exact He.glo_ok X G (c.fact 22 (f := .glo "BadCondition") rfl)
    | 7, _ => exact He.glo_ok X G (c.fact 23 (f := .glo "BadColumn") rfl)
    | 8, _ => exact He.glo_ok X G (c.fact 24 (f := .glo "BadHeap") rfl)
    | 9, _ => exact He.glo_ok X G (c.fact 25 (f := .glo "TooMany") rfl)
    | 10, _ => exact He.glo_ok X G (c.fact 26 (f := .glo "BadBlock") rfl)
    | 11, _ => exact He.glo_ok X G (c.fact 27 (f := .glo "Stopped") rfl)
    | 12, _ => exact He.glo_ok X G (c.fact 28 (f := .glo "BadText") rfl)
    | n + 13, h => exact absurd h (by omega)) (He.glo_ok X G (c.fact 29 (f := .glo "ColumnError") rfl))
  have XB : ExcB K mg (He.ga K "ColumnError") := excBB_ok hexB (He.glo_ok X G (c.fact 29 (f := .glo "ColumnError") rfl))
  have XP_BadValues : ExcP K mg "BadValues" s_BadValues (He.ga K "BadValues") := by
    obtain ⟨o1, o2⟩ := excPB_ok hexP_BadValues
    obtain ⟨fI, FI⟩ := c.def_ 16 rfl
    have mI := He.meth_ok (c.fact 49 (f := .meth "BadValues" "__init__") rfl)
    exact ⟨He.glo_ok X G (c.fact 17 (f := .glo "BadValues") rfl), o1, o2, _, fI, FI, FunD.bindsN FI fun _ _ _ _ _ _ us hl => match us, hl with | [_, _], _ => rfl, mI.at_, beq_iff_eq.mp mI.fn⟩
  have X_BadNumber : Exc1 K mg "BadNumber" (He.ga K "BadNumber") := by
    obtain ⟨x1, x2, x3, x4⟩ := He.exc_ok (c.fact 48 (f := .exc "BadNumber") rfl)
    exact ⟨He.glo_ok X G (c.fact 16 (f := .glo "BadNumber") rfl), x1, x2, x3, x4⟩
  have T4 : Txt4 mg := ⟨He.free_ok X G (c.fact 45 rfl), He.free_ok X G (c.fact 46 rfl), He.free_ok X G (c.fact 44 rfl)⟩
  have TE : TxtE mg := ⟨He.free_ok X G (c.fact 47 rfl)⟩
  have X_per_cell : ∀ b, Fn P w K mg b (L2.CX P w) 1 "per_cell" P_per_cell (spPerX (He.ga K "BadNumber")) := fun b => ok_per_cellX T X_BadNumber D_per_cell
  have X_check : ∀ b, Fn P w K mg b (L2.CX P w) 3 "check_below" P_check_below (spChkX K (He.ga K "BadValues")) := fun b => ok_check_belowX T XB XP_BadValues D_check_below
  have X_packed : ∀ b, Fn P w K mg b (L2.CX P w) 4 "packed" P_packed (spPckX K (He.ga K "BadNumber") (He.ga K "BadValues")) := fun b => ok_packedX T (X_per_cell b) (X_check b) (ok_cell_of T D_cell_of) D_packed
  have X_read_packed : ∀ b, Fn P w K mg b (L2.CX P w) 4 "read_packed" P_read_packed (spRdX K (He.ga K "BadNumber") (He.ga K "BadValues")) := fun b => ok_read_packedX T X_BadNumber (X_per_cell b) (X_check b) (ok_numbers_in T D_numbers_in (ok_per_cell T D_per_cell)) D_read_packed
  have G_begun := ok_begun (P := P) (w := w) (K := K) (base := base) T D__law_begun
  have G_take := ok_take (P := P) (w := w) (K := K) (base := base) T D__law_take
  have G_base := ok_base (P := P) (w := w) (K := K) (base := base) T D__law_base G_take
  have G_lper := ok_lper (P := P) (w := w) (K := K) (base := base) T D__law_per
  have G_lpacked := ok_lpacked T D__law_packed G_lper
  have G_alike := ok_alike (P := P) (w := w) (K := K) (base := base) T T4 D__law_alike 3
  have G_all : ∀ b, Fn P w K mg b CX0 7 "_law_all" P__law_all (spAll P w K mg 4 3 (fun i => He.ga K (cnm i)) b) := fun b => ok_allB (k := 4) (n := 3) (by decide) T (ok_toldB KS (ok_class T TE KS D__law_class) D__law_told) (ok_alike T T4 D__law_alike 3) D__law_all
  exact ok_law T F hcode_law TB_law G_all G_begun G_take G_base G_lper G_lpacked G_alike X_per_cell X_packed X_read_packed
end
end K3
open PySem PySem.W PySem.Calls PyProof.Rows
theorem PySem.Challenge.cw_codecolumns_k01_packed_numbers_holds : PySem.Challenge.rw_codecolumns_k01_packed_numbers.Holds := by
  w_on; o_law
  refine HandSHeadRun.head_any (r := OpenLaw.row PySem.Challenge.rw_codecolumns_k01_packed_numbers) (q := view (OpenLaw.row PySem.Challenge.rw_codecolumns_k01_packed_numbers).prog [34]) (H := K3.hk) (ob := K3.ob) (M := 9000) (loose := K3.looseL) (d := HandSHeadRun.topDef (OpenLaw.row PySem.Challenge.rw_codecolumns_k01_packed_numbers).prog 34) (kwd := []) K3.ob_eq
    (by kernel_rfl) (fun s => by kernel_rfl) K3.run (by kernel_rfl) (by kernel_rfl) (by kernel_rfl) (by rfl) (by first | assumption | decide +kernel) (by decide +kernel) ⟨rfl, rfl, rfl, rfl, rfl, by decide +kernel⟩ ?hw ?hc
  case hw => w_witness2
  case hc =>
    refine K3.walk_ofTE (l := PySem.Challenge.rw_codecolumns_k01_packed_numbers) (n := 63) (k := 8) (x := "_law_script") (CX := fun _ => L2.CX0) rfl (by decide) (by kernel_rfl) ⟨rfl, by decide, by decide⟩ ?F (fun _ _ _ _ _ z => z)
    intro w mg fa h Y G hmg0
    obtain ⟨K, KX, c⟩ := Y
    have hmg : mg ("law" : PySem.Str) = some (.ref fa) := by
      have e : (HandSHeadRun.topDef (OpenLaw.row PySem.Challenge.rw_codecolumns_k01_packed_numbers).prog 34).name = ("law" : PySem.Str) := by kernel_rfl
      rw [← e]
      exact hmg0
    obtain ⟨fd, hb, hF⟩ := K3.law_facts (P := (PySem.Challenge.rw_codecolumns_k01_packed_numbers).prog) (w := w) KX G hmg c
    refine ⟨K, KX, fd, K3.tfL.map (He.cT K), K3.spLawT K (He.cT K ("law", none)).2, fun p hp => ?_, fun p hp => ?_, fun p hp => ?_, hb, fun H a ns hl hbits hT hS => ?_, fun base kb nb TBs => hF base kb nb (TBs (He.cT K ("law", none)) (List.mem_map.mpr ⟨("law", none), by simp [K3.tfL], rfl⟩))⟩
    · obtain ⟨q, hq, e⟩ := List.mem_map.mp hp
      rw [← e]
      exact c.empty q hq
    · obtain ⟨q, hq, e⟩ := List.mem_map.mp hp
      rw [← e]
      exact c.out q hq
    · obtain ⟨q, hq, e⟩ := List.mem_map.mp hp
      rw [← e]
      exact codeHd_of_K KX (c.hd q hq)
    · exact ⟨a, ns, rfl, hS, hl, K3.tabs_start hT (fun q hq => ⟨He.cT K ("law", none), List.mem_map.mpr ⟨("law", none), by simp [K3.tfL], rfl⟩, by rw [List.mem_singleton.mp hq]⟩), fun _ => rfl⟩
